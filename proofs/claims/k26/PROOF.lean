import PyProof.Rows.All
import Wide.All
import OpenK.AllK
import Wide.FinOn
import Lean
import PyProof.EqAt
import PyProof.EqKinds
import PyProof.TupleCall
import KE.KDictList
import PyProof.Rows.StrCountLaw
import KE.KIntText
import PyProof.P3In
import PySem.Challenge.RW_deadhand_k26_needs_joined
open PySem.W (instObj hideAll Frag lookIn plainGet hasDictIn findIn isFn plainOver makesIn emptyDict keepIn fnOf codeIn excIn nsIn subIn mg_of mg_none_of)
open Nat (lt_of_lt_of_le lt_irrefl ne_of_lt le_trans le_of_lt le_refl zero_le lt_succ_self le_succ lt_succ_of_lt sub_self lt_or_ge)
open List (filterMap_cons mem_cons_self mem_cons_of_mem mem_append_left mem_append_right size_toArray length_cons map_cons length_map append_nil length_take getElem?_append_right getElem?_append_left getElem?_map mem_of_getElem? length_append length_replicate find?_cons any_cons map_nil replicate_succ flatten_cons append_assoc foldl_cons length_singleton take_succ getElem?_eq_getElem take_length mem_append all_append map_append nodup_append mem_singleton map_map map_congr_left eq_nil_or_concat mem_map length_range mem_cons not_mem_nil getElem_mem filter_append filter_cons_of_pos filter_cons_of_neg length_filter_le getElem?_eq_none mem_filter any_eq_true length_reverse mem_of_mem_take)
open Array (length_toList getElem?_toList)
open Option (isSome_map map_some)
open PySem.F (slot_dict_get entry_dict_get plainAttrs_str slot_str_count type_str_count plainAttrs_list)
open Int (toNat_natCast emod_lt_of_pos emod_nonneg)
open Bool (and_eq_true false_eq_true or_eq_true)
open PySem (boot_len sizeLine_eq)
open PyProof.Rows (boot_list boot_max boot_str)
set_option Elab.async false
set_option linter.all false
set_option maxRecDepth 100000
namespace L2
open PySem PySem.Spec PyProof.Rows
noncomputable abbrev Key:=Sum Int Str
noncomputable def Zc5:Key→Value→Bool
  | .inl k,v=>Value.isInt k v
  | .inr x,v=>Value.isStrOf x v
noncomputable def keyH (w:World):Key→Int
  | .inl k=>hashInt k
  | .inr x=>hashStr w x
theorem Z7:∀ {k:Key} {v:Value},Zc5 k v=true→(∃ i t,k=Sum.inl i∧v=Value.int i t)∨(∃ x t,k=Sum.inr x∧v=Value.str x t)
  | .inl i,v,h=>by
    obtain ⟨t,e⟩:=Value.isInt_shape (k:=i) (v:=v) h;exact .inl ⟨i,t,rfl,e⟩
  | .inr x,v,h=>by
    obtain ⟨t,e⟩:=Value.isStrOf_shape (x:=x) (v:=v) h;exact .inr ⟨x,t,rfl,e⟩
theorem Zis (i:Int) (t:Tok):Zc5 (.inl i) (.int i t)=true:=by simp [Zc5,Value.isInt]
theorem ZeJ (x:Str) (t:Tok):Zc5 (.inr x) (.str x t)=true:=by simp [Zc5,Value.isStrOf]
theorem key_ll (a b:Int):decide ((Sum.inl a:Key)=Sum.inl b)=(a == b):=by
  by_cases e:a=b
  · subst e; simp
  · have h:¬ (Sum.inl a:Key)=Sum.inl b:=fun q=>e (Sum.inl.inj q);rw [decide_eq_false h];exact (beq_eq_false_iff_ne.mpr e).symm
theorem key_rr (a b:Str):decide ((Sum.inr a:Key)=Sum.inr b)=decide (a=b):=by
  by_cases e:a=b
  · subst e; simp
  · have h:¬ (Sum.inr a:Key)=Sum.inr b:=fun q=>e (Sum.inr.inj q);rw [decide_eq_false h,decide_eq_false e]
theorem key_lr (a:Int) (b:Str):decide ((Sum.inl a:Key)=Sum.inr b)=false:=decide_eq_false (fun q=>nomatch q)
theorem key_rl (a:Str) (b:Int):decide ((Sum.inr a:Key)=Sum.inl b)=false:=decide_eq_false (fun q=>nomatch q)
noncomputable def ZJ (prog:Program) (w:World):PySem.KeyKind prog w Key where
  is:=Zc5
  hash:=keyH w
  inj:=fun v a b ha hb=>by
    rcases Z7 ha with ⟨i,t,rfl,rfl⟩ | ⟨x,t,rfl,rfl⟩
    · rcases Z7 hb with ⟨j,u,rfl,e⟩ | ⟨y,u,rfl,e⟩
      · injection e with e1 _; rw [e1]
      · exact nomatch e
    · rcases Z7 hb with ⟨j,u,rfl,e⟩ | ⟨y,u,rfl,e⟩
      · exact nomatch e
      · injection e with e1 _; rw [e1]
  byValue:=fun k v h=>by
    rcases Z7 h with ⟨i,t,rfl,rfl⟩ | ⟨x,t,rfl,rfl⟩ <;> rfl
  pyHash:=fun hv h=>by
    rcases Z7 hv with ⟨i,t,rfl,rfl⟩ | ⟨x,t,rfl,rfl⟩
    · exact wpAny_pyHash_int h
    · exact wpAny_pyHash_str h
  eqBool:=fun hu hv h=>by
    rcases Z7 hu with ⟨i,t,rfl,rfl⟩ | ⟨x,t,rfl,rfl⟩
    · rcases Z7 hv with ⟨j,u,rfl,rfl⟩ | ⟨y,u,rfl,rfl⟩
      · rw [key_ll] at h; exact wpAny_eqBool_int h
      · rw [key_lr] at h; exact SeqAt.EqAt.int_str i t y u _ _ _ _ h
    · rcases Z7 hv with ⟨j,u,rfl,rfl⟩ | ⟨y,u,rfl,rfl⟩
      · rw [key_rl] at h; exact SeqAt.EqAt.str_int x t j u _ _ _ _ h
      · rw [key_rr] at h; exact wpAny_eqBool_str h
  «strs»:=fun k x t v h=>by
    rcases Z7 h with ⟨i,u,rfl,e⟩ | ⟨y,u,rfl,e⟩
    · exact nomatch e
    · injection e with e1 _;subst e1;cases v <;> rfl
theorem ZgA (prog:Program) (w:World) (i:Int) (t:Tok):(ZJ prog w).is (.inl i) (.int i t)=true:=Zis i t
theorem Zgz (prog:Program) (w:World) (x:Str) (t:Tok):(ZJ prog w).is (.inr x) (.str x t)=true:=ZeJ x t
open PySem PySem.Spec PyProof.Rows
inductive V where
  | non | bl (b:Bool) | int (i:Int) | str (x:Str) | byt (b:Array UInt8) | flt (b:UInt64) | ref (a:Addr) | ty (n:String)
  deriving DecidableEq
noncomputable def ZG:V→Value→Prop
  | .non,u=>u=Value.none
  | .bl b,u=>u=Value.bool b
  | .int i,u=>∃ t,u=Value.int i t
  | .str x,u=>∃ t,u=Value.str x t
  | .byt b,u=>∃ t,u=Value.bytes b t
  | .flt b,u=>∃ t,u=Value.float b t
  | .ref a,u=>u=Value.ref a
  | .ty n,u=>u=Value.type n
noncomputable abbrev ZF:List V→List Value→Prop:=Paired ZG
theorem ZF.length {xs:List V} {us:List Value} (r:ZF xs us):xs.length=us.length:=Paired.length r
theorem ZF.get:∀ {xs:List V} {us:List Value} {i:Nat} {x:V},ZF xs us→xs[i]? = some x→∃ u,us[i]? = some u∧ZG x u
  | _,_,_,_, .nil,e=>by simp at e
  | _,_,0,_, .cons r _,e=>by simp at e; subst e; exact ⟨_,rfl,r⟩
  | _,_,i+1,x, .cons _ t,e=>by
    obtain ⟨u,h1,h2⟩:=ZF.get (i:=i) (x:=x) t (by simpa using e);exact ⟨u,by simpa using h1,h2⟩
theorem ZF.set {x:V} {u:Value} (r:ZG x u):∀ {xs:List V} {us:List Value} (i:Nat),ZF xs us→ZF (xs.set i x) (us.set i u)
  | _,_,_, .nil => .nil
  | _,_,0, .cons _ t => .cons r t
  | _,_,i+1, .cons q t => .cons q (ZF.set r i t)
theorem ZF.append:∀ {xs ys:List V} {us ws:List Value},ZF xs us→ZF ys ws→ZF (xs++ys) (us++ws)
  | _,_,_,_, .nil,s=>s
  | _,_,_,_, .cons r t,s => .cons r (ZF.append t s)
theorem ZF.take:∀ {xs:List V} {us:List Value} (n:Nat),ZF xs us→ZF (xs.take n) (us.take n)
  | _,_,0,_ => .nil
  | _,_,_+1, .nil => .nil
  | _,_,n+1, .cons r t => .cons r (ZF.take n t)
theorem ZF.drop:∀ {xs:List V} {us:List Value} (n:Nat),ZF xs us→ZF (xs.drop n) (us.drop n)
  | _,_,0,r=>r
  | _,_,_+1, .nil => .nil
  | _,_,n+1, .cons _ t=>ZF.drop n t
noncomputable def Za8:Option V→Option Value→Prop
  | some v,some u=>ZG v u
  | none,none=>True
  | _,_=>False
noncomputable def KV {κ:Type}:List (κ×V)→List (κ×Value)→Prop:=Paired fun (p:κ×V) (q:κ×Value)=>p.1=q.1∧ZG p.2 q.2
noncomputable def kV:Key→V
  | .inl i => .int i
  | .inr x => .str x
inductive HO where
    | lst (xs:List V)
    | tup (xs:List V)
    | dK (kvs:List (Key×V)) | dT (kvs:List (List Key×V))
    | set (S:Int→Bool) (n:Nat)
    | ins (C dx:Addr) (fs:List (Str×V))
    | own (x:Addr)
    | xd (fs:List (Str×V))
    | met (f x:Addr)
    | rng (lo hi:Int)
    | frz (o:Obj) (u:HO)
    | tbl (ps:Array Value)
    | ext (φ:Heap→Prop)
noncomputable abbrev Hp:=Addr→Option HO
noncomputable def upd (H:Hp) (a:Addr) (o:HO):Hp:=fun b=>if b=a then some o else H b
theorem Zd {H:Hp} {a:Addr} {o:HO}:upd H a o a=some o:=by unfold upd; rw [if_pos rfl]
theorem Zh {H:Hp} {a b:Addr} {o:HO} (h:b≠a):upd H a o b=H b:=by unfold upd; rw [if_neg h]
theorem Ze0 {H:Hp} {a:Addr} {o u:HO}:upd (upd H a o) a u=upd H a u:=by
  funext b; unfold upd; split <;> rfl
theorem ne_of {H:Hp} {a b:Addr} {o u:HO} (h:H a=some o) (h':H b=some u) (d:o≠u):a≠b:=by
  intro e; subst e; rw [h] at h'; exact d (Option.some.inj h')
theorem ZB {H:Hp} {a b:Addr} {o:HO} (h:H a=some o) (h':H b=none):a≠b:=by
  intro e; subst e; rw [h] at h'; cases h'
section
variable (P:Program) (w:World)
noncomputable def YJ (H:Hp) (h:Heap) (a:Addr):HO→Prop
  | .lst xs=>xs.length≤sizeLine∧∃ (its:List Value) (n:Nat),ZF xs its∧h.get? a=some { cls := .type "list",data := .seq its.toArray n }
  | .tup xs=>xs.length≤sizeLine∧∃ its:List Value,ZF xs its∧IsTup h a its.toArray
  | .dK kvs=>kvs.length≤sizeLine∧(a == sysModules)=false∧∃ vs,KV kvs vs∧h.DictOf (ZJ P w) a vs
  | .dT kvs=>kvs.length≤sizeLine∧(a == sysModules)=false∧∃ xs:List (List Key×Addr×Value),
      Paired (fun (p:List Key×V) (q:List Key×Addr×Value)=>p.1=q.1∧H q.2.1=some (.tup (p.1.map kV))∧ZG p.2 q.2.2) kvs xs ∧
      ∃ o es ep,h.get? a=some o∧o.ExactDict∧o.data = .dict es ep∧es.toList=xs.map (entryOfKey (tupleKind (ZJ P w)))∧(xs.map (·.1)).Nodup
  | .set S n=>h.SetOf (intKind P w) a S n
  | .ins C dx fs=>H dx=some (.own a)∧fs.length≤1000∧dx≠a∧h.get? a=some (instObj C dx) ∧
      ∃ mA,h.Ns1 dx mA∧(∀ f,Za8 (fs.lookup f) (mA f))∧PySem.Within mA (fs.map (·.1))
  | .own _=>∃ o,h.get? a=some o
  | .xd fs=>∃ mA,h.Ns1 a mA∧∀ f,Za8 (fs.lookup f) (mA f)
  | .rng lo hi=>∃ t u v,h.get? a=some { cls := .type "range",data := .fields #[.int lo t, .int hi u, .int 1 v] }
  | .frz o u=>h.get? a=some o∧YJ H h a u
  | .tbl ps=>h.get? a=some { cls := .none,data := .fields ps }
  | .met f x=>h.get? a=some (PySem.W.methodObj (.ref f) (.ref x))
  | .ext φ=>φ h∧(∃ o,h.get? a=some o)∧∀ h1 h2:Heap,φ h1→(∀ o,h1.get? a=some o→h2.get? a=some o)→φ h2
noncomputable def HOk (H:Hp) (h:Heap):Prop:=∀ a o,H a=some o→YJ P w H h a o
end
section
variable {P:Program} {w:World} {H H':Hp} {h h':Heap} {a:Addr} {o:HO}
theorem YJ.lt (x:YJ P w H h a o):a<h.objs.size:=by
  cases o with
  | lst xs=>obtain ⟨_,_,_,_,e⟩:=x; exact Heap.lt_size e
  | tup xs=>obtain ⟨_,_,_,p⟩:=x; exact p.lt
  | dK kvs=>obtain ⟨_,_,_,_,o,_,_,e,_⟩:=x; exact Heap.lt_size e
  | dT kvs=>obtain ⟨_,_,_,_,o,_,_,e,_⟩:=x; exact Heap.lt_size e
  | set S n=>obtain ⟨o,_,_,_,e,_⟩:=x; exact Heap.lt_size e
  | ins C dx fs=>obtain ⟨_,_,_,e,_⟩:=x; exact Heap.lt_size e
  | own y=>obtain ⟨_,e⟩:=x; exact Heap.lt_size e
  | xd fs=>obtain ⟨_,⟨_,_,_,e,_⟩,_⟩:=x; exact Heap.lt_size e
  | rng lo hi=>obtain ⟨_,_,_,e⟩:=x; exact Heap.lt_size e
  | frz ob u=>obtain ⟨e,_⟩:=x; exact Heap.lt_size e
  | tbl ps=>exact Heap.lt_size (show h.get? a=some _ from x)
  | met f y=>exact Heap.lt_size (show h.get? a=some _ from x)
  | ext φ=>obtain ⟨_,⟨_,e⟩,_⟩:=x; exact Heap.lt_size e
theorem Paired.mapP {α β:Type} {F G:α→β→Prop}:∀ {l₁:List α} {l₂:List β},Paired F l₁ l₂→(∀ a b,F a b→G a b)→Paired G l₁ l₂
  | _,_, .nil,_ => .nil
  | _,_, .cons r t,f => .cons (f _ _ r) (Paired.mapP t f)
theorem YJ.stay (x:YJ P w H h a o) (k:∀ b u,(b=a∨H b=some (.own a))→h.get? b=some u→h'.get? b=some u)
    (ho:∀ b,H b=some (.own a)→H' b=some (.own a)) (ht:∀ b xs,H b=some (.tup xs)→H' b=some (.tup xs)):YJ P w H' h' a o:=by
  induction o with
  | lst xs=>obtain ⟨z,its,n,r,e⟩:=x; exact ⟨z,its,n,r,k _ _ (.inl rfl) e⟩
  | tup xs=>obtain ⟨z,its,r,ob,e,c⟩:=x; exact ⟨z,its,r,ob,k _ _ (.inl rfl) e,c⟩
  | dK kvs=>obtain ⟨z,y,vs,r,ob,es,ep,e,c⟩:=x; exact ⟨z,y,vs,r,ob,es,ep,k _ _ (.inl rfl) e,c⟩
  | dT kvs =>
    obtain ⟨z,y,xs,r,ob,es,ep,e,c⟩:=x;exact ⟨z,y,xs,Paired.mapP r fun p q z=>⟨z.1,ht _ _ z.2.1,z.2.2⟩,ob,es,ep,k _ _ (.inl rfl) e,c⟩
  | set S n=>obtain ⟨ob,es,ep,t,e,c⟩:=x; exact ⟨ob,es,ep,t,k _ _ (.inl rfl) e,c⟩
  | ins C dx fs =>
    obtain ⟨d,z,ne,e,mA,⟨od,es,ep,e2,c⟩,r⟩:=x;exact ⟨ho _ d,z,ne,k _ _ (.inl rfl) e,mA,⟨od,es,ep,k _ _ (.inr d) e2,c⟩,r⟩
  | own y=>obtain ⟨ob,e⟩:=x; exact ⟨ob,k _ _ (.inl rfl) e⟩
  | xd fs=>obtain ⟨mA,⟨od,es,ep,e,c⟩,r⟩:=x; exact ⟨mA,⟨od,es,ep,k _ _ (.inl rfl) e,c⟩,r⟩
  | rng lo hi=>obtain ⟨t,u,v,e⟩:=x; exact ⟨t,u,v,k _ _ (.inl rfl) e⟩
  | frz ob u ih=>obtain ⟨e,q⟩:=x; exact ⟨k _ _ (.inl rfl) e,ih q⟩
  | tbl ps =>
    have e:h.get? a=some { cls := .none,data := .fields ps }:=x;show h'.get? a=some { cls := .none,data := .fields ps };exact k a _ (.inl rfl) e
  | met f y =>
    have e:h.get? a=some (PySem.W.methodObj (.ref f) (.ref y)):=x;show h'.get? a=some (PySem.W.methodObj (.ref f) (.ref y));exact k a _ (.inl rfl) e
  | ext φ=>obtain ⟨p,⟨o,e⟩,st⟩:=x; exact ⟨st _ _ p fun o q=>k _ _ (.inl rfl) q,⟨o,k _ _ (.inl rfl) e⟩,st⟩
theorem HOk.lt (x:HOk P w H h) (e:H a=some o):a<h.objs.size:=(x a o e).lt
theorem HOk.fresh (x:HOk P w H h) (e:h.objs.size≤a):H a=none:=by
  cases q:H a with
  | none=>rfl
  | some u=>exact absurd (lt_of_lt_of_le (x.lt q) e) (lt_irrefl _)
theorem HOk.kept (x:HOk P w H h) (k:∀ b u,h.get? b=some u→h'.get? b=some u):HOk P w H h':=fun a o e =>
  (x a o e).stay (fun b u _ q=>k b u q) (fun _ q=>q) fun _ _ q=>q
theorem HOk.laid (x:HOk P w H h) (k:∀ b u,h.get? b=some u→h'.get? b=some u) (hp:h.objs.size≤a) (new:YJ P w (upd H a o) h' a o):HOk P w (upd H a o) h':=fun b u e=>by
  have hn:=x.fresh hp
  by_cases hb:b=a
  · subst hb; rw [Zd] at e; cases e; exact new
  · rw [Zh hb] at e;exact (x b u e).stay (fun c v _ q=>k c v q) (fun c q=>by rw [Zh (ZB q hn)]; exact q) fun c xs q=>by rw [Zh (ZB q hn)]; exact q
end
noncomputable def Rd (H:Hp) (a:Addr) (u:HO):Prop:=H a=some u∨∃ o,H a=some (.frz o u)
theorem Rd.ok {P:Program} {w:World} {H:Hp} {h:Heap} {a:Addr} {u:HO} (r:Rd H a u) (x:HOk P w H h):YJ P w H h a u:=by
  rcases r with r | ⟨o,r⟩
  · exact x a u r
  · obtain ⟨_,q⟩:=x a _ r;exact q
noncomputable def Mut:Option HO→Prop
  | some (.lst _)=>True
  | some (.dK _)=>True
  | some (.dT _)=>True
  | some (.set _ _)=>True
  | some (.ins _ _ _)=>True
  | some (.ext _)=>True
  | _=>False
section
variable {P:Program} {w:World} {H:Hp} {h h':Heap} {x e:Addr} {o':HO}
theorem HOk.write (ok:HOk P w H h) (mu:Mut (H x)) (he:e=x∨H e=some (.own x)) (k:∀ b u,b≠e→h.get? b=some u→h'.get? b=some u) (heo:∃ u,h'.get? e=some u)
    (new:YJ P w (upd H x o') h' x o'):HOk P w (upd H x o') h':=fun b u q=>by
  have nown:∀ c y,H c=some (.own y)→c≠x:=fun c y r z=>by subst z; rw [r] at mu; exact mu
  have ntup:∀ c xs,H c=some (.tup xs)→c≠x:=fun c xs r z=>by subst z; rw [r] at mu; exact mu
  by_cases hb:b=x
  · subst hb; rw [Zd] at q; cases q; exact new
  · rw [Zh hb] at q
    by_cases hbe:b=e
    · have q':H b=some (.own x):=by
        rcases he with z | z
        · exact absurd (hbe.trans z) hb
        · rw [hbe]; exact z
      rw [q] at q'; cases q';obtain ⟨v,hv⟩:=heo;exact ⟨v,by rw [hbe]; exact hv⟩
    · refine (ok b u q).stay (fun c v hc r=>k c v ?_ r) (fun c r=>by rw [Zh (nown c b r)]; exact r) fun c xs r=>by rw [Zh (ntup c xs r)]; exact r
      rcases hc with rfl | hc
      · exact hbe
      · rintro rfl;rcases he with z | z
        · exact nown c b hc z
        · rw [hc] at z; cases z; exact hb rfl
end
structure Un (fs ex:List Addr) (H H':Hp) (h h':Heap):Prop where
  keep:∀ b o,h.get? b=some o→H b=none→b∉fs→b∉ex→h'.get? b=some o
  slot:∀ b o,h.get? b=some o→H b=none→b∈fs→b∉ex→∃ sl,h'.get? b=some { o with slots:=sl }
  free:∀ b o,h.get? b=some o→H b=none→b∉ex→H' b=none
  there:∀ b o,h.get? b=some o→b∉ex→∃ o',h'.get? b=some o'
  tups:∀ b xs,H b=some (.tup xs)→H' b=some (.tup xs)
  frzs:∀ b o u,H b=some (.frz o u)→H' b=some (.frz o u)
  tbls:∀ b ps,H b=some (.tbl ps)→∃ more,H' b=some (.tbl (ps++more))
section
variable {fs fs' ex ex':List Addr} {H H1 H2:Hp} {h h1 h2 h':Heap} {a x e:Addr} {o:HO}
theorem Un.any (u:Un fs ex H H1 h h1) {b:Addr} {ob:Obj} (q:h.get? b=some ob) (n:H b=none) (hx:b∉ex):∃ sl,h1.get? b=some { ob with slots:=sl }:=by
  by_cases hb:b∈fs
  · exact u.slot b ob q n hb hx
  · exact ⟨ob.slots,u.keep b ob q n hb hx⟩
theorem Un.trans (a:Un fs ex H H1 h h1) (b:Un fs ex H1 H2 h1 h2):Un fs ex H H2 h h2 where
  keep:=fun c ob q n hc hx=>b.keep c ob (a.keep c ob q n hc hx) (a.free c ob q n hx) hc hx
  slot:=fun c ob q n hc hx=>by
    obtain ⟨sl,e1⟩:=a.slot c ob q n hc hx;obtain ⟨sl',e2⟩:=b.slot c _ e1 (a.free c ob q n hx) hc hx;exact ⟨sl',e2⟩
  free:=fun c ob q n hx=>by
    obtain ⟨o',e1⟩:=a.there c ob q hx;exact b.free c o' e1 (a.free c ob q n hx) hx
  there:=fun c ob q hx=>by
    obtain ⟨o',e1⟩:=a.there c ob q hx;exact b.there c o' e1 hx
  tups:=fun c xs q=>b.tups c xs (a.tups c xs q)
  frzs:=fun c ob xs q=>b.frzs c ob xs (a.frzs c ob xs q)
  tbls:=fun c ps q=>by
    obtain ⟨m1,e1⟩:=a.tbls c ps q;obtain ⟨m2,e2⟩:=b.tbls c _ e1;exact ⟨m1++m2,by rw [e2,Array.append_assoc]⟩
theorem Un.kept (k:∀ b u,h.get? b=some u→h'.get? b=some u):Un fs ex H H h h':=
  ⟨fun b ob q _ _ _=>k b ob q,fun b ob q _ _ _=>⟨ob.slots,k b ob q⟩,fun _ _ _ n _=>n,fun b ob q _=>⟨ob,k b ob q⟩,fun _ _ q=>q,fun _ _ _ q=>q,fun _ ps q=>⟨#[],by rw [q]; simp⟩⟩
theorem Un.refl:Un fs ex H H h h:=Un.kept fun _ _ q=>q
theorem Un.laid (k:∀ b u,h.get? b=some u→h'.get? b=some u) (hp:h.objs.size≤a) (hn:H a=none):Un fs ex H (upd H a o) h h' where
  keep:=fun b u q _ _ _=>k b u q
  slot:=fun b u q _ _ _=>⟨u.slots,k b u q⟩
  free:=fun b u q n _=>by rw [Zh (ne_of_lt (lt_of_lt_of_le (Heap.lt_size q) hp))]; exact n
  there:=fun b u q _=>⟨u,k b u q⟩
  tups:=fun b xs q=>by rw [Zh (ZB q hn)]; exact q
  frzs:=fun b u xs q=>by rw [Zh (ZB q hn)]; exact q
  tbls:=fun b ps q=>⟨#[],by rw [Zh (ZB q hn),q]; simp⟩
theorem Un.write (mu:Mut (H x)) (he:e=x∨H e=some (.own x)) (k:∀ b u,b≠e→h.get? b=some u→h'.get? b=some u) (heo:∃ u,h'.get? e=some u):Un fs ex H (upd H x o) h h':=by
  have hx:∀ b,H b=none→b≠x:=fun b n z=>by subst z; rw [n] at mu; exact mu
  have hb:∀ b,H b=none→b≠e:=fun b n z=>by
    subst z;rcases he with r | r
    · exact hx b n r
    · rw [n] at r; cases r
  have hm:∀ b u,H b=some u→¬ Mut (some u)→b≠x:=fun b u q nm z=>by subst z; rw [q] at mu; exact nm mu
  refine ⟨fun b u q n _ _=>k b u (hb b n) q,fun b u q n _ _=>⟨u.slots,k b u (hb b n) q⟩,fun b u q n _=>by rw [Zh (hx b n)]; exact n,fun b u q _=>?_,
    fun b xs q=>by rw [Zh (hm b _ q fun z=>z)]; exact q,fun b u xs q=>by rw [Zh (hm b _ q fun z=>z)]; exact q,fun b ps q=>⟨#[],by rw [Zh (hm b _ q fun z=>z),q]; simp⟩⟩
  by_cases hbe:b=e
  · subst hbe; exact heo
  · exact ⟨u,k b u hbe q⟩
end
noncomputable def trk (h:Heap) (H:Hp):List Addr:=(List.range h.objs.size).filter fun a=>(H a).isSome
noncomputable def ZfC (h:Heap) (H:Hp):Heap:=hideAll h (trk h H)
theorem Ziv (h:Heap) (H:Hp):(ZfC h H).objs.size=h.objs.size:=PySem.W.hideAll_size _ _
theorem ZjC {h:Heap} {H:Hp} {b:Addr} {o:Obj} (e:h.get? b=some o) (n:H b=none):(ZfC h H).get? b=some o:=
  PySem.W.hideAll_get _ e fun hm=>by
    have q:(H b).isSome=true:=(List.mem_filter.mp hm).2;rw [n] at q; simp at q
theorem Zkg {h:Heap} {H:Hp} {b:Addr} {o:Obj} (e:(ZfC h H).get? b=some o):h.get? b=some o∧H b=none:=by
  have e':h.get? b=some o:=PySem.W.of_hideAll (trk h H) e;refine ⟨e',?_⟩;cases q:H b with
  | none=>rfl
  | some x =>
    have hm:b∈trk h H:=List.mem_filter.mpr ⟨List.mem_range.mpr (Heap.lt_size e'),by simp [q]⟩;have z:(ZfC h H).get? b=none:=PySem.W.hideAll_none (trk h H) hm;rw [z] at e; cases e
noncomputable def Zkz (g h:Heap) (L:Addr):List (Addr×Obj):=(List.range h.objs.size).filterMap fun a=>if a=L∨(g.get? a).isSome=true then none else (h.get? a).map fun o=>(a,o)
noncomputable def ZbY (g h:Heap) (L d:Addr):List (Addr×Obj):=(Zkz g h L).filter fun p=>decide (p.1≠d)
open PySem PySem.Spec PyProof.Rows
structure Mod (K:Frag) (mg:Str→Option Value) (base:Heap):Prop where
  kin:K.In base
  glob:base.Ns mainGlobals mg
  blt:∃ mb,base.Ns builtinsNs mb∧∀ x:Str,x≠"__name__"→mb x=bootBuiltins x
  nolimit:base.NoLimit
structure Cx where
  prog:Program
  w:World
  K:Frag
  mg:Str→Option Value
  base:Heap
  A:Around
  N:List Str
  s₀:Shared
  H₀:Hp
  env:Env
  outer:List Env
  stack:List Env
  ex:List Addr
  fn:Str→Bool
  calm:Bool
  pn:List (Addr×Obj)
  xe:Value→Shared→Prop
noncomputable def frs (l:List Env):List Addr:=l.filterMap (·.frame)
noncomputable abbrev Cx.fs (X:Cx):List Addr:=frs X.outer
noncomputable def Vis (sc:Scope) (x:Str):Prop:=sc.names.lookup x=some .local∨sc.names.lookup x=some .cell∨sc.names.lookup x=some .free
noncomputable def Loc (sc:Scope) (x:Str):Prop:=sc.names.lookup x=some .local∨sc.names.lookup x=some .cell
noncomputable def Look (env:Env) (h:Heap) (m:Str→Option Value) (x:Str) (u:Value):Prop:=
  (env.kindOf x=some .local∧m x=some u)∨((env.kindOf x=some .cell∨env.kindOf x=some .free)∧∃ c,env.cells.lookup x=some c∧h.IsCell c (some u))
structure Cx.Ok (X:Cx):Prop where
  mod:Mod X.K X.mg X.base
  kind:X.env.scope.kind = .function
  glob:X.env.globals=mainGlobals
  blt:X.env.builtins=builtinsNs
  above:X.s₀.heap.objs.size≤X.env.locals
  inj:∀ x y c,X.env.cells.lookup x=some c→X.env.cells.lookup y=some c→x=y
  has:∀ x,(X.env.kindOf x=some .cell∨X.env.kindOf x=some .free)→∃ c,X.env.cells.lookup x=some c
  cab:∀ x c,X.fn x=true→X.env.cells.lookup x=some c→X.s₀.heap.objs.size≤c
  hd:X.calm=true→X.A.handled=none
  frames:X.A.frames=some X.stack
  stk:X.stack=X.outer∨(X.stack=X.env::X.outer∧X.env.frame=some X.env.locals)
  exf:∀ b∈X.ex,b≠X.env.locals∧∀ x c,X.env.cells.lookup x=some c→c≠b
  bs:∀ b o,X.base.get? b=some o→X.s₀.heap.get? b=some o∧X.H₀ b=none
  bsz:X.base.objs.size≤X.s₀.heap.objs.size
  noex:∀ b o,X.base.get? b=some o→b∉X.ex
  exfs:∀ b∈X.ex,b∉X.fs
  funs:X.s₀.heap.FunFrames X.base X.outer
  frf:∀ b∈X.fs,X.H₀ b=none
structure Inv (X:Cx) (pins:List (Addr×Obj)) (σ:List (Option V)) (H:Hp) (s:Shared):Prop where
  ok:X.Ok
  os:s.os=X.s₀.os
  bare:AllBare s.gens
  base:Un X.fs X.ex X.H₀ H X.s₀.heap s.heap
  loc:∃ m,s.heap.Ns X.env.locals m∧∀ (i:Nat) (x:Str) (v:V),X.N[i]? = some x→σ[i]? = some (some v)→Vis X.env.scope x→∃ u,ZG v u∧Look X.env s.heap m x u
  cell:∀ x c,X.env.cells.lookup x=some c→∃ v,s.heap.IsCell c v
  free:H X.env.locals=none
  freeC:∀ x c,X.env.cells.lookup x=some c→H c=none
  pin:∀ p∈X.pn++pins,s.heap.get? p.1=some p.2∧H p.1=none∧p.1≠X.env.locals∧p.1∉X.fs∧∀ v,p.2.data ≠ .cell v
  hok:HOk X.prog X.w H s.heap
  len:σ.length=X.N.length
section
variable {X:Cx} {pins:List (Addr×Obj)} {σ:List (Option V)} {H H':Hp} {s:Shared} {h':Heap}
theorem Cx.Ok.nofr (ok:X.Ok) {b:Addr} {o:Obj} (e:X.base.get? b=some o):b∉X.fs:=fun hb=>by
  have:=(ok.funs.mem hb).1;rw [e] at this; cases this
theorem Inv.bs (I:Inv X pins σ H s):∀ b o,X.base.get? b=some o→s.heap.get? b=some o∧H b=none:=fun b o e =>
  ⟨I.base.keep b o (I.ok.bs b o e).1 (I.ok.bs b o e).2 (I.ok.nofr e) (I.ok.noex b o e),I.base.free b o (I.ok.bs b o e).1 (I.ok.bs b o e).2 (I.ok.noex b o e)⟩
theorem Inv.bk (I:Inv X pins σ H s):∀ b o,X.base.get? b=some o→s.heap.get? b=some o:=fun b o e=>(I.bs b o e).1
theorem Inv.mod (I:Inv X pins σ H s):Mod X.K X.mg X.base:=I.ok.mod
theorem Inv.kIn (I:Inv X pins σ H s):X.K.In s.heap:=I.ok.mod.kin.keeps I.bk
theorem Inv.lt (I:Inv X pins σ H s):X.env.locals<s.heap.objs.size:=let ⟨_,hn,_⟩:=I.loc; hn.lt
theorem Inv.sz (I:Inv X pins σ H s):X.s₀.heap.objs.size≤s.heap.objs.size:=le_trans I.ok.above (le_of_lt I.lt)
theorem Inv.nofs (I:Inv X pins σ H s) {a:Addr} (h:s.heap.objs.size≤a):a∉X.fs:=fun hb=>by
  obtain ⟨_,o,ho,_⟩:=I.ok.funs.mem hb;exact absurd (lt_of_lt_of_le (Heap.lt_size ho) (le_trans I.sz h)) (lt_irrefl _)
theorem Inv.cne (I:Inv X pins σ H s):∀ x c,X.env.cells.lookup x=some c→c≠X.env.locals:=fun x c e z=>by
  obtain ⟨v,o,ho,hd⟩:=I.cell x c e;obtain ⟨m,⟨o',es,ep,ho',hd',_⟩,_⟩:=I.loc;rw [z,ho'] at ho; cases ho; rw [hd'] at hd; cases hd
theorem Inv.funs (I:Inv X pins σ H s):s.heap.FunFrames X.base X.outer:=by
  have all:∀ (l:List Env),(∀ b∈frs l,b∈X.fs)→X.s₀.heap.FunFrames X.base l→s.heap.FunFrames X.base l:=by
    intro l
    induction l with
    | nil=>intro _ _; trivial
    | cons env r ih =>
      intro hs hl;obtain ⟨hk,⟨L,o,hf,hn,ho,hd⟩,hr⟩:=hl;have hL:L∈X.fs:=hs L (by unfold frs; rw [filterMap_cons,hf]; exact mem_cons_self);obtain ⟨sl,e⟩:=I.base.slot L o ho (I.ok.frf L hL) hL fun z=>I.ok.exfs L z hL;exact ⟨hk,⟨L,_,hf,hn,e,hd⟩,ih (fun b hb=>hs b (by unfold frs; rw [filterMap_cons,hf]; exact mem_cons_of_mem _ hb)) hr⟩
  exact all X.outer (fun _ hb=>hb) I.ok.funs
theorem Inv.stack (I:Inv X pins σ H s):s.heap.FunFrames X.base X.stack:=by
  rcases I.ok.stk with e | ⟨e,hf⟩
  · rw [e]; exact I.funs
  · rw [e];obtain ⟨m,hn,_⟩:=I.loc;refine .cons (by rw [I.ok.kind]; decide) hf hn ?_ I.funs;exact Heap.get?_none_of_le (le_trans I.ok.bsz I.ok.above)
theorem Inv.stkSub (I:Inv X pins σ H s):∀ b∈frs X.stack,b∈X.env.locals::X.fs:=fun b hb=>by
  rcases I.ok.stk with e | ⟨e,hf⟩
  · rw [e] at hb; exact mem_cons_of_mem _ hb
  · rw [e] at hb;unfold frs at hb;rw [filterMap_cons,hf] at hb;exact hb
theorem Inv.stkFree (I:Inv X pins σ H s):∀ b∈frs X.stack,H b=none:=fun b hb=>by
  rcases List.mem_cons.mp (I.stkSub b hb) with e | hb
  · rw [e]; exact I.free
  · obtain ⟨_,o,ho,_⟩:=I.ok.funs.mem hb;exact I.base.free b o ho (I.ok.frf b hb) fun z=>I.ok.exfs b z hb
theorem Inv.step {g':Array GenState} {t':Nat} {d':Drawn} {ch:List Addr} (I:Inv X pins σ H s)
    (hch:∀ b∈ch,(b∈X.ex∨X.s₀.heap.objs.size≤b)∧b≠X.env.locals∧(∀ x c,X.env.cells.lookup x=some c→c≠b)∧∀ p∈X.pn++pins,p.1≠b)
    (keep:∀ b o,b≠X.env.locals→b∉X.fs→b∉ch→s.heap.get? b=some o→H b=none→h'.get? b=some o)
    (slot:∀ b o,b≠X.env.locals→b∈X.fs→b∉ch→s.heap.get? b=some o→H b=none→∃ sl,h'.get? b=some { o with slots:=sl }) (free:∀ b o,b∉ch→s.heap.get? b=some o→H b=none→H' b=none)
    (there:∀ b o,b∉ch→s.heap.get? b=some o→∃ o',h'.get? b=some o')
    (tups:∀ b xs,H b=some (.tup xs)→H' b=some (.tup xs)) (frzs:∀ b o u,H b=some (.frz o u)→H' b=some (.frz o u)) (tbls:∀ b ps,H b=some (.tbl ps)→∃ more,H' b=some (.tbl (ps++more)))
    (ns:∀ m,s.heap.Ns X.env.locals m→h'.Ns X.env.locals m) (hok:HOk X.prog X.w H' h') (hg:AllBare g') :
    Inv X pins σ H' { s with heap:=h',gens:=g',drawn:=d',toks:=t' }:=by
  have neL:∀ b o,X.s₀.heap.get? b=some o→b≠X.env.locals:=fun b o e=>ne_of_lt (lt_of_lt_of_le (Heap.lt_size e) I.ok.above);have neC:∀ b o,X.s₀.heap.get? b=some o→b∉X.ex→b∉ch:=fun b o e hx hb=>by
    rcases (hch b hb).1 with z | z
    · exact hx z
    · exact absurd (lt_of_lt_of_le (Heap.lt_size e) z) (lt_irrefl _)
  have cellK:∀ x c,X.env.cells.lookup x=some c→∀ v,s.heap.IsCell c v→h'.IsCell c v:=fun x c e v ⟨o,ho,hd⟩=>by
    have nch:c∉ch:=fun z=>(hch c z).2.2.1 x c e rfl
    by_cases hc:c∈X.fs
    · obtain ⟨sl,q⟩:=slot c o (I.cne x c e) hc nch ho (I.freeC x c e);exact ⟨_,q,hd⟩
    · exact ⟨o,keep c o (I.cne x c e) hc nch ho (I.freeC x c e),hd⟩
  refine ⟨I.ok,I.os,hg,⟨fun b o e n hb hx=>?_,fun b o e n hb hx=>?_,fun b o e n hx=>?_,fun b o e hx=>?_,fun b xs e=>tups b xs (I.base.tups b xs e),fun b o xs e=>frzs b o xs (I.base.frzs b o xs e),fun b ps e=>?_⟩,?_,fun x c e=>?_,?_,fun x c e=>?_,fun p hp=>?_,hok,I.len⟩
  · exact keep b o (neL b o e) hb (neC b o e hx) (I.base.keep b o e n hb hx) (I.base.free b o e n hx)
  · obtain ⟨sl,e1⟩:=I.base.slot b o e n hb hx;obtain ⟨sl',e2⟩:=slot b _ (neL b o e) hb (neC b o e hx) e1 (I.base.free b o e n hx);exact ⟨sl',e2⟩
  · obtain ⟨o',e1⟩:=I.base.there b o e hx;exact free b o' (neC b o e hx) e1 (I.base.free b o e n hx)
  · obtain ⟨o',e1⟩:=I.base.there b o e hx;exact there b o' (neC b o e hx) e1
  · obtain ⟨m1,e1⟩:=I.base.tbls b ps e;obtain ⟨m2,e2⟩:=tbls b _ e1;exact ⟨m1++m2,by rw [e2,Array.append_assoc]⟩
  · obtain ⟨m,hn,hl⟩:=I.loc;refine ⟨m,ns m hn,fun i x v e1 e2 e3=>?_⟩;obtain ⟨u,r,l⟩:=hl i x v e1 e2 e3;refine ⟨u,r,?_⟩;rcases l with l | ⟨k,c,e,z⟩
    · exact .inl l
    · exact .inr ⟨k,c,e,cellK x c e _ z⟩
  · obtain ⟨v,z⟩:=I.cell x c e;exact ⟨v,cellK x c e v z⟩
  · obtain ⟨m,⟨o,_,_,ho,_⟩,_⟩:=I.loc;exact free _ o (fun z=>(hch _ z).2.1 rfl) ho I.free
  · obtain ⟨v,o,ho,hd⟩:=I.cell x c e;exact free c o (fun z=>(hch c z).2.2.1 x c e rfl) ho (I.freeC x c e)
  · obtain ⟨e,n,ne,nf,d⟩:=I.pin p hp;have nch:p.1∉ch:=fun z=>(hch p.1 z).2.2.2 p hp rfl;exact ⟨keep p.1 p.2 ne nf nch e n,free p.1 p.2 nch e n,ne,nf,d⟩
theorem Inv.un {t':Nat} (I:Inv X pins σ H s) (u:Un X.fs [] H H' s.heap h') (hok:HOk X.prog X.w H' h'):Inv X pins σ H' { s with heap:=h',toks:=t' }:=by
  obtain ⟨m,⟨o,es,ep,ho,r⟩,_⟩:=id I.loc;obtain ⟨sl,hL⟩:=u.any ho I.free (by simp);exact I.step (g':=s.gens) (d':=s.drawn) (ch:=[]) (fun _ z=>nomatch z) (fun b o _ hb _ e n=>u.keep b o e n hb (by simp)) (fun b o _ hb _ e n=>u.slot b o e n hb (by simp)) (fun b o _ e n=>u.free b o e n (by simp)) (fun b o _ e=>u.there b o e (by simp)) u.tups u.frzs u.tbls (fun m' hm=>by
    obtain ⟨o',es',ep',ho',r'⟩:=hm;rw [ho] at ho'; cases ho';exact ⟨_,es',ep',hL,r'⟩) hok I.bare
theorem Inv.call {g':Array GenState} {t':Nat} {d':Drawn} {ch:List Addr} (I:Inv X pins σ H s) (u:Un (frs X.stack) ch H H' s.heap h') (hok:HOk X.prog X.w H' h') (hg:AllBare g')
    (hch:∀ b∈ch,(b∈X.ex∨X.s₀.heap.objs.size≤b)∧b≠X.env.locals∧(∀ x c,X.env.cells.lookup x=some c→c≠b)∧∀ p∈X.pn++pins,p.1≠b) :
    Inv X pins σ H' { s with heap:=h',gens:=g',drawn:=d',toks:=t' }:=by
  obtain ⟨m,⟨o,es,ep,ho,r⟩,_⟩:=id I.loc;obtain ⟨sl,hL⟩:=u.any ho I.free fun z=>(hch _ z).2.1 rfl;exact I.step (ch:=ch) hch (fun b o hL hb hc e n=>u.keep b o e n (fun z=>(List.mem_cons.mp (I.stkSub b z)).elim hL hb) hc) (fun b o _ _ hc e n=>u.any e n hc) (fun b o hc e n=>u.free b o e n hc) (fun b o hc e=>u.there b o e hc) u.tups u.frzs u.tbls (fun m' hm=>by
    obtain ⟨o',es',ep',ho',r'⟩:=hm;rw [ho] at ho'; cases ho';exact ⟨_,es',ep',hL,r'⟩) hok hg
theorem Inv.turned {t':Nat} {it:Addr} (I:Inv X pins σ H s) (k:∀ b o,b≠it→s.heap.get? b=some o→h'.get? b=some o) (hn:H it=none) (hL:it≠X.env.locals)
    (h1:it∈X.ex∨X.s₀.heap.objs.size≤it) (h2:∀ x c,X.env.cells.lookup x=some c→c≠it) (h3:∀ p∈X.pn++pins,p.1≠it):Inv X pins σ H { s with heap:=h',toks:=t' }:=by
  have nit:∀ b u,H b=some u→b≠it:=fun b u e z=>by rw [z,hn] at e; cases e
  refine I.step (g':=s.gens) (d':=s.drawn) (ch:=[it]) (fun b hb=>?_) (fun b o _ _ hc e _=>k b o (fun z=>hc (by simp [z])) e) (fun b o _ _ hc e _=>⟨o.slots,k b o (fun z=>hc (by simp [z])) e⟩) (fun _ _ _ _ n=>n)
    (fun b o hc e=>⟨o,k b o (fun z=>hc (by simp [z])) e⟩) (fun _ _ e=>e) (fun _ _ _ e=>e) (fun b ps e=>⟨#[],by rw [e]; simp⟩) (fun m hm=>?_) (fun b u e=>?_) I.bare
  · have e:b=it:=by simpa using hb
    subst e;exact ⟨h1,hL,h2,h3⟩
  · obtain ⟨o,es,ep,ho,r⟩:=hm;exact ⟨o,es,ep,k _ o (Ne.symm hL) ho,r⟩
  · refine (I.hok b u e).stay (fun c v hc q=>k c v ?_ q) (fun _ q=>q) fun _ _ q=>q;rcases hc with z | z
    · rw [z]; exact nit b u e
    · exact nit c _ z
theorem Inv.tok (I:Inv X pins σ H s) (t:Nat):Inv X pins σ H { s with toks:=t }:=I.un (h':=s.heap) (t':=t) Un.refl I.hok
theorem Inv.kept {t':Nat} (I:Inv X pins σ H s) (k:∀ b u,s.heap.get? b=some u→h'.get? b=some u):Inv X pins σ H { s with heap:=h',toks:=t' }:=I.un (Un.kept k) (I.hok.kept k)
theorem Inv.laid {a:Addr} {o:HO} {t':Nat} (I:Inv X pins σ H s) (k:∀ b u,s.heap.get? b=some u→h'.get? b=some u) (hp:s.heap.objs.size≤a) (new:YJ X.prog X.w (upd H a o) h' a o) :
    Inv X pins σ (upd H a o) { s with heap:=h',toks:=t' }:=I.un (Un.laid k hp (I.hok.fresh hp)) (I.hok.laid k hp new)
theorem Inv.write {x e:Addr} {o:HO} {t':Nat} (I:Inv X pins σ H s) (mu:Mut (H x)) (he:e=x∨H e=some (.own x)) (k:∀ b u,b≠e→s.heap.get? b=some u→h'.get? b=some u) (heo:∃ u,h'.get? e=some u)
    (new:YJ X.prog X.w (upd H x o) h' x o):Inv X pins σ (upd H x o) { s with heap:=h',toks:=t' }:=I.un (Un.write mu he k heo) (I.hok.write mu he k heo new)
theorem Inv.pins_of {pins':List (Addr×Obj)} (I:Inv X pins σ H s) (h:∀ p∈pins',s.heap.get? p.1=some p.2∧H p.1=none∧p.1≠X.env.locals∧p.1∉X.fs∧∀ v,p.2.data ≠ .cell v):Inv X pins' σ H s:=
  ⟨I.ok,I.os,I.bare,I.base,I.loc,I.cell,I.free,I.freeC,fun p hp=>(List.mem_append.mp hp).elim (fun z=>I.pin p (mem_append_left _ z)) (h p),I.hok,I.len⟩
theorem Zgw {N:List Str} (hN:N.Nodup) {i j:Nat} {x:Str} (a:N[i]? = some x) (b:N[j]? = some x):i=j:=by
  obtain ⟨h1,e1⟩:=List.getElem?_eq_some_iff.mp a;obtain ⟨h2,e2⟩:=List.getElem?_eq_some_iff.mp b;exact (List.getElem_inj hN).mp (e1.trans e2.symm)
theorem ZeD {M:Model} {A:Around} {E:Value→Shared→Prop} {i:Nat} {x:Str} {v:V} {u:Value} {Q:Unit→Shared→Prop} (I:Inv X pins σ H s) (hN:X.N.Nodup) (hi:X.N[i]? = some x) (hx:Loc X.env.scope x) (r:ZG v u)
    (h:∀ s',Inv X pins (σ.set i (some v)) H s'→(∃ a,Heap.SameBut a s.heap s'.heap∧(a=X.env.locals∨X.env.cells.lookup x=some a))→Q () s') (hf:X.fn x=true∨X.env.scope.names.lookup x=some .local:=by first | exact .inl rfl | exact .inr rfl | assumption):wpAny M A (storeName X.env x u) Q E s:=by
  obtain ⟨m,hn,hl⟩:=id I.loc;have hcls:(X.env.scope.kind == .class || (X.env.scope.kind == .module && X.env.locals != X.env.globals))=false:=by rw [I.ok.kind]; rfl
  have hiσ:i<σ.length:=by rw [I.len]; exact (List.getElem?_eq_some_iff.mp hi).1
  have cne:=I.cne;have tracked:∀ {a:Addr} {h':Heap},(∃ o,s.heap.get? a=some o∧H a=none)→Heap.SameBut a s.heap h'→HOk X.prog X.w H h':=fun {a h'} ha hs b ob e=>by
    obtain ⟨_,_,hfree⟩:=ha;refine (I.hok b ob e).stay (fun c w' hc q=>(hs.2 c ?_).trans q) (fun _ q=>q) fun _ _ q=>q;rintro rfl;rcases hc with rfl | hc
    · rw [hfree] at e; cases e
    · rw [hfree] at hc; cases hc
  rcases hx with hk | hk
  · refine wpAny_storeName_local hk hn (fun h' hn' hs=>?_) hcls;obtain ⟨oL,_,_,hoL,_⟩:=id hn;refine h _ ⟨I.ok,I.os,I.bare,⟨fun b o e n hb hx=>?_,fun b o e n hb hx=>?_,I.base.free,fun b o e hx=>?_,I.base.tups,I.base.frzs,I.base.tbls⟩,⟨_,hn',fun j y v' e1 e2 e3=>?_⟩,fun y c e=>?_,I.free,I.freeC,fun p hp=>?_,tracked ⟨oL,hoL,I.free⟩ hs,by simpa using I.len⟩ ⟨_,hs, .inl rfl⟩
    · exact (hs.2 b (ne_of_lt (lt_of_lt_of_le (Heap.lt_size e) I.ok.above))).trans (I.base.keep b o e n hb hx)
    · obtain ⟨sl,e1⟩:=I.base.slot b o e n hb hx;exact ⟨sl,(hs.2 b (ne_of_lt (lt_of_lt_of_le (Heap.lt_size e) I.ok.above))).trans e1⟩
    · obtain ⟨o',e1⟩:=I.base.there b o e hx;exact ⟨o',(hs.2 b (ne_of_lt (lt_of_lt_of_le (Heap.lt_size e) I.ok.above))).trans e1⟩
    · by_cases hj:j=i
      · subst hj;rw [hi] at e1; cases e1;rw [List.getElem?_set_self hiσ] at e2;cases e2;exact ⟨u,r, .inl ⟨hk,by simp⟩⟩
      · rw [List.getElem?_set_ne (Ne.symm hj)] at e2;obtain ⟨u',r',q⟩:=hl j y v' e1 e2 e3;refine ⟨u',r',?_⟩;rcases q with ⟨k,e⟩ | ⟨k,c,e,z⟩
        · refine .inl ⟨k,?_⟩;have:y≠x:=fun e=>hj (Zgw hN e1 (e▸hi));simp [this,e]
        · exact .inr ⟨k,c,e,z.sameBut hs (cne y c e)⟩
    · obtain ⟨w',z⟩:=I.cell y c e;exact ⟨w',z.sameBut hs (cne y c e)⟩
    · obtain ⟨e,n,ne,nf,d⟩:=I.pin p hp;exact ⟨(hs.2 p.1 ne).trans e,n,ne,nf,d⟩
  · have hfn:X.fn x=true:=by
      rcases hf with z | z
      · exact z
      · rw [z] at hk; cases hk
    obtain ⟨c,hc⟩:=I.ok.has x (.inl hk);obtain ⟨w',z⟩:=I.cell x c hc;refine wpAny_storeName_cell I.ok.kind hk hc z (fun h' hc' hs=>?_);obtain ⟨oc,hoc,hocd⟩:=id z;refine h { s with heap:=h' } ⟨I.ok,I.os,I.bare,⟨fun b o e n hb hx=>?_,fun b o e n hb hx=>?_,I.base.free,fun b o e hx=>?_,I.base.tups,I.base.frzs,I.base.tbls⟩,⟨m,hn.sameBut hs (Ne.symm (cne x c hc)),fun j y v' e1 e2 e3=>?_⟩,fun y c' e=>?_,I.free,I.freeC,fun p hp=>?_,tracked ⟨oc,hoc,I.freeC x c hc⟩ hs,by simpa using I.len⟩ ⟨c,hs, .inr hc⟩
    · exact (hs.2 b (ne_of_lt (lt_of_lt_of_le (Heap.lt_size e) (I.ok.cab x c hfn hc)))).trans (I.base.keep b o e n hb hx)
    · obtain ⟨sl,e1⟩:=I.base.slot b o e n hb hx;exact ⟨sl,(hs.2 b (ne_of_lt (lt_of_lt_of_le (Heap.lt_size e) (I.ok.cab x c hfn hc)))).trans e1⟩
    · obtain ⟨o',e1⟩:=I.base.there b o e hx;exact ⟨o',(hs.2 b (ne_of_lt (lt_of_lt_of_le (Heap.lt_size e) (I.ok.cab x c hfn hc)))).trans e1⟩
    · by_cases hj:j=i
      · subst hj;rw [hi] at e1; cases e1;rw [List.getElem?_set_self hiσ] at e2;cases e2;exact ⟨u,r, .inr ⟨.inl hk,c,hc,hc'⟩⟩
      · rw [List.getElem?_set_ne (Ne.symm hj)] at e2;obtain ⟨u',r',q⟩:=hl j y v' e1 e2 e3;refine ⟨u',r',?_⟩;rcases q with q | ⟨k,c',e,z'⟩
        · exact .inl q
        · refine .inr ⟨k,c',e,z'.sameBut hs ?_⟩;rintro rfl;exact hj (Zgw hN e1 (I.ok.inj _ _ _ e hc▸hi))
    · by_cases hcc:c'=c
      · subst hcc; exact ⟨_,hc'⟩
      · obtain ⟨w2,z2⟩:=I.cell y c' e;exact ⟨w2,z2.sameBut hs hcc⟩
    · obtain ⟨e,n,ne,nf,d⟩:=I.pin p hp;refine ⟨(hs.2 p.1 ?_).trans e,n,ne,nf,d⟩;intro q;rw [q,hoc] at e;have q':oc=p.2:=Option.some.inj e;exact d w' (by rw [← q']; exact hocd)
theorem ZaD {M:Model} {A:Around} {E:Value→Shared→Prop} {i:Nat} {x:Str} {v:V} {u:Value} {Q:Unit→Shared→Prop} (I:Inv X pins σ H s) (hN:X.N.Nodup) (hi:X.N[i]? = some x) (hx:Loc X.env.scope x) (r:ZG v u)
    (h:∀ s',Inv X pins (σ.set i (some v)) H s'→Q () s') (hf:X.fn x=true∨X.env.scope.names.lookup x=some .local:=by first | exact .inl rfl | exact .inr rfl | assumption):wpAny M A (storeName X.env x u) Q E s:=
  ZeD I hN hi hx r (fun s' I' _=>h s' I') hf
theorem Inv.call' {s':Shared} {ch:List Addr} (I:Inv X pins σ H s) (ho:s'.os=s.os) (u:Un (frs X.stack) ch H H' s.heap s'.heap) (hok:HOk X.prog X.w H' s'.heap) (hg:AllBare s'.gens)
    (hch:∀ b∈ch,(b∈X.ex∨X.s₀.heap.objs.size≤b)∧b≠X.env.locals∧(∀ x c,X.env.cells.lookup x=some c→c≠b)∧∀ p∈X.pn++pins,p.1≠b):Inv X pins σ H' s':=by
  obtain ⟨h',g',d',t',o'⟩:=s';have e:o'=s.os:=ho;subst e;exact I.call (g':=g') (t':=t') (d':=d') u hok hg hch
end
noncomputable abbrev XK:=Value→Option Addr→Hp→Prop
noncomputable abbrev St:=List (Option V)
noncomputable abbrev VK:=V→Hp→Prop
noncomputable abbrev TE:=St→Hp→VK→Prop
noncomputable abbrev TT:=St→Hp→(Bool→Hp→Prop)→Prop
noncomputable abbrev TA:=St→Hp→(List V→Hp→Prop)→Prop
structure Ends where
  nx:St→Hp→Prop
  rt:VK
  bk:St→Hp→Prop:=fun _ _=>False
  ct:St→Hp→Prop:=fun _ _=>False
noncomputable abbrev TS:=Ends→St→Hp→Prop
noncomputable def EP (X:Cx) (pins:List (Addr×Obj)) (σ:St) (Q:VK) (u:Value) (s':Shared):Prop:=∃ v H',Inv X pins σ H' s'∧ZG v u∧Q v H'
noncomputable def TP (X:Cx) (pins:List (Addr×Obj)) (σ:St) (Q:Bool→Hp→Prop) (b:Bool) (s':Shared):Prop:=∃ H',Inv X pins σ H' s'∧Q b H'
noncomputable def AP (X:Cx) (pins:List (Addr×Obj)) (σ:St) (Q:List V→Hp→Prop) (us:List Value) (s':Shared):Prop:=∃ vs H',Inv X pins σ H' s'∧ZF vs us∧Q vs H'
noncomputable def SP (X:Cx) (pins:List (Addr×Obj)) (D:Ends) (f:Flow) (s':Shared):Prop:=
  match f with
  | .next=>∃ σ' H',Inv X pins σ' H' s'∧D.nx σ' H'
  | .brk=>∃ σ' H',Inv X pins σ' H' s'∧D.bk σ' H'
  | .cont=>∃ σ' H',Inv X pins σ' H' s'∧D.ct σ' H'
  | .ret u=>∃ v σ' H',Inv X pins σ' H' s'∧ZG v u∧D.rt v H'
noncomputable def PE (X:Cx) (e:Expr) (t:TE):Prop:=
  ∀ (pins:List (Addr×Obj)) (s:Shared) (σ:St) (H:Hp) (Q:VK),Inv X pins σ H s→t σ H Q→wpAny (model X.prog X.w) X.A (eval e X.env) (EP X pins σ Q) X.xe s
noncomputable def PT (X:Cx) (e:Expr) (t:TT):Prop:=
  ∀ (pins:List (Addr×Obj)) (s:Shared) (σ:St) (H:Hp) (Q:Bool→Hp→Prop),Inv X pins σ H s→t σ H Q→wpAny (model X.prog X.w) X.A (isTrue e X.env (eval e X.env)) (TP X pins σ Q) X.xe s
noncomputable def PW (X:Cx) (e:Expr) (t:TT):Prop:=
  ∀ (whole:Sem Value) (pins:List (Addr×Obj)) (s:Shared) (σ:St) (H:Hp) (Q:Bool→Hp→Prop),Inv X pins σ H s→t σ H Q→wpAny (model X.prog X.w) X.A (isTrue e X.env whole) (TP X pins σ Q) X.xe s
theorem PW.pt {X:Cx} {e:Expr} {t:TT} (h:PW X e t):PT X e t:=h _
noncomputable def PA (X:Cx) (es:List Expr) (t:TA):Prop:=
  ∀ (pos:Pos) (pins:List (Addr×Obj)) (s:Shared) (σ:St) (H:Hp) (Q:List V→Hp→Prop),Inv X pins σ H s→t σ H Q→wpAny (model X.prog X.w) X.A (spliced (backTo pos (starEach es X.env))) (AP X pins σ Q) X.xe s
noncomputable def PS (X:Cx) (st:Stmt) (t:TS):Prop:=
  ∀ (pins:List (Addr×Obj)) (s:Shared) (σ:St) (H:Hp) (D:Ends),Inv X pins σ H s→t D σ H→wpAny (model X.prog X.w) X.A (exec st X.env) (SP X pins D) X.xe s
noncomputable def PSs (X:Cx) (st:List Stmt) (t:TS):Prop:=
  ∀ (pins:List (Addr×Obj)) (s:Shared) (σ:St) (H:Hp) (D:Ends),Inv X pins σ H s→t D σ H→wpAny (model X.prog X.w) X.A (execs st X.env) (SP X pins D) X.xe s
theorem thn {α:Type} {t:Sem α} {Q Q':α→Shared→Prop} {M:Model} {A:Around} {E:Value→Shared→Prop} {s:Shared} (h:wpAny M A t Q E s) (hQ:∀ a s,Q a s→Q' a s):wpAny M A t Q' E s:=wpAny_mono h hQ fun _ _ x=>x
open PySem PySem.Spec PyProof.Rows
section
variable {X:Cx}
noncomputable def Ze2 (i:Nat):TE:=fun σ H Q=>∃ v,σ[i]? = some (some v)∧Q v H
noncomputable def tC (v:V):TE:=fun _ H Q=>Q v H
theorem pe_var {i:Nat} {x:Str} {pos:Pos} (hN:X.N[i]? = some x) (hv:Vis X.env.scope x) (hd:(x == ("__debug__":Str))=false:=by decide) (hcd:(x == ("__classdict__":Str))=false:=by decide):PE X (.Name x pos) (Ze2 i):=by
  intro pins s σ H Q I h;obtain ⟨v,e,h⟩:=h;obtain ⟨m,hn,hl⟩:=I.loc;obtain ⟨u,r,l⟩:=hl i x v hN e hv;have fin:EP X pins σ Q u s:=⟨v,H,I,r,h⟩;rcases l with ⟨hk,hm⟩ | ⟨hk,c,hc,hcell⟩
  · exact wpAny_Name (wpAny_loadName_local I.ok.kind hk hn hm fin) hd
  · rcases hk with hk | hk
    · exact wpAny_Name (wpAny_loadName_cell I.ok.kind hk hc hcell fin) hd
    · exact wpAny_Name (wpAny_loadName_free I.ok.kind hk hc hcell fin hcd) hd
theorem Zf {i j pos}:PE X (.Constant (.int i) j pos) (tC (.int i)):=fun _ _ _ H _ I h=>wpAny_Constant_int ⟨.int i,H,I.tok _,⟨_,rfl⟩,h⟩
theorem Zau {b j pos}:PE X (.Constant (.bool b) j pos) (tC (.bl b)):=fun _ _ _ H _ I h=>Constant_bool ⟨.bl b,H,I,rfl,h⟩
theorem pe_non {j pos}:PE X (.Constant .none j pos) (tC .non):=fun _ _ _ H _ I h=>Constant_none ⟨.non,H,I,rfl,h⟩
theorem Zo {x j pos}:PE X (.Constant (.str x) j pos) (tC (.str x)):=fun _ _ _ H _ I h=>Calls.Constant_str ⟨.str x,H,I.tok _,⟨_,rfl⟩,h⟩
noncomputable def Gl (X:Cx) (x:Str):Prop:=X.env.kindOf x=some .globalImplicit
theorem Zco {E:Value→Shared→Prop} {pins:List (Addr×Obj)} {s:Shared} {σ:St} {H:Hp} {x:Str} {u:Value} {pos:Pos} {Q:Value→Shared→Prop} (I:Inv X pins σ H s) (hg:Gl X x) (hm:X.mg x=some u) (h:Q u s)
    (hd:(x == ("__debug__":Str))=false:=by decide):wpAny (model X.prog X.w) X.A (eval (.Name x pos) X.env) Q E s:=
  Calls.Name_function_global I.ok.kind hg (Calls.loadGlobal_global (by rw [I.ok.glob]; exact I.mod.glob.keeps I.bk) hm h) hd
theorem Zhc {E:Value→Shared→Prop} {pins:List (Addr×Obj)} {s:Shared} {σ:St} {H:Hp} {x:Str} {u:Value} {pos:Pos} {Q:Value→Shared→Prop} (I:Inv X pins σ H s) (hg:Gl X x) (hm:X.mg x=none) (hv:bootBuiltins x=some u) (h:Q u s)
    (hn:x≠"__name__":=by decide) (hd:(x == ("__debug__":Str))=false:=by decide):wpAny (model X.prog X.w) X.A (eval (.Name x pos) X.env) Q E s:=by
  obtain ⟨mb,h1,h2⟩:=I.mod.blt;exact Calls.Name_function_global I.ok.kind hg (Calls.loadGlobal_builtin (by rw [I.ok.glob]; exact I.mod.glob.keeps I.bk) hm (by rw [I.ok.blt]; exact h1.keeps I.bk) ((h2 x hn).trans hv) h) hd
theorem ZA {x:Str} {v:V} {u:Value} {pos:Pos} (hg:Gl X x) (hm:X.mg x=some u) (r:ZG v u) (hd:(x == ("__debug__":Str))=false:=by decide):PE X (.Name x pos) (tC v):=
  fun _ _ _ H _ I h=>Zco I hg hm ⟨v,H,I,r,h⟩ hd
variable {a b:Expr} {ta tb:TE} {pos:Pos}
noncomputable def PC (X:Cx) (op:CmpOp) (a b:Expr) (t:TE):Prop:=
  ∀ (pins:List (Addr×Obj)) (s:Shared) (σ:St) (H:Hp) (Q:VK),Inv X pins σ H s→t σ H Q →
    wpAny (model X.prog X.w) X.A (eval a X.env) (fun v s₁=>wpAny (model X.prog X.w) X.A (eval b X.env) (fun u s₂=>wpAny (model X.prog X.w) X.A (compareOp op v u) (EP X pins σ Q) X.xe s₂) X.xe s₁) X.xe s
noncomputable def tB (t:TE):TT:=fun σ H Q=>t σ H fun x H1=>∃ c,x = .bl c∧Q c H1
theorem Zg2 {op:CmpOp} {t:TE} (h:PC X op a b t) (h1:behindInMarks op b=false:=by first | exact nobehind _ (by decide) (by decide) | rfl):PE X (.Compare a [op] [b] pos) t:=fun pins s σ H Q I hw=>wpAny_Compare1 (h pins s σ H Q I hw) h1
theorem JH {op:CmpOp} {t:TE} (h:PC X op a b t) (h1:behindInMarks op b=false:=by first | exact nobehind _ (by decide) (by decide) | rfl):PT X (.Compare a [op] [b] pos) (tB t):=by
  intro pins s σ H Q I hw;refine wpAny_isTrue_Compare1 (thn (h pins s σ H _ I hw) fun v s1 h1=>thn h1 fun u s2 h2=>thn h2 fun c s3 zz9=>?_) h1;obtain ⟨x,H1,I1,r1,q1⟩:=zz9;obtain ⟨d,rfl,q⟩:=q1;cases r1;exact wpAny_truthy_bool ⟨H1,I1,q⟩
theorem ZP {e:Expr} {t:TE} (h:PE X e t) (he:∀ whole,isTrue e X.env whole=(do let v ← whole; standAt e.pos; holding [v] (truthy v)):=by intro _; rfl):PT X e (tB t):=by
  intro pins s σ H Q I hw;refine isTrue_plain (thn (h pins s σ H _ I hw) fun v s1 ⟨x,H1,I1,r1,q1⟩=>?_) (he _);obtain ⟨d,rfl,q⟩:=q1;cases r1;exact wpAny_truthy_bool ⟨H1,I1,q⟩
variable {tA tB':TT} {ZbY:List Expr}
noncomputable def tAnd (t u:TT):TT:=fun σ H Q=>t σ H fun c H1=>if c=true then u σ H1 Q else Q false H1
noncomputable def tOr (t u:TT):TT:=fun σ H Q=>t σ H fun c H1=>if c=true then Q true H1 else u σ H1 Q
noncomputable def tNot (t:TT):TT:=fun σ H Q=>t σ H fun c H1=>Q (!c) H1
theorem Ju (ha:PT X a tA):PW X (.BoolOp .And [a] pos) tA:=by
  intro wh pins s σ H Q I h;refine isTrue_and (thn (ha pins s σ H Q I h) fun c s1 e=>?_);cases c with
  | true=>exact isTrue_and_nil e
  | false=>exact e
theorem Zay (ha:PT X a tA):PW X (.BoolOp .Or [a] pos) tA:=by
  intro wh pins s σ H Q I h;refine isTrue_or (thn (ha pins s σ H Q I h) fun c s1 e=>?_);cases c with
  | false=>exact isTrue_or_nil e
  | true=>exact e
theorem Zah (ha:PT X a tA) (hb:PW X (.BoolOp .And (b::ZbY) pos) tB'):PW X (.BoolOp .And (a::b::ZbY) pos) (tAnd tA tB'):=by
  intro wh pins s σ H Q I h;refine isTrue_and (thn (ha pins s σ H _ I h) fun c s1 zz9=>?_);obtain ⟨H1,I1,q1⟩:=zz9;cases c with
  | true=>exact hb wh pins s1 σ H1 Q I1 q1
  | false=>exact ⟨H1,I1,q1⟩
theorem ZbT (ha:PT X a tA) (hb:PW X (.BoolOp .Or (b::ZbY) pos) tB'):PW X (.BoolOp .Or (a::b::ZbY) pos) (tOr tA tB'):=by
  intro wh pins s σ H Q I h;refine isTrue_or (thn (ha pins s σ H _ I h) fun c s1 zz9=>?_);obtain ⟨H1,I1,q1⟩:=zz9;cases c with
  | true=>exact ⟨H1,I1,q1⟩
  | false=>exact hb wh pins s1 σ H1 Q I1 q1
theorem Jo (ha:PT X a tA):PT X (.UnaryOp .Not a pos) (tNot tA):=by
  intro pins s σ H Q I h;exact isTrue_not (ha pins s σ H (fun c H1=>Q (!c) H1) I h)
noncomputable def tAndV (ta tb:TE):TE:=fun σ H Q=>ta σ H fun x H1=>∃ c,x = .bl c∧if c=true then tb σ H1 Q else Q (.bl false) H1
noncomputable def tOrV (ta tb:TE):TE:=fun σ H Q=>ta σ H fun x H1=>∃ c,x = .bl c∧if c=true then Q (.bl true) H1 else tb σ H1 Q
theorem Zbo {op} {t:TE} (h:PE X a t):PE X (.BoolOp op [a] pos) t:=fun pins s σ H Q I hw=>BoolOp_one (h pins s σ H Q I hw)
theorem Zbp (ha:PE X a ta) (hb:PE X (.BoolOp .And (b::ZbY) pos) tb):PE X (.BoolOp .And (a::b::ZbY) pos) (tAndV ta tb):=by
  intro pins s σ H Q I h;refine BoolOp_and (thn (ha pins s σ H _ I h) fun v s1 zz9=>?_);obtain ⟨x,H1,I1,r1,q1⟩:=zz9;obtain ⟨c,rfl,q1⟩:=q1;cases r1;refine wpAny_truthy_bool ?_;cases c with
  | true=>exact hb pins s1 σ H1 Q I1 q1
  | false=>exact ⟨.bl false,H1,I1,rfl,q1⟩
theorem pe_or (ha:PE X a ta) (hb:PE X (.BoolOp .Or (b::ZbY) pos) tb):PE X (.BoolOp .Or (a::b::ZbY) pos) (tOrV ta tb):=by
  intro pins s σ H Q I h;refine BoolOp_or (thn (ha pins s σ H _ I h) fun v s1 zz9=>?_);obtain ⟨x,H1,I1,r1,q1⟩:=zz9;obtain ⟨c,rfl,q1⟩:=q1;cases r1;refine wpAny_truthy_bool ?_;cases c with
  | false=>exact hb pins s1 σ H1 Q I1 q1
  | true=>exact ⟨.bl true,H1,I1,rfl,q1⟩
noncomputable def tIf (t:TT) (ta tb:TE):TE:=fun σ H Q=>t σ H fun c H1=>if c=true then ta σ H1 Q else tb σ H1 Q
theorem Xp {c:Expr} (hc:PT X c tA) (ha:PE X a ta) (hb:PE X b tb):PE X (.IfExp c a b pos) (tIf tA ta tb):=by
  intro pins s σ H Q I h;refine wpAny_IfExp (thn (hc pins s σ H _ I h) fun d s1 zz9=>?_);obtain ⟨H1,I1,q1⟩:=zz9;cases d with
  | true=>exact ha pins s1 σ H1 Q I1 q1
  | false=>exact hb pins s1 σ H1 Q I1 q1
end
open PySem PySem.Spec PyProof.Rows
noncomputable def SqL (K:Frag) (H:Hp) (a:Addr) (xs:List V):Prop:=
  Rd H a (.lst xs) ∨
    ∃ (o:Obj) (its:Array Value) (n:Nat),K.lookup a=some o∧o.cls = .type "list"∧o.dict=none∧o.data = .seq its n∧its.size≤sizeLine∧ZF xs its.toList
noncomputable def SqT (K:Frag) (H:Hp) (a:Addr) (xs:List V):Prop:=
  Rd H a (.tup xs) ∨
    ∃ (o:Obj) (its:Array Value) (n:Nat),K.lookup a=some o∧o.cls = .type "tuple"∧o.data = .seq its n∧its.size≤sizeLine∧ZF xs its.toList
noncomputable def absV:Value→Option V
  | .none=>some .non
  | .bool b=>some (.bl b)
  | .int i _=>some (.int i)
  | .str x _=>some (.str x)
  | .bytes b _=>some (.byt b)
  | .float b _=>some (.flt b)
  | .ref a=>some (.ref a)
  | .type n=>some (.ty n)
  | _=>none
theorem ZG.abs {x:V} {u:Value} (r:ZG x u):absV u=some x:=by
  cases x with
  | non=>cases r; rfl
  | bl _=>cases r; rfl
  | int _=>obtain ⟨t,rfl⟩:=r; rfl
  | str _=>obtain ⟨t,rfl⟩:=r; rfl
  | byt _=>obtain ⟨t,rfl⟩:=r; rfl
  | flt _=>obtain ⟨t,rfl⟩:=r; rfl
  | ref _=>cases r; rfl
  | ty _=>cases r; rfl
theorem ZG.inj {x y:V} {u:Value} (r:ZG x u) (q:ZG y u):x=y:=Option.some.inj (r.abs.symm.trans q.abs)
theorem ZF.inj:∀ {xs ys:List V} {us:List Value},ZF xs us→ZF ys us→xs=ys
  | _,_,_, .nil, .nil=>rfl
  | _,_,_, .cons r t, .cons r' t'=>by rw [r.inj r',ZF.inj t t']
section
variable {X:Cx} {pins:List (Addr×Obj)} {σ:St} {H:Hp} {s:Shared} {a:Addr} {xs ys:List V}
theorem SqL.of {K:Frag} (h:H a=some (.lst xs)):SqL K H a xs := .inl (.inl h)
theorem SqT.of {K:Frag} (h:H a=some (.tup xs)):SqT K H a xs := .inl (.inl h)
theorem Inv.list (I:Inv X pins σ H s) (h:SqL X.K H a xs):∃ its:List Value,ZF xs its∧PlainL s.heap a its.toArray∧xs.length≤sizeLine:=by
  rcases h with h | ⟨o,its,n,hk,hc,hd,hs,hz,r⟩
  · obtain ⟨z,its,n,r,e⟩:=h.ok I.hok;exact ⟨its,r,⟨_,n,e,rfl,rfl,rfl⟩,z⟩
  · refine ⟨its.toList,r,⟨o,n,I.kIn a o hk,hc,hd,by simpa using hs⟩,?_⟩;have e:=r.length;simp only [length_toList] at e;omega
theorem Inv.tuple (I:Inv X pins σ H s) (h:SqT X.K H a xs):∃ its:List Value,ZF xs its∧IsTup s.heap a its.toArray∧xs.length≤sizeLine:=by
  rcases h with h | ⟨o,its,n,hk,hc,hs,hz,r⟩
  · obtain ⟨z,its,r,p⟩:=h.ok I.hok;exact ⟨its,r,p,z⟩
  · refine ⟨its.toList,r,⟨o,I.kIn a o hk,hc,n,by simpa using hs⟩,?_⟩;have e:=r.length;simp only [length_toList] at e;omega
theorem Inv.list_inj (I:Inv X pins σ H s) (h:SqL X.K H a xs) (h':SqL X.K H a ys):xs=ys:=by
  obtain ⟨its,r,⟨o,n,e,_,_,d⟩,_⟩:=I.list h;obtain ⟨its',r',⟨o',n',e',_,_,d'⟩,_⟩:=I.list h';rw [e] at e'; cases e';rw [d] at d';injection d' with d1 _;have:its=its':=by simpa using congrArg Array.toList d1
  subst this;exact r.inj r'
end
noncomputable abbrev Cx.wish (X:Cx) (E:Value→Shared→Prop):Cx:={ X with xe:=E }
noncomputable abbrev Cx.nox (X:Cx):Cx:=X.wish fun _ _=>False
theorem Cx.Ok.wish {X:Cx} (ok:X.Ok) (E:Value→Shared→Prop):(X.wish E).Ok:=
  ⟨ok.mod,ok.kind,ok.glob,ok.blt,ok.above,ok.inj,ok.has,ok.cab,ok.hd,ok.frames,ok.stk,ok.exf,ok.bs,ok.bsz,ok.noex,ok.exfs,ok.funs,ok.frf⟩
theorem Cx.Ok.unwish {X:Cx} {E:Value→Shared→Prop} (ok:(X.wish E).Ok):X.Ok:=
  ⟨ok.mod,ok.kind,ok.glob,ok.blt,ok.above,ok.inj,ok.has,ok.cab,ok.hd,ok.frames,ok.stk,ok.exf,ok.bs,ok.bsz,ok.noex,ok.exfs,ok.funs,ok.frf⟩
section
variable {X:Cx} {pins:List (Addr×Obj)} {σ:St} {H:Hp} {s:Shared} {E:Value→Shared→Prop}
theorem Inv.wish (I:Inv X pins σ H s) (E:Value→Shared→Prop):Inv (X.wish E) pins σ H s:=⟨I.ok.wish E,I.os,I.bare,I.base,I.loc,I.cell,I.free,I.freeC,I.pin,I.hok,I.len⟩
theorem Inv.unwish (I:Inv (X.wish E) pins σ H s):Inv X pins σ H s:=⟨I.ok.unwish,I.os,I.bare,I.base,I.loc,I.cell,I.free,I.freeC,I.pin,I.hok,I.len⟩
theorem SP.unwish {D:Ends} {f:Flow} {s':Shared} (h:SP (X.wish E) pins D f s'):SP X pins D f s':=by
  cases f with
  | next=>obtain ⟨σ',H',I,q⟩:=h; exact ⟨σ',H',I.unwish,q⟩
  | brk=>obtain ⟨σ',H',I,q⟩:=h; exact ⟨σ',H',I.unwish,q⟩
  | cont=>obtain ⟨σ',H',I,q⟩:=h; exact ⟨σ',H',I.unwish,q⟩
  | ret u=>obtain ⟨v,σ',H',I,r,q⟩:=h; exact ⟨v,σ',H',I.unwish,r,q⟩
theorem PSs.nox {st:List Stmt} {t:TS} (h:PSs X.nox st t):PSs X st t:=fun pins s σ H D I hw =>
  wpAny_mono (h pins s σ H D (I.wish _) hw) (fun _ _ q=>q.unwish) fun _ _ z=>False.elim z
end
section
variable {X:Cx} {st:Stmt} {ZbY:List Stmt} {t u:TS} {e:Expr} {te:TE} {pos:Pos}
noncomputable def ZfW:TS:=fun D σ H=>D.nx σ H
noncomputable def ZgS (t u:TS):TS:=fun D σ H=>t { D with nx:=u D } σ H
theorem Zq:PSs X [] ZfW:=fun _ _ σ H _ I h=>wpAny_execs_nil ⟨σ,H,I,h⟩
theorem Ze (h1:PS X st t) (h2:PSs X ZbY u):PSs X (st::ZbY) (ZgS t u):=by
  intro pins s σ H D I h;refine wpAny_execs_cons (thn (h1 pins s σ H { D with nx:=u D } I h) fun f s1 q=>?_);cases f with
  | next =>
    obtain ⟨σ',H',I',q⟩:=q;exact h2 pins s1 σ' H' D I' q
  | ret v=>exact q
  | brk=>exact q
  | cont=>exact q
theorem Zg (h1:PS X st t):PSs X [st] t:=by
  intro pins s σ H D I h;refine wpAny_execs_cons (thn (h1 pins s σ H D I h) fun f s1 q=>?_);cases f with
  | next=>exact wpAny_execs_nil q
  | ret v=>exact q
  | brk=>exact q
  | cont=>exact q
theorem Inv.quiet {pins:List (Addr×Obj)} {σ:St} {H:Hp} {s:Shared} (I:Inv X pins σ H s):interactive X.env=false:=by simp [interactive,I.ok.kind]
noncomputable def tDrop (te:TE):TS:=fun D σ H=>te σ H fun _ H1=>D.nx σ H1
theorem ZH (he:PE X e te) (hs:swapsWith e none pos.line X.env=pure false:=by rfl):PS X (.Expr e pos) (tDrop te):=by
  intro pins s σ H D I h;exact wpAny_Expr_any (thn (he pins s σ H _ I h) fun v s1 ⟨x,H1,I1,r1,q1⟩=>⟨σ,H1,I1,q1⟩) I.quiet hs
noncomputable def ZgT (te:TE):TS:=fun D σ H=>te σ H D.rt
theorem Zm (he:PE X e te):PS X (.Return (some e) pos) (ZgT te):=by
  intro pins s σ H D I h;exact wpAny_Return_some (thn (he pins s σ H _ I h) fun v s1 ⟨x,H1,I1,r1,q1⟩=>⟨x,σ,H1,I1,r1,q1⟩)
noncomputable def tIfS (c:TT) (t u:TS):TS:=fun D σ H=>c σ H fun b H1=>if b=true then t D σ H1 else u D σ H1
theorem Zy {c:Expr} {a b:List Stmt} {tc:TT} (hc:PT X c tc) (ha:PSs X a t) (hb:PSs X b u):PS X (.If c a b pos) (tIfS tc t u):=by
  intro pins s σ H D I h;refine wpAny_If (thn (hc pins s σ H _ I h) fun d s1 zz9=>?_);obtain ⟨H1,I1,q1⟩:=zz9;cases d with
  | true=>exact ha pins s1 σ H1 D I1 q1
  | false=>exact hb pins s1 σ H1 D I1 q1
end
noncomputable abbrev TG:=V→St→Hp→(St→Hp→Prop)→Prop
noncomputable abbrev TGs:=List V→St→Hp→(St→Hp→Prop)→Prop
noncomputable def PG (X:Cx) (target:Expr) (t:TG):Prop:=
  ∀ (pins:List (Addr×Obj)) (s:Shared) (σ:St) (H:Hp) (v:V) (u:Value) (Q:St→Hp→Prop),Inv X pins σ H s→ZG v u→t v σ H Q →
    wpAny (model X.prog X.w) X.A (assign target X.env u) (fun _ s'=>∃ σ' H',Inv X pins σ' H' s'∧Q σ' H') X.xe s
noncomputable def PGs (X:Cx) (ts:List Expr) (t:TGs):Prop:=
  ∀ (pins:List (Addr×Obj)) (s:Shared) (σ:St) (H:Hp) (vs:List V) (us:List Value) (Q:St→Hp→Prop),Inv X pins σ H s→ZF vs us→t vs σ H Q →
    wpAny (model X.prog X.w) X.A (assignInOrder ((assignEach ts X.env).map (·.2)) us) (fun _ s'=>∃ σ' H',Inv X pins σ' H' s'∧Q σ' H') X.xe s
noncomputable abbrev TSet:=V→V→V→Hp→(Hp→Prop)→Prop
noncomputable def PSet (X:Cx) (t:TSet):Prop:=
  ∀ (pins:List (Addr×Obj)) (s:Shared) (σ:St) (H:Hp) (o i v:V) (ov iv u:Value) (Q:Hp→Prop),Inv X pins σ H s→ZG o ov→ZG i iv→ZG v u→t o i v H Q →
    wpAny (model X.prog X.w) X.A (setItem ov iv u) (fun _ s'=>∃ H',Inv X pins σ H' s'∧Q H') X.xe s
noncomputable abbrev TIp:=V→V→Hp→VK→Prop
noncomputable def PIp (X:Cx) (op:Operator) (t:TIp):Prop:=
  ∀ (pins:List (Addr×Obj)) (s:Shared) (σ:St) (H:Hp) (x y:V) (v u:Value) (Q:VK),Inv X pins σ H s→ZG x v→ZG y u→t x y H Q →
    wpAny (model X.prog X.w) X.A (inplaceOp op v u) (EP X pins σ Q) X.xe s
section
variable {X:Cx} {pos:Pos}
noncomputable def Zc6 (i:Nat):TG:=fun v σ H Q=>Q (σ.set i (some v)) H
theorem Yk {i:Nat} {x:Str} (hN:X.N.Nodup) (hi:X.N[i]? = some x) (hx:Loc X.env.scope x) (hf:X.fn x=true∨X.env.scope.names.lookup x=some .local:=by first | exact .inl rfl | exact .inr rfl | assumption):PG X (.Name x pos) (Zc6 i):=by
  intro pins s σ H v u Q I r h;exact wpAny_assign_Name (ZaD I hN hi hx r (fun s' I'=>⟨_,H,I',h⟩) hf)
noncomputable def gNil:TGs:=fun vs σ H Q=>vs=[]∧Q σ H
noncomputable def gCons (t:TG) (u:TGs):TGs:=fun vs σ H Q=>∃ v r,vs=v::r∧t v σ H fun σ' H'=>u r σ' H' Q
theorem Zdq:PGs X [] gNil:=by
  intro pins s σ H vs us Q I r h;obtain ⟨e,h⟩:=h;subst e;cases r;exact assignInOrder_nil ⟨σ,H,I,h⟩
theorem Xo {e:Expr} {es:List Expr} {t:TG} {u:TGs} (h1:PG X e t) (h2:PGs X es u)
    (hs:(assignEach (e::es) X.env).map (·.2)=assign e X.env::(assignEach es X.env).map (·.2):=by rfl):PGs X (e::es) (gCons t u):=by
  intro pins s σ H vs us Q I r h;obtain ⟨v,vr,e1,h⟩:=h;subst e1;cases r with
  | cons r rr =>
    rw [hs];refine assignInOrder_cons (thn (h1 pins s σ H _ _ _ I r h) fun _ s1 zz9=>?_);obtain ⟨σ1,H1,I1,q1⟩:=zz9;exact h2 pins s1 σ1 H1 _ _ Q I1 rr q1
noncomputable def gTup (K:Frag) (n:Nat) (t:TGs):TG:=fun v σ H Q=>∃ a xs,v = .ref a∧SqT K H a xs∧xs.length=n∧t xs σ H Q
theorem Zg1 {es:List Expr} {k:Nat} {t:TGs} {n:Nat} (hc:X.calm=true) (h:PGs X es t)
    (hn:(assignEach es X.env).length=n:=by rfl) (hst:(assignEach es X.env).findIdx? (·.1)=none:=by rfl):PG X (.Tuple es k pos) (gTup X.K n t):=by
  intro pins s σ H v u Q I r hw;obtain ⟨a,xs,e1,hq,hl,hw⟩:=hw;subst e1;cases r;obtain ⟨its,rv,ht,hz⟩:=I.tuple hq;refine assign_Tuple_tuple (I.ok.hd hc) ht (by simp [hn,← hl,rv.length]) hst fun h' hx=>?_;have I1:Inv X pins σ H { s with heap:=h' }:=I.kept (t':=s.toks) fun b o e=>hx b o (ne_of_lt (Heap.lt_size e)) e;exact h pins _ σ H xs _ Q I1 (by simpa using rv) hw
noncomputable def gSub (to ti:TE) (t:TSet):TG:=fun v σ H Q=>to σ H fun o H1=>ti σ H1 fun i H2=>t o i v H2 fun H3=>Q σ H3
theorem pg_sub {o i:Expr} {to ti:TE} {t:TSet} (ho:PE X o to) (hi:PE X i ti) (hs:PSet X t)
    (ha:∀ v,assign (.Subscript o i pos) X.env v=(do
      let ov ← holding [v] (eval o X.env)
      let iv ← holding [v,ov] (eval i X.env)
      standAt pos
      holding [v,ov,iv] (setItem ov iv v)
      release [v,ov,iv] []):=by intro _; rfl):PG X (.Subscript o i pos) (gSub to ti t):=by
  intro pins s σ H v u Q I r h;rw [ha];refine wpAny_bind (wpAny_holding (thn (ho pins s σ H _ I h) fun ov s1 zz9=>?_));obtain ⟨x,H1,I1,r1,q1⟩:=zz9;refine wpAny_bind (wpAny_holding (thn (hi pins s1 σ H1 _ I1 q1) fun iv s2 zz9=>?_));obtain ⟨y,H2,I2,r2,q2⟩:=zz9;refine wpAny_bind (wpAny_standAt (wpAny_bind (wpAny_holding (thn (hs pins s2 σ H2 x y v ov iv u _ I2 r1 r2 r q2) fun _ s3 zz9=>?_))));obtain ⟨H3,I3,q3⟩:=zz9;exact wpAny_release ⟨σ,H3,I3,q3⟩
noncomputable def ZfX (te:TE) (g:TG):TS:=fun D σ H=>te σ H fun x H1=>g x σ H1 D.nx
theorem Zfe {tg e:Expr} {te:TE} {g:TG} (he:PE X e te) (hg:PG X tg g) (hs:swapsWithSole [tg] e pos.line X.env=pure false:=by rfl) (hw:swappedStores [tg] e X.env=pure none:=by rfl)
    (h1:(assignEach [tg] X.env).map (·.2)=[assign tg X.env]:=by rfl):PS X (.Assign [tg] e pos) (ZfX te g):=by
  intro pins s σ H D I h;refine wpAny_Assign_stores (thn (he pins s σ H _ I h) fun v s1 zz9=>?_) hs hw;obtain ⟨x,H1,I1,r1,q1⟩:=zz9;rw [h1];exact thn (hg pins s1 σ H1 x v _ I1 r1 q1) fun _ s2 q=>q
theorem Zw {i:Nat} {x:Str} {e:Expr} {te:TE} {pos':Pos} (hN:X.N.Nodup) (hi:X.N[i]? = some x) (hx:Loc X.env.scope x) (he:PE X e te) (hs:swapsWith e (some (.Name x pos')) pos.line X.env=pure false:=by rfl) (hf:X.fn x=true∨X.env.scope.names.lookup x=some .local:=by first | exact .inl rfl | exact .inr rfl | assumption) :
    PS X (.Assign [.Name x pos'] e pos) (ZfX te (Zc6 i)):=by
  intro pins s σ H D I h;refine wpAny_Assign_Name (thn (he pins s σ H _ I h) fun v s1 zz9=>?_) hs;obtain ⟨y,H1,I1,r1,q1⟩:=zz9;exact ZaD I1 hN hi hx r1 (fun s2 I2=>⟨_,H1,I2,q1⟩) hf
noncomputable def tPar (i j:Nat) (ta:TA):TS:=fun D σ H=>ta σ H fun vs H1=>∃ v w,vs=[v,w]∧D.nx ((σ.set i (some v)).set j (some w)) H1
theorem ps_par {i j:Nat} {x y:Str} {a b:Expr} {ta:TA} {px py pt:Pos} {kt k2 pt2} (hc:X.calm=true) (hN:X.N.Nodup) (hi:X.N[i]? = some x) (hj:X.N[j]? = some y) (hij:i≠j)
    (hx:X.env.scope.names.lookup x=some .local) (hy:X.env.scope.names.lookup y=some .local) (ha:PA X [a,b] ta)
    (hw:swappedStores [.Tuple [.Name x px, .Name y py] kt pt] (.Tuple [a,b] k2 pt2) X.env=pure (some [x,y]))
    (hs:swapsWithSole [.Tuple [.Name x px, .Name y py] kt pt] (.Tuple [a,b] k2 pt2) pos.line X.env=pure false:=by rfl) :
    PS X (.Assign [.Tuple [.Name x px, .Name y py] kt pt] (.Tuple [a,b] k2 pt2) pos) (tPar i j ta):=by
  intro pins s σ H D I h;rw [exec_Assign_arm];refine wpAny_bind (wpAny_standAt ?_);rw [hs];refine wpAny_bind (wpAny_pure ?_);rw [if_neg (by decide)];refine wpAny_bind (Tuple_ (thn (ha _ pins s σ H _ I h) fun us s1 zz9=>?_));obtain ⟨vs,H1,I1,r1,q1⟩:=zz9;obtain ⟨v,w,e1,q1⟩:=q1;subst e1;obtain ⟨u1,u2,rfl,rv,rw'⟩:∃ u1 u2,us=[u1,u2]∧ZG v u1∧ZG w u2:=by
    cases r1 with
    | cons p q =>
      cases q with
      | cons p' q' =>
        cases q';exact ⟨_,_,rfl,p,p'⟩
  refine wpAny_newObj_type ?_ (by show 2≤sizeLine; decide);have I2:Inv X pins σ H1 { s1 with heap:=s1.heap.push { cls := .type "tuple",data := .seq [u1,u2].toArray } }:=I1.kept (t':=s1.toks) fun b o e=>Heap.get?_push_of_some _ e;rw [hw];refine wpAny_bind (wpAny_pure ?_);show wpAny (model X.prog X.w) X.A (do rule "assign.swapped-stores"; let items ← unpackItems (.ref s1.heap.objs.size) 2 none; assignInOrder [fun v=>bindName X.env y v,fun v=>bindName X.env x v] items.reverse; pure Flow.next) _ _ _;refine wpAny_bind (wpAny_rule (wpAny_bind (unpackItems_tuple (items := #[u1,u2]) (I.ok.hd hc) (IsTup.new s1.heap _) fun h' hx'=>?_)));have I3:=I2.kept (h':=h') (t':=s1.toks) fun b o e=>hx' b o (ne_of_lt (Heap.lt_size e)) e;show wpAny _ _ (assignInOrder [fun v=>bindName X.env y v,fun v=>bindName X.env x v] [u2,u1] >>= fun _=>pure Flow.next) _ _ _;refine wpAny_bind (assignInOrder_cons (wpAny_bindName (ZaD I3 hN hj (.inl hy) rw' (fun s2 I4=>?_) (.inr hy))));refine assignInOrder_cons (wpAny_bindName (ZaD I4 hN hi (.inl hx) rv (fun s3 I5=>assignInOrder_nil (wpAny_pure ?_)) (.inr hx)));rw [List.set_comm _ _ (Ne.symm hij)] at I5;exact ⟨_,H1,I5,q1⟩
noncomputable def tAug (i:Nat) (te:TE) (ti:TIp):TS:=fun D σ H=>∃ x,σ[i]? = some (some x)∧te σ H fun y H1=>ti x y H1 fun z H2=>D.nx (σ.set i (some z)) H2
theorem ps_aug {i:Nat} {x:Str} {e:Expr} {te:TE} {op:Operator} {ti:TIp} {pos':Pos} (hN:X.N.Nodup) (hi:X.N[i]? = some x) (hx:Loc X.env.scope x) (he:PE X e te) (ho:PIp X op ti) (hf:X.fn x=true∨X.env.scope.names.lookup x=some .local:=by first | exact .inl rfl | exact .inr rfl | assumption) :
    PS X (.AugAssign (.Name x pos') op e pos) (tAug i te ti):=by
  intro pins s σ H D I h;obtain ⟨v,e1,h⟩:=h;obtain ⟨m,hn,hl⟩:=I.loc;have vis:Vis X.env.scope x:=by rcases hx with k | k; exact .inl k; exact .inr (.inl k)
  obtain ⟨u,r,l⟩:=hl i x v hi e1 vis;refine wpAny_AugAssign_Name ?_;have go:wpAny (model X.prog X.w) X.A (eval e X.env) (fun w s₂=>wpAny (model X.prog X.w) X.A (inplaceOp op u w) (fun r s₃=>wpAny (model X.prog X.w) X.A (storeName X.env x r) (fun _=>SP X pins D .next) X.xe s₃) X.xe s₂) X.xe s:=by
    refine thn (he pins s σ H _ I h) fun w s1 zz9=>?_;obtain ⟨y,H1,I1,r1,q1⟩:=zz9;refine thn (ho pins s1 σ H1 v y u w _ I1 r r1 q1) fun z s2 zz9=>?_;obtain ⟨zv,H2,I2,r2,q2⟩:=zz9;exact ZaD I2 hN hi hx r2 (fun s3 I3=>⟨_,H2,I3,q2⟩) hf
  rcases l with ⟨hk,hm⟩ | ⟨hk,c,hc,hcell⟩
  · exact wpAny_loadName_local I.ok.kind hk hn hm go
  · rcases hk with hk | hk
    · exact wpAny_loadName_cell I.ok.kind hk hc hcell go
    · rcases hx with k | k
      · have:X.env.scope.names.lookup x=some .free:=hk;rw [k] at this; cases this
      · have:X.env.scope.names.lookup x=some .free:=hk;rw [k] at this; cases this
noncomputable def ipI (f:Int→Int→Int):TIp:=fun x y H Q=>∃ i j,x = .int i∧y = .int j∧Q (.int (f i j)) H
theorem ip_sub:PIp X .Sub (ipI fun i j=>i - j):=by
  intro pins s σ H x y v u Q I r1 r2 h;obtain ⟨i,j,e1,e2,q⟩:=h;subst e1; subst e2;obtain ⟨t,rfl⟩:=r1;obtain ⟨t',rfl⟩:=r2;exact isub_int ⟨.int _,H,I.tok _,⟨_,rfl⟩,q⟩
end
section
variable {X:Cx} {pos:Pos}
noncomputable def tWhile (c:TT) (tb:TS):TS:=fun D σ H=>∃ W:Nat→St→Hp→Prop,(∃ m,W m σ H)∧∀ m σ H,W m σ H →
  c σ H fun b H1=>if b=true then ∃ N:St→Hp→Prop,(∀ σ' H',N σ' H'→∃ m',m'<m∧W m' σ' H')∧tb { D with nx:=N,ct:=N,bk:=D.nx } σ H1 else D.nx σ H1
theorem Zci {c:Expr} {body:List Stmt} {tc:TT} {tb:TS} (hp:PassesOwn (model X.prog X.w) X.A X.env X.xe) (hc:PT X c tc) (hb:PSs X body tb):PS X (.While c body [] pos) (tWhile tc tb):=by
  intro pins s σ H D I h;obtain ⟨W,⟨m0,w0⟩,turn⟩:=h;refine wpAny_While (codeAny_whileLoop (fun n s'=>∃ σ' H',Inv X pins σ' H' s'∧W n σ' H') ?_ m0 ⟨σ,H,I,w0⟩);rintro n s1 ⟨σ1,H1,I1,w1⟩;refine wpAny_passesOwn hp (thn (hc pins s1 σ1 H1 _ I1 (turn n σ1 H1 w1)) fun b s2 zz9=>?_);obtain ⟨H2,I2,q2⟩:=zz9;cases b with
  | true =>
    obtain ⟨N,hN,q2⟩:=q2;rw [if_pos rfl];refine wpAny_passesOwn hp (thn (hb pins s2 σ1 H2 _ I2 q2) fun f s3 q3=>?_);cases f with
    | next =>
      obtain ⟨σ3,H3,I3,n3⟩:=q3;obtain ⟨m',hm,w3⟩:=hN σ3 H3 n3;exact ⟨m',hm,σ3,H3,I3,w3⟩
    | cont =>
      obtain ⟨σ3,H3,I3,n3⟩:=q3;obtain ⟨m',hm,w3⟩:=hN σ3 H3 n3;exact ⟨m',hm,σ3,H3,I3,w3⟩
    | brk=>exact q3
    | ret v=>exact q3
  | false =>
    rw [if_neg Bool.false_ne_true];exact wpAny_execs_nil ⟨σ1,H2,I2,q2⟩
end
structure It where
  go:Nat→Hp→Prop
  yld:Nat→Hp→V→Hp→Prop
  stop:Nat→Hp→Prop
noncomputable def Zer (X:Cx) (pins:List (Addr×Obj)) (H:Hp) (b:Addr):Prop:=
  H b=none∧b≠X.env.locals∧b∉X.fs∧(b∈X.ex∨X.s₀.heap.objs.size≤b)∧(∀ x c,X.env.cells.lookup x=some c→c≠b)∧∀ p∈X.pn++pins,p.1≠b
theorem Inv.fpOk {X:Cx} {pins:List (Addr×Obj)} {σ:St} {H H':Hp} {s:Shared} {b:Addr} (I:Inv X pins σ H s) (hb:s.heap.objs.size≤b) (hn:H' b=none):Zer X pins H' b:=by
  refine ⟨hn,Nat.ne_of_gt (lt_of_lt_of_le I.lt hb),I.nofs hb, .inr (le_trans I.sz hb),fun x c e z=>?_,fun p hp z=>?_⟩
  · obtain ⟨v,q⟩:=I.cell x c e;exact absurd (lt_of_lt_of_le q.lt (by rw [z]; exact hb)) (lt_irrefl _)
  · exact absurd (lt_of_lt_of_le (Heap.lt_size (I.pin p hp).1) (by rw [z]; exact hb)) (lt_irrefl _)
structure Turn (P:Program) (w:World) (K:Frag) (tg:Expr) (J:It) (fp:List Addr) (it:Addr) (tn:Nat→Heap→Prop):Prop where
  mem:it∈fp
  obj:∀ i h,tn i h→∀ b∈fp,∃ o,h.get? b=some o∧∀ v,o.data ≠ .cell v
  keep:∀ i h h',tn i h→(∀ b∈fp,∀ o,h.get? b=some o→h'.get? b=some o)→tn i h'
  item:∀ (X:Cx),X.prog=P→X.w=w→X.K=K→X.calm=true→∀ (i:Nat) (pins:List (Addr×Obj)) (s:Shared) (σ:St) (H:Hp) (E:Value→Shared→Prop),Inv X pins σ H s→(∀ b∈fp,Zer X pins H b)→tn i s.heap→J.go i H →
    wpAny (model P w) X.A (pyNext (.ref it)) (fun r s1=>∃ u,r=some u ∧
      wpAny (model P w) X.A (letOwnedTupleGo tg (.ref it) u) (fun _ s2=>∃ x H',Inv X pins σ H' s2∧ZG x u∧J.yld i H x H'∧tn (i+1) s2.heap∧∀ b∈fp,H' b=none) E s1) E s
  done:∀ (X:Cx),X.prog=P→X.w=w→X.K=K→X.calm=true→∀ (i:Nat) (pins:List (Addr×Obj)) (s:Shared) (σ:St) (H:Hp) (E:Value→Shared→Prop),Inv X pins σ H s→(∀ b∈fp,Zer X pins H b)→tn i s.heap→J.stop i H →
    wpAny (model P w) X.A (pyNext (.ref it)) (fun r s1=>r=none∧Inv X pins σ H s1) E s
  self:∀ (A:Around) (i:Nat) (s:Shared) (Q:Value→Shared→Prop) (E:Value→Shared→Prop),tn i s.heap→Q (.ref it) s→wpAny (model P w) A (pyIter (.ref it)) Q E s
noncomputable abbrev TI:=St→Hp→(It→Hp→Prop)→Prop
noncomputable def PIE (X:Cx) (pins:List (Addr×Obj)) (σ:St) (tg:Expr) (R:It→Hp→Prop) (itv:Value) (s2:Shared):Prop:=
  ∃ (it:Addr) (fp:List Addr) (tn:Nat→Heap→Prop) (J:It) (H':Hp),itv = .ref it∧Inv X pins σ H' s2∧Turn X.prog X.w X.K tg J fp it tn∧tn 0 s2.heap∧(∀ b∈fp,Zer X pins H' b)∧R J H'
noncomputable def PI (X:Cx) (tg iter:Expr) (wi:TI):Prop:=
  ∀ (pins:List (Addr×Obj)) (s:Shared) (σ:St) (H:Hp) (R:It→Hp→Prop),Inv X pins σ H s→wi σ H R →
    wpAny (model X.prog X.w) X.A (eval iter X.env) (fun v s1=>wpAny (model X.prog X.w) X.A (pyIter v) (PIE X pins σ tg R) X.xe s1) X.xe s
theorem ZhL {M:Model} {A:Around} {E:Value→Shared→Prop} {s:Shared} {tg:Expr} {it:Addr} {u:Value} {o:Obj} {n:String} {vs:Array Value} {Q:Unit→Shared→Prop} (ho:s.heap.get? it=some o) (hc:o.cls = .type n) (hd:o.data = .fields vs)
    (hn:["enumerate","zip","dict_itemiterator","dict_reverseitemiterator","odict_iterator","itertools.zip_longest","itertools.pairwise"].contains n=false) (hQ:Q () s):wpAny M A (letOwnedTupleGo tg (.ref it) u) Q E s:=by
  unfold letOwnedTupleGo;cases tg <;> first
    | exact wpAny_pure hQ
    | (cases u <;> first
        | exact wpAny_pure hQ
        | (refine wpAny_bind (wpAny_load ho ?_)
           rw [hc,hd];show wpAny M A (if (["enumerate","zip","dict_itemiterator","dict_reverseitemiterator","odict_iterator","itertools.zip_longest","itertools.pairwise"].contains n && vs[0]? == some (rawInt _))=true then _ else _) Q E s;rw [if_neg (by intro h; rw [hn,Bool.false_and] at h; cases h)];exact wpAny_pure hQ))
noncomputable def Itl (K:Frag) (a:Addr):It:=
  ⟨fun i H=>∃ xs x,SqL K H a xs∧xs[i]? = some x,fun i H x H'=>H'=H∧∀ xs,SqL K H a xs→xs[i]? = some x,fun i H=>∃ xs,SqL K H a xs∧xs.length≤i⟩
noncomputable def Itr (lo:Int) (n:Nat):It:=⟨fun i _=>i<n,fun i H x H'=>H'=H∧x = .int (lo+i),fun i _=>n≤i⟩
theorem ZhZ {P:Program} {w:World} {K:Frag} {tg:Expr} (a it:Addr):Turn P w K tg (Itl K a) [it] it (fun i h=>h.IsListIter it a i) where
  mem:=by simp
  obj:=fun i h st b hb=>by
    have e:b=it:=by simpa using hb
    subst e;obtain ⟨o,e,c,d⟩:=st;exact ⟨o,e,fun v z=>by rw [d] at z; cases z⟩
  keep:=fun i h h' st k=>st.at fun o e=>k it (by simp) o e
  item:=by
    intro X hP hw hK hc i pins s σ H E I hf st hg;subst hP hw hK;obtain ⟨xs,x,hq,hx⟩:=hg;obtain ⟨its,rv,p,hz⟩:=I.list hq;obtain ⟨u,hu,ru⟩:=rv.get hx;obtain ⟨f0,f1,f2,f3,f4,f5⟩:=hf it (by simp);refine wpAny_pyNext_list_item st p.isList (x:=u) (by simpa using hu) fun h' st' sb=>?_;have I1:Inv X pins σ H { s with heap:=h' }:=I.turned (t':=s.toks) (fun b o hb e=>(sb.2 b hb).trans e) f0 f1 f3 f4 f5;obtain ⟨o,e,c,d⟩:=id st';exact ⟨u,rfl,ZhL (s:={ s with heap:=h' }) e c d (by decide) ⟨x,H,I1,ru,⟨rfl,fun ys hy=>by rw [I.list_inj hy hq]; exact hx⟩,st',fun b hb=>(hf b hb).1⟩⟩
  done:=by
    intro X hP hw hK hc i pins s σ H E I hf st hg;subst hP hw hK;obtain ⟨xs,hq,hx⟩:=hg;obtain ⟨its,rv,p,hz⟩:=I.list hq;obtain ⟨f0,f1,f2,f3,f4,f5⟩:=hf it (by simp);have hl:=rv.length;exact wpAny_pyNext_list_end (I.ok.hd hc) st p.isList (by simp; omega) fun h' eb=>⟨rfl,I.turned (t':=s.toks) (fun b o hb e=>eb b o hb e) f0 f1 f3 f4 f5⟩
  self:=fun _ _ _ _ _ st h=>wpAny_pyIter_listiter st h
theorem ZgR {P:Program} {w:World} {K:Frag} {tg:Expr} (it:Addr) (lo:Int) (n:Nat):Turn P w K tg (Itr lo n) [it] it (fun i h=>IsRangeIter h it (lo+(i:Nat) * 1) ((n:Int) - (i:Nat)) 1) where
  mem:=by simp
  obj:=fun i h st b hb=>by
    have e:b=it:=by simpa using hb
    subst e;exact ⟨_,st,fun v z=>by
      have z':Data.fields _=Data.cell v:=z;cases z'⟩
  keep:=fun i h h' st k=>k it (by simp) _ st
  item:=by
    intro X hP hw hK hc i pins s σ H E I hf st hg;subst hP hw hK;obtain ⟨f0,f1,f2,f3,f4,f5⟩:=hf it (by simp);have W:=Walks.range (prog:=X.prog) (w:=X.w) (I.ok.hd hc) it lo 1 n;refine W.item i s _ _ hg st fun v h' tk hv st' kk=>?_;obtain ⟨t,rfl⟩:=hv;have I1:Inv X pins σ H { s with heap:=h',toks:=tk }:=I.turned (fun b o hb e=>kk b o (by simpa using hb) e) f0 f1 f3 f4 f5;refine ⟨_,rfl,ZhL (s:={ s with heap:=h',toks:=tk }) (n:="range_iterator") st' rfl rfl (by decide) ⟨.int (lo+i),H,I1,⟨t,?_⟩,⟨rfl,rfl⟩,st',fun b hb=>(hf b hb).1⟩⟩;rw [Int.mul_one]
  done:=by
    intro X hP hw hK hc i pins s σ H E I hf st hg;subst hP hw hK;obtain ⟨f0,f1,f2,f3,f4,f5⟩:=hf it (by simp);exact wpAny_pyNext_range_end (I.ok.hd hc) st (by have:n≤i:=hg; omega) fun h' eb=>⟨rfl,I.turned (t':=s.toks) (fun b o hb e=>eb b o hb e) f0 f1 f3 f4 f5⟩
  self:=fun _ _ _ _ _ st h=>wpAny_pyIter_rangeiter st h
open PySem PySem.Spec PyProof.Rows
section
variable {X:Cx} {tg:Expr}
noncomputable def Zct (K:Frag) (tl:TE):TI:=fun σ H R=>tl σ H fun x H1=>∃ a,x = .ref a∧(∃ xs,SqL K H1 a xs)∧R (Itl K a) H1
theorem Yc {l:Expr} {tl:TE} (hl:PE X l tl):PI X tg l (Zct X.K tl):=by
  intro pins s σ H R I h;refine thn (hl pins s σ H _ I h) fun v s1 zz9=>?_;obtain ⟨x,H1,I1,r1,q1⟩:=zz9;obtain ⟨a,e,⟨xs,hq⟩,q⟩:=q1;subst e;cases r1;obtain ⟨its,rv,p,hz⟩:=I1.list hq;refine wpAny_pyIter_list p.isList ?_;refine ⟨s1.heap.objs.size,[s1.heap.objs.size],_,_,H1,rfl,I1.kept (t':=s1.toks) fun b o e=>Heap.get?_push_of_some _ e,ZhZ a _,⟨_,Heap.get?_push_size _ rfl,rfl,rfl⟩,fun b hb=>?_,q⟩;have e:b=s1.heap.objs.size:=by simpa using hb
  subst e;exact I1.fpOk (le_refl _) (I1.hok.fresh (le_refl _))
theorem Zi4 {pins:List (Addr×Obj)} {σ:St} {H:Hp} {s:Shared} {R:It→Hp→Prop} {E:Value→Shared→Prop} {lo hi:Int} {t u v:Tok} {tk:Nat} (I:Inv X pins σ H s) (h1 : -(2 ^ 62)≤lo) (h2:lo<2 ^ 62) (h3 : -(2 ^ 62)≤hi) (h4:hi<2 ^ 62)
    (q:R (Itr lo (hi - lo).toNat) H):wpAny (model X.prog X.w) X.A (pyIter (.ref s.heap.objs.size)) (PIE X pins σ tg R) E { s with heap:=s.heap.push { cls := .type "range",data := .fields #[.int lo t, .int hi u, .int 1 v] },toks:=tk }:=by
  refine wpAny_pyIter_range (IsRange.new ..) (small_one h1 h2 h3 h4) ?_;have I1:Inv X pins σ H { s with heap:=s.heap.push { cls := .type "range",data := .fields #[.int lo t, .int hi u, .int 1 v] },toks:=tk }:=I.kept fun b o e=>Heap.get?_push_of_some _ e;refine ⟨(s.heap.push { cls := .type "range",data := .fields #[.int lo t, .int hi u, .int 1 v] }).objs.size,[(s.heap.push { cls := .type "range",data := .fields #[.int lo t, .int hi u, .int 1 v] }).objs.size],_,_,H,rfl,
    I1.kept (t':=tk) fun b o e=>Heap.get?_push_of_some _ e,ZgR _ lo (hi - lo).toNat,?_,fun b hb=>?_,q⟩
  · have e1:lo+((0:Nat):Int) * 1=lo:=by simp
    have e2:(((hi - lo).toNat:Nat):Int) - ((0:Nat):Int)=Builtin.Range.rangeSize lo hi 1:=by rw [rangeSize_one]; split <;> omega
    show IsRangeIter _ _ (lo+((0:Nat):Int) * 1) ((((hi - lo).toNat:Nat):Int) - ((0:Nat):Int)) 1;rw [e1,e2];exact Heap.get?_push_size _ rfl
  · have e:b=(s.heap.push { cls := .type "range",data := .fields #[.int lo t, .int hi u, .int 1 v] }).objs.size:=by simpa using hb
    subst e;exact I1.fpOk (le_refl _) (I1.hok.fresh (le_refl _))
noncomputable def iRng1 (ta:TA):TI:=fun σ H R=>ta σ H fun vs H1=>∃ j:Int,vs=[.int j] ∧ -(2 ^ 62)≤j∧j<2 ^ 62∧R (Itr 0 j.toNat) H1
theorem ZaL {a:Expr} {ta:TA} {p pos:Pos} (hg:Gl X "range") (hm:X.mg "range"=none) (ha:PA X [a] ta) (hs:starEach [a] X.env=[(false,eval a X.env)]:=by rfl):PI X tg (.Call (.Name "range" p) [a] [] pos) (iRng1 ta):=by
  intro pins s σ H R I h;refine Call_ (Zhc I hg hm boot_range (PyProof.Rows.callWith_type1 (thn (ha pos pins s σ H _ I h) fun us s1 zz9=>?_) hs rfl));obtain ⟨vs,H1,I1,r1,q1⟩:=zz9;obtain ⟨j,e,q1,q2,q⟩:=q1;subst e;cases r1 with
  | cons r rr =>
    cases rr;obtain ⟨t,rfl⟩:=r;exact call_range_1 (Zi4 I1 (by omega) (by omega) q1 q2 (by simpa using q))
noncomputable def tFor (wi:TI) (g:TG) (tb:TS):TS:=fun D σ H=>wi σ H fun J H1=>∃ W:Nat→Nat→St→Hp→Prop,(∃ m,W 0 m σ H1)∧∀ i m σ H,W i m σ H →
  (J.stop i H∧D.nx σ H)∨(J.go i H∧∃ N:St→Hp→Prop,(∀ σ' H',N σ' H'→∃ m',m'<m∧W (i+1) m' σ' H')∧∀ x H',J.yld i H x H'→g x σ H' fun σ2 H2=>tb { D with nx:=N,ct:=N,bk:=D.nx } σ2 H2)
noncomputable def ZdS (fp:List Addr) (h:Heap):List (Addr×Obj):=fp.filterMap fun b=>(h.get? b).map fun o=>(b,o)
theorem Za2 {fp:List Addr} {h:Heap} {b:Addr} {o:Obj} (hb:b∈fp) (e:h.get? b=some o):(b,o)∈ZdS fp h:=List.mem_filterMap.mpr ⟨b,hb,by rw [e]; rfl⟩
theorem Zik {fp:List Addr} {h:Heap} {p:Addr×Obj} (hp:p∈ZdS fp h):p.1∈fp∧h.get? p.1=some p.2:=by
  obtain ⟨b,hb,e⟩:=List.mem_filterMap.mp hp;cases q:h.get? b with
  | none=>rw [q] at e; cases e
  | some o =>
    rw [q] at e;have e':(b,o)=p:=Option.some.inj e;subst e';exact ⟨hb,q⟩
theorem Inv.pinned {pins:List (Addr×Obj)} {σ:St} {H:Hp} {s:Shared} {fp:List Addr} (I:Inv X pins σ H s) (hf:∀ b∈fp,Zer X pins H b) (ho:∀ b∈fp,∃ o,s.heap.get? b=some o∧∀ v,o.data ≠ .cell v):Inv X (pins++ZdS fp s.heap) σ H s:=
  I.pins_of fun p hp=>(List.mem_append.mp hp).elim (fun z=>I.pin p (mem_append_right _ z)) fun z=>by
    obtain ⟨hb,e⟩:=Zik z;obtain ⟨f0,f1,f2,_⟩:=hf p.1 hb;obtain ⟨o,e',d⟩:=ho p.1 hb;rw [e] at e'; cases e';exact ⟨e,f0,f1,f2,d⟩
theorem Inv.unpinned {pins pl:List (Addr×Obj)} {σ:St} {H:Hp} {s:Shared} (I:Inv X (pins++pl) σ H s):Inv X pins σ H s:=I.pins_of fun p hp=>I.pin p (mem_append_right _ (mem_append_left _ hp))
theorem Za0 {iter:Expr} {body:List Stmt} {wi:TI} {g:TG} {tb:TS} {pos:Pos} (hp:PassesOwn (model X.prog X.w) X.A X.env X.xe) (hc:X.calm=true) (hi:PI X tg iter wi) (hg:PG X tg g) (hb:PSs X body tb)
    (hs:∀ x,foldedSetIterable iter X.env x=pure x:=by intro _; rfl):PS X (.For tg iter body [] pos) (tFor wi g tb):=by
  intro pins s σ H D I h;refine wpAny_For (thn (hi pins s σ H _ I h) fun v s1 h1=>thn h1 fun itv s2 h2=>?_) hs;obtain ⟨it,fp,tn,J,H2,e,I2,T,st2,f2,W,⟨m0,w0⟩,turn⟩:=h2;subst e;have stat:∀ {H':Hp},(∀ b∈fp,H' b=none)→∀ b∈fp,Zer X pins H' b:=fun hn b hb=>⟨hn b hb,(f2 b hb).2⟩;refine codeAny_forLoop_any (fun n s'=>∃ i σ' H',Inv X pins σ' H' s'∧tn i s'.heap∧(∀ b∈fp,H' b=none)∧W i n σ' H') ?_ m0 ⟨0,σ,H2,I2,st2,fun b hb=>(f2 b hb).1,w0⟩;rintro n s3 ⟨i,σ3,H3,I3,st3,fr3,w3⟩;rcases turn i n σ3 H3 w3 with ⟨stop,qn⟩ | ⟨go,N,hN,step⟩
  · refine wpAny_passesOwn hp (thn (T.done X rfl rfl rfl hc i pins s3 σ3 H3 X.xe I3 (stat fr3) st3 stop) fun r s4 zz9=>?_);obtain ⟨hr,I4⟩:=zz9;subst hr;exact wpAny_execs_nil ⟨σ3,H3,I4,qn⟩
  · refine wpAny_passesOwn hp (thn (T.item X rfl rfl rfl hc i pins s3 σ3 H3 X.xe I3 (stat fr3) st3 go) fun r s4 zz9=>?_);obtain ⟨u,hr,h4⟩:=zz9;subst hr;refine wpAny_passesOwn hp (thn h4 fun _ s5 zz9=>?_);obtain ⟨x,H5,I5,r5,y5,st5,fr5⟩:=zz9;have I5':=I5.pinned (stat fr5) (T.obj _ _ st5);refine wpAny_passesOwn hp (thn (hg _ s5 σ3 H5 x u _ I5' r5 (step x H5 y5)) fun _ s6 zz9=>?_);obtain ⟨σ6,H6,I6,q6⟩:=zz9;refine wpAny_passesOwn hp (thn (hb _ s6 σ6 H6 _ I6 q6) fun f s7 q7=>?_);have again:∀ {σ7:St} {H7:Hp},Inv X (pins++ZdS fp s5.heap) σ7 H7 s7→N σ7 H7→∃ m,m<n∧∃ i σ' H',Inv X pins σ' H' s7∧tn i s7.heap∧(∀ b∈fp,H' b=none)∧W i m σ' H':=fun {σ7 H7} I7 n7=>by
      obtain ⟨m',hm,w7⟩:=hN σ7 H7 n7;refine ⟨m',hm,i+1,σ7,H7,I7.unpinned,T.keep _ _ _ st5 fun b hb o e=>(I7.pin (b,o) (mem_append_right _ (mem_append_right _ (Za2 hb e)))).1,fun b hb=>?_,w7⟩;obtain ⟨o,e,d⟩:=T.obj _ _ st5 b hb;exact (I7.pin (b,o) (mem_append_right _ (mem_append_right _ (Za2 hb e)))).2.1
    cases f with
    | next=>obtain ⟨σ7,H7,I7,n7⟩:=q7; exact again I7 n7
    | cont=>obtain ⟨σ7,H7,I7,n7⟩:=q7; exact again I7 n7
    | brk=>obtain ⟨σ7,H7,I7,q7⟩:=q7; exact ⟨σ7,H7,I7.unpinned,q7⟩
    | ret v=>obtain ⟨x7,σ7,H7,I7,r7,q7⟩:=q7; exact ⟨x7,σ7,H7,I7.unpinned,r7,q7⟩
end
theorem Zen {K:Frag} {a:Addr} {xs:List V} {g:TG} {tb:TS} {D:Ends} {σ:St} {H:Hp} (Pv:Nat→St→Hp→Prop) (h0:Pv 0 σ H) (hl:∀ i σ H,i≤xs.length→Pv i σ H→SqL K H a xs)
    (hs:∀ i x σ H,xs[i]? = some x→Pv i σ H→g x σ H fun σ2 H2=>tb { D with nx:=Pv (i+1),ct:=Pv (i+1),bk:=D.nx } σ2 H2) (hd:∀ σ H,Pv xs.length σ H→D.nx σ H) :
    ∃ W:Nat→Nat→St→Hp→Prop,(∃ m,W 0 m σ H)∧∀ i m σ H,W i m σ H →
      ((Itl K a).stop i H∧D.nx σ H)∨((Itl K a).go i H∧∃ N:St→Hp→Prop,(∀ σ' H',N σ' H'→∃ m',m'<m∧W (i+1) m' σ' H')∧∀ x H',(Itl K a).yld i H x H'→g x σ H' fun σ2 H2=>tb { D with nx:=N,ct:=N,bk:=D.nx } σ2 H2):=by
  refine ⟨fun i m σ H=>m=xs.length - i∧i≤xs.length∧Pv i σ H,⟨xs.length,by simp,zero_le _,h0⟩,?_⟩;rintro i m σ H ⟨rfl,hi,p⟩;have q:=hl i σ H hi p
  by_cases hlt:i<xs.length
  · refine .inr ⟨⟨xs,xs[i],q,by simp [hlt]⟩,Pv (i+1),fun σ' H' p'=>⟨xs.length - (i+1),by omega,rfl,hlt,p'⟩,fun x H' y=>?_⟩;obtain ⟨e,y⟩:=y;subst e;exact hs i x σ _ (y xs q) p
  · have e:i=xs.length:=by omega
    subst e;exact .inl ⟨⟨xs,q,le_refl _⟩,hd σ H p⟩
theorem ZbI {lo:Int} {n:Nat} {g:TG} {tb:TS} {D:Ends} {σ:St} {H:Hp} (Pv:Nat→St→Hp→Prop) (h0:Pv 0 σ H)
    (hs:∀ i σ H,i<n→Pv i σ H→g (.int (lo+i)) σ H fun σ2 H2=>tb { D with nx:=Pv (i+1),ct:=Pv (i+1),bk:=D.nx } σ2 H2) (hd:∀ σ H,Pv n σ H→D.nx σ H) :
    ∃ W:Nat→Nat→St→Hp→Prop,(∃ m,W 0 m σ H)∧∀ i m σ H,W i m σ H →
      ((Itr lo n).stop i H∧D.nx σ H)∨((Itr lo n).go i H∧∃ N:St→Hp→Prop,(∀ σ' H',N σ' H'→∃ m',m'<m∧W (i+1) m' σ' H')∧∀ x H',(Itr lo n).yld i H x H'→g x σ H' fun σ2 H2=>tb { D with nx:=N,ct:=N,bk:=D.nx } σ2 H2):=by
  refine ⟨fun i m σ H=>m=n - i∧i≤n∧Pv i σ H,⟨n,by simp,zero_le _,h0⟩,?_⟩;rintro i m σ H ⟨rfl,hi,p⟩
  by_cases hlt:i<n
  · refine .inr ⟨hlt,Pv (i+1),fun σ' H' p'=>⟨n - (i+1),by omega,rfl,hlt,p'⟩,fun x H' y=>?_⟩;obtain ⟨e,y⟩:=y;subst e y;exact hs i σ _ hlt p
  · have e:i=n:=by omega
    subst e;exact .inl ⟨le_refl _,hd σ H p⟩
open PySem PySem.Spec PyProof.Rows
noncomputable abbrev R2:=V→V→Hp→VK→Prop
noncomputable def OpR (X:Cx) (f:Value→Value→Sem Value) (r:R2):Prop:=
  ∀ (pins:List (Addr×Obj)) (s:Shared) (σ:St) (H:Hp) (x y:V) (v u:Value) (Q:VK),Inv X pins σ H s→ZG x v→ZG y u→r x y H Q →
    wpAny (model X.prog X.w) X.A (f v u) (EP X pins σ Q) X.xe s
noncomputable def UnR (X:Cx) (f:Value→Sem Value) (r:V→Hp→VK→Prop):Prop:=
  ∀ (pins:List (Addr×Obj)) (s:Shared) (σ:St) (H:Hp) (x:V) (v:Value) (Q:VK),Inv X pins σ H s→ZG x v→r x H Q →
    wpAny (model X.prog X.w) X.A (f v) (EP X pins σ Q) X.xe s
noncomputable def Jz (X:Cx) (f:Value) (r:List V→Hp→VK→Prop):Prop:=
  ∀ (pins:List (Addr×Obj)) (s:Shared) (σ:St) (H:Hp) (xs:List V) (us:List Value) (Q:VK),Inv X pins σ H s→ZF xs us→r xs H Q →
    wpAny (model X.prog X.w) X.A (call f us) (EP X pins σ Q) X.xe s
noncomputable def TruR (X:Cx) (r:V→Hp→(Bool→Hp→Prop)→Prop):Prop:=
  ∀ (pins:List (Addr×Obj)) (s:Shared) (σ:St) (H:Hp) (x:V) (v:Value) (Q:Bool→Hp→Prop),Inv X pins σ H s→ZG x v→r x H Q →
    wpAny (model X.prog X.w) X.A (truthy v) (TP X pins σ Q) X.xe s
noncomputable def tOp (r:R2) (ta tb:TE):TE:=fun σ H Q=>ta σ H fun x H1=>tb σ H1 fun y H2=>r x y H2 Q
noncomputable def tUn (r:V→Hp→VK→Prop) (ta:TE):TE:=fun σ H Q=>ta σ H fun x H1=>r x H1 Q
noncomputable def rI (C:Int→Int→Prop) (g:Int→Int→V):R2:=fun x y H Q=>∃ i j,x = .int i∧y = .int j∧C i j∧Q (g i j) H
noncomputable def rI0 (g:Int→Int→V):R2:=fun x y H Q=>∃ i j,x = .int i∧y = .int j∧Q (g i j) H
noncomputable def rU (g:Int→V):V→Hp→VK→Prop:=fun x H Q=>∃ i,x = .int i∧Q (g i) H
section
variable {X:Cx} {a b c:Expr} {ta tb tc:TE} {pos:Pos}
theorem binT (ha:PE X a ta) (hb:PE X b tb) {pins:List (Addr×Obj)} {s:Shared} {σ:St} {H:Hp} {R:V→V→Hp→Prop} (I:Inv X pins σ H s)
    (h:ta σ H fun x H1=>tb σ H1 fun y H2=>R x y H2) {Q:Value→Shared→Prop} {f:Value→Value→Sem Value}
    (hf:∀ v u s2 x y H2,Inv X pins σ H2 s2→ZG x v→ZG y u→R x y H2→wpAny (model X.prog X.w) X.A (f v u) Q X.xe s2) :
    wpAny (model X.prog X.w) X.A (eval a X.env) (fun v s₁=>wpAny (model X.prog X.w) X.A (eval b X.env) (fun u s₂=>wpAny (model X.prog X.w) X.A (f v u) Q X.xe s₂) X.xe s₁) X.xe s:=by
  refine thn (ha pins s σ H _ I h) fun v s1 zz9=>?_;obtain ⟨x,H1,I1,r1,q1⟩:=zz9;refine thn (hb pins s1 σ H1 _ I1 q1) fun u s2 zz9=>?_;obtain ⟨y,H2,I2,r2,q2⟩:=zz9;exact hf v u s2 x y H2 I2 r1 r2 q2
theorem Zn {op:Operator} {r:R2} (ho:OpR X (binaryOp op) r) (ha:PE X a ta) (hb:PE X b tb):PE X (.BinOp a op b pos) (tOp r ta tb):=by
  intro pins s σ H Q I h;exact wpAny_BinOp (binT ha hb I h fun v u s2 x y H2 I2 rx ry q=>ho pins s2 σ H2 x y v u Q I2 rx ry q)
theorem pe_un {op:UnaryOp} {r:V→Hp→VK→Prop} (ho:UnR X (unaryOp op) r) (ha:PE X a ta):PE X (.UnaryOp op a pos) (tUn r ta):=by
  intro pins s σ H Q I h;exact UnaryOp_ (thn (ha pins s σ H _ I h) fun v s1 ⟨x,H1,I1,r1,q1⟩=>ho pins s1 σ H1 x v Q I1 r1 q1)
theorem opI {f:Value→Value→Sem Value} {C:Int→Int→Prop} {g:Int→Int→Int}
    (rule:∀ (i j:Int) (t u:Tok) (s:Shared) (Q:Value→Shared→Prop) (E:Value→Shared→Prop),C i j→Q (.int (g i j) s.toks) { s with toks:=s.toks+1 }→wpAny (model X.prog X.w) X.A (f (.int i t) (.int j u)) Q E s) :
    OpR X f (rI C fun i j => .int (g i j)):=by
  intro pins s σ H x y v u Q I rx ry h;obtain ⟨i,j,rfl,rfl,hc,q⟩:=h;obtain ⟨t,rfl⟩:=rx;obtain ⟨t',rfl⟩:=ry;exact rule i j t t' s _ _ hc ⟨.int (g i j),H,I.tok _,⟨_,rfl⟩,q⟩
theorem opI0 {f:Value→Value→Sem Value} {g:Int→Int→Int}
    (rule:∀ (i j:Int) (t u:Tok) (s:Shared) (Q:Value→Shared→Prop) (E:Value→Shared→Prop),Q (.int (g i j) s.toks) { s with toks:=s.toks+1 }→wpAny (model X.prog X.w) X.A (f (.int i t) (.int j u)) Q E s) :
    OpR X f (rI0 fun i j => .int (g i j)):=by
  intro pins s σ H x y v u Q I rx ry h;obtain ⟨i,j,rfl,rfl,q⟩:=h;obtain ⟨t,rfl⟩:=rx;obtain ⟨t',rfl⟩:=ry;exact rule i j t t' s _ _ ⟨.int (g i j),H,I.tok _,⟨_,rfl⟩,q⟩
theorem opB0 {f:Value→Value→Sem Value} {g:Int→Int→Bool}
    (rule:∀ (i j:Int) (t u:Tok) (s:Shared) (Q:Value→Shared→Prop) (E:Value→Shared→Prop),Q (.bool (g i j)) s→wpAny (model X.prog X.w) X.A (f (.int i t) (.int j u)) Q E s) :
    OpR X f (rI0 fun i j => .bl (g i j)):=by
  intro pins s σ H x y v u Q I rx ry h;obtain ⟨i,j,rfl,rfl,q⟩:=h;obtain ⟨t,rfl⟩:=rx;obtain ⟨t',rfl⟩:=ry;exact rule i j t t' s _ _ ⟨.bl (g i j),H,I,rfl,q⟩
noncomputable def CDiv (i j:Int):Prop:=0<j∧j<1073741824
noncomputable def CPow (i j:Int):Prop:=0≤j∧j≤1000000∧i.natAbs<2 ^ 64
noncomputable def CMul (i j:Int):Prop:=(-(2 ^ 64)<i∧i<2 ^ 64)∨(-(2 ^ 64)<j∧j<2 ^ 64)
theorem CMul.ok {i j:Int} (h:CMul i j):IntMulOk i j:=by
  rcases h with ⟨h1,h2⟩ | ⟨h1,h2⟩
  · exact .of_left (intBits_le_64 h1 h2)
  · exact .of_right (intBits_le_64 h1 h2)
theorem Z6:OpR X (binaryOp .Add) (rI0 fun i j => .int (i+j)):=opI0 fun _ _ _ _ _ _ _ q=>add_int q
theorem Zaz:OpR X (binaryOp .Sub) (rI0 fun i j => .int (i - j)):=opI0 fun _ _ _ _ _ _ _ q=>sub_int q
theorem Zbq:OpR X (binaryOp .Mult) (rI CMul fun i j => .int (i * j)):=opI fun _ _ _ _ _ _ _ hc q=>mul_int q hc.ok
theorem ZT:OpR X (binaryOp .FloorDiv) (rI CDiv fun i j => .int (i / j)):=opI fun i j _ _ _ _ _ hc q=>by
  have h1:(0:Int)<j:=hc.1;have h2:j<1073741824:=hc.2;exact floordiv_int (by omega) (by rw [Int.fdiv_eq_ediv_of_nonneg i (by omega)]; exact q) (.inl (PyProof.noPylong_small (by omega)))
theorem ZM:OpR X (binaryOp .Mod) (rI (fun _ j=>0<j) fun i j => .int (i % j)):=opI fun i j _ _ _ _ _ hc q=>by
  have h1:(0:Int)<j:=hc;exact mod_int' (by omega) (by rw [Int.fmod_eq_emod_of_nonneg i (by omega)]; exact q)
theorem op_pow:OpR X (binaryOp .Pow) (rI CPow fun i j => .int (i ^ j.toNat)):=opI fun _ _ _ _ _ _ _ hc q=>pow_int_small hc.1 hc.2.1 hc.2.2 q
theorem unI {f:Value→Sem Value} {g:Int→Int}
    (rule:∀ (i:Int) (t:Tok) (s:Shared) (Q:Value→Shared→Prop) (E:Value→Shared→Prop),Q (.int (g i) s.toks) { s with toks:=s.toks+1 }→wpAny (model X.prog X.w) X.A (f (.int i t)) Q E s) :
    UnR X f (rU fun i => .int (g i)):=by
  intro pins s σ H x v Q I rx h;obtain ⟨i,rfl,q⟩:=h;obtain ⟨t,rfl⟩:=rx;exact rule i t s _ _ ⟨.int (g i),H,I.tok _,⟨_,rfl⟩,q⟩
theorem un_neg:UnR X (unaryOp .USub) (rU fun i => .int (-i)):=unI fun _ _ _ _ _ q=>neg_int q
end
noncomputable def scal:V→V→Bool
  | .non, .non=>true | .non, .int _=>true | .int _, .non=>true | .non, .bl _=>true | .bl _, .non=>true | .non, .str _=>true | .str _, .non=>true
  | .int _, .int _=>true | .bl _, .bl _=>true | .str _, .str _=>true | .byt _, .byt _=>true
  | .int _, .str _=>true | .str _, .int _=>true | .bl _, .str _=>true | .str _, .bl _=>true
  | _,_=>false
noncomputable def rEq:R2:=fun x y H Q=>scal x y=true∧Q (.bl (decide (x=y))) H
noncomputable def rNe:R2:=fun x y H Q=>scal x y=true∧Q (.bl (!decide (x=y))) H
theorem ZhR {i j:Int}:decide (V.int i=V.int j)=(i == j):=by
  rw [Bool.eq_iff_iff];simp
theorem ZjP {i j:Bool}:decide (V.bl i=V.bl j)=(i == j):=by
  rw [Bool.eq_iff_iff];simp
theorem ZhQ {i j:Str}:decide (V.str i=V.str j)=(i == j):=by
  rw [Bool.eq_iff_iff];simp
theorem ZhS {i j:Array UInt8}:decide (V.byt i=V.byt j)=(i.toList == j.toList):=by
  rw [Bool.eq_iff_iff];cases i;cases j;simp
section
variable {X:Cx} {a b c:Expr} {ta tb tc:TE} {pos:Pos}
theorem ZN {pins:List (Addr×Obj)} {σ:St} {H:Hp} {s:Shared} {Q:VK} {k k':Bool} (I:Inv X pins σ H s) (q:Q (.bl k) H) (e:k=k'):EP X pins σ Q (.bool k') s:=by
  subst e;exact ⟨.bl k,H,I,rfl,q⟩
theorem Ya:OpR X (compareOp .Eq) rEq:=by
  intro pins s σ H x y v u Q I rx ry h;obtain ⟨hs,q⟩:=h;cases x with
  | non =>
    cases rx;cases y with
    | non=>cases ry; exact PySem.EqNone.eq_none_none (ZN I q (by simp))
    | bl j=>cases ry; exact PySem.EqNone.eq_none_bool (ZN I q (by simp))
    | int j=>obtain ⟨t',rfl⟩:=ry; exact PySem.EqNone.eq_none_int (ZN I q (by simp))
    | str j=>obtain ⟨t',rfl⟩:=ry; exact PySem.EqNone.eq_none_str (ZN I q (by simp))
    | _=>exact absurd (show false=true from hs) Bool.false_ne_true
  | bl i =>
    cases rx;cases y with
    | non=>cases ry; exact PySem.EqNone.eq_bool_none (ZN I q (by simp))
    | bl j=>cases ry; exact eq_bool (ZN I q ZjP)
    | str j=>obtain ⟨t',rfl⟩:=ry; exact PySem.EqMixed.eq_bool_str (ZN I q (by simp))
    | _=>exact absurd (show false=true from hs) Bool.false_ne_true
  | int i =>
    obtain ⟨t,rfl⟩:=rx;cases y with
    | non=>cases ry; exact PySem.EqNone.eq_int_none (ZN I q (by simp))
    | int j=>obtain ⟨t',rfl⟩:=ry; exact eq_int (ZN I q ZhR)
    | str j=>obtain ⟨t',rfl⟩:=ry; exact PySem.EqMixed.eq_int_str (ZN I q (by simp))
    | _=>exact absurd (show false=true from hs) Bool.false_ne_true
  | str i =>
    obtain ⟨t,rfl⟩:=rx;cases y with
    | non=>cases ry; exact PySem.EqNone.eq_str_none (ZN I q (by simp))
    | bl j=>cases ry; exact PySem.EqMixed.eq_str_bool (ZN I q (by simp))
    | int j=>obtain ⟨t',rfl⟩:=ry; exact PySem.EqMixed.eq_str_int (ZN I q (by simp))
    | str j=>obtain ⟨t',rfl⟩:=ry; exact eq_str (ZN I q ZhQ)
    | _=>exact absurd (show false=true from hs) Bool.false_ne_true
  | byt i =>
    obtain ⟨t,rfl⟩:=rx;cases y with
    | byt j=>obtain ⟨t',rfl⟩:=ry; exact PySem.W.eq_bytes (ZN I q ZhS)
    | _=>exact absurd (show false=true from hs) Bool.false_ne_true
  | _=>cases y <;> exact absurd (show false=true from hs) Bool.false_ne_true
theorem ZdT:OpR X (compareOp .NotEq) rNe:=by
  intro pins s σ H x y v u Q I rx ry h;obtain ⟨hs,q⟩:=h;cases x with
  | non =>
    cases rx;cases y with
    | non=>cases ry; exact PySem.EqNone.ne_none_none (ZN I q (by simp))
    | bl j=>cases ry; exact PySem.EqNone.ne_none_bool (ZN I q (by simp))
    | int j=>obtain ⟨t',rfl⟩:=ry; exact PySem.EqNone.ne_none_int (ZN I q (by simp))
    | str j=>obtain ⟨t',rfl⟩:=ry; exact PySem.EqNone.ne_none_str (ZN I q (by simp))
    | _=>exact absurd (show false=true from hs) Bool.false_ne_true
  | bl i =>
    cases rx;cases y with
    | non=>cases ry; exact PySem.EqNone.ne_bool_none (ZN I q (by simp))
    | bl j=>cases ry; exact ne_bool (ZN I q (congrArg not ZjP))
    | str j=>obtain ⟨t',rfl⟩:=ry; exact PySem.EqMixed.ne_bool_str (ZN I q (by simp))
    | _=>exact absurd (show false=true from hs) Bool.false_ne_true
  | int i =>
    obtain ⟨t,rfl⟩:=rx;cases y with
    | non=>cases ry; exact PySem.EqNone.ne_int_none (ZN I q (by simp))
    | int j=>obtain ⟨t',rfl⟩:=ry; exact ne_int (ZN I q (congrArg not ZhR))
    | str j=>obtain ⟨t',rfl⟩:=ry; exact PySem.EqMixed.ne_int_str (ZN I q (by simp))
    | _=>exact absurd (show false=true from hs) Bool.false_ne_true
  | str i =>
    obtain ⟨t,rfl⟩:=rx;cases y with
    | non=>cases ry; exact PySem.EqNone.ne_str_none (ZN I q (by simp))
    | bl j=>cases ry; exact PySem.EqMixed.ne_str_bool (ZN I q (by simp))
    | int j=>obtain ⟨t',rfl⟩:=ry; exact PySem.EqMixed.ne_str_int (ZN I q (by simp))
    | str j=>obtain ⟨t',rfl⟩:=ry; exact ne_str (ZN I q (congrArg not ZhQ))
    | _=>exact absurd (show false=true from hs) Bool.false_ne_true
  | byt i =>
    obtain ⟨t,rfl⟩:=rx;cases y with
    | byt j=>obtain ⟨t',rfl⟩:=ry; exact PySem.W.ne_bytes (ZN I q (congrArg not ZhS))
    | _=>exact absurd (show false=true from hs) Bool.false_ne_true
  | _=>cases y <;> exact absurd (show false=true from hs) Bool.false_ne_true
theorem Zbr:OpR X (compareOp .Lt) (rI0 fun i j => .bl (decide (i<j))):=opB0 fun _ _ _ _ _ _ _ q=>lt_int q
theorem ZhD:OpR X (compareOp .LtE) (rI0 fun i j => .bl (decide (i≤j))):=opB0 fun _ _ _ _ _ _ _ q=>le_int q
theorem ZbU:OpR X (compareOp .Gt) (rI0 fun i j => .bl (decide (j<i))):=opB0 fun _ _ _ _ _ _ _ q=>gt_int q
theorem Zgf:OpR X (compareOp .GtE) (rI0 fun i j => .bl (decide (j≤i))):=opB0 fun _ _ _ _ _ _ _ q=>ge_int q
theorem Zid:OpR X (compareOp .Lt) (fun x y H Q=>∃ i j,x = .str i∧y = .str j∧Q (.bl (decide (i.cps.toList<j.cps.toList))) H):=by
  intro pins s σ H x y v u Q I rx ry h;obtain ⟨i,j,rfl,rfl,q⟩:=h;obtain ⟨t,rfl⟩:=rx;obtain ⟨t',rfl⟩:=ry;exact lt_str (ZN I q rfl)
theorem Zie:OpR X (compareOp .In) (fun x y H Q=>∃ i j,x = .str i∧y = .str j∧Q (.bl (!(Builtin.Str.occurrences j i 0 j.length 1).isEmpty)) H):=by
  intro pins s σ H x y v u Q I rx ry h;obtain ⟨i,j,rfl,rfl,q⟩:=h;obtain ⟨t,rfl⟩:=rx;obtain ⟨t',rfl⟩:=ry;exact in_str (ZN I q rfl)
theorem op_isN:OpR X (compareOp .Is) (fun x y H Q=>y = .non∧Q (.bl (decide (x = .non))) H):=by
  intro pins s σ H x y v u Q I rx ry h;obtain ⟨rfl,q⟩:=h;cases ry;refine is_none_gen (ZN I q ?_);cases x <;> first
    | (cases rx; rfl)
    | (obtain ⟨t,rfl⟩:=rx; rfl)
theorem Zu (b:Expr) {op:CmpOp} (h:op ≠ .In:=by decide) (h2:op ≠ .NotIn:=by decide):behindInMarks op b=false:=by
  have e1:(op == CmpOp.In)=false:=by cases op <;> first | rfl | exact absurd rfl h
  have e2:(op == CmpOp.NotIn)=false:=by cases op <;> first | rfl | exact absurd rfl h2
  cases b <;> simp [behindInMarks,e1,e2]
theorem XW {op:CmpOp} {r:R2} (ho:OpR X (compareOp op) r) (ha:PE X a ta) (hb:PE X b tb) (hm:behindInMarks op b=false):PE X (.Compare a [op] [b] pos) (tOp r ta tb):=by
  intro pins s σ H Q I h;exact wpAny_Compare1 (binT ha hb I h fun v u s2 x y H2 I2 rx ry q=>ho pins s2 σ H2 x y v u Q I2 rx ry q) hm
noncomputable def tTest (t:TE):TT:=fun σ H Q=>t σ H fun x H'=>∃ k,x = .bl k∧Q k H'
theorem Zp {op:CmpOp} {r:R2} (ho:OpR X (compareOp op) r) (ha:PE X a ta) (hb:PE X b tb) (hm:behindInMarks op b=false):PT X (.Compare a [op] [b] pos) (tTest (tOp r ta tb)):=by
  intro pins s σ H Q I h;refine wpAny_isTrue_Compare1 (thn (ha pins s σ H _ I h) fun v s1 ⟨x,H1,I1,r1,q1⟩=>thn (hb pins s1 σ H1 _ I1 q1) fun u s2 ⟨y,H2,I2,r2,q2⟩ =>
    thn (ho pins s2 σ H2 x y v u _ I2 r1 r2 q2) fun c s3 ⟨z,H3,I3,r3,k,e,q3⟩=>?_) hm
  subst e;cases r3;exact wpAny_truthy_bool ⟨H3,I3,q3⟩
noncomputable def tChain (r r':R2) (ta tb tc:TE):TE:=fun σ H Q=>ta σ H fun x H1=>tb σ H1 fun y H2=>r x y H2 fun z H3=>∃ k,z = .bl k ∧
  (if k=true then tc σ H3 fun w' H4=>r' y w' H4 Q else Q (.bl false) H3)
theorem Zgc {op op':CmpOp} {r r':R2} (ho:OpR X (compareOp op) r) (ho':OpR X (compareOp op') r') (ha:PE X a ta) (hb:PE X b tb) (hc:PE X c tc)
    (hm:lastMarks [op,op'] [b,c]=false:=by with_unfolding_all rfl):PE X (.Compare a [op,op'] [b,c] pos) (tChain r r' ta tb tc):=by
  intro pins s σ H Q I h;refine Compare_chain (thn (ha pins s σ H _ I h) fun v s1 ⟨x,H1,I1,r1,q1⟩=>chain_link (thn (hb pins s1 σ H1 _ I1 q1) fun u s2 ⟨y,H2,I2,r2,q2⟩ =>
    thn (ho pins s2 σ H2 x y v u _ I2 r1 r2 q2) fun d s3 ⟨z,H3,I3,r3,k,e,q3⟩=>?_)) hm
  subst e;cases r3;refine wpAny_truthy_bool ?_;cases k with
  | false=>exact ite_ff ⟨.bl false,H3,I3,rfl,q3⟩
  | true=>exact ite_tt (chain_last (thn (hc pins s3 σ H3 _ I3 q3) fun w' s4 ⟨z',H4,I4,r4,q4⟩=>ho' pins s4 σ H4 y z' u w' Q I4 r2 r4 q4))
noncomputable def TruV (K:Frag) (x:V) (H:Hp) (k:Bool):Prop:=
  match x with
  | .non=>k=false
  | .bl b=>k=b
  | .int i=>k=(i != 0)
  | .str y=>y.length≤sizeLine∧k=((y.length:Int) != 0)
  | .byt y=>y.size≤sizeLine∧k=((y.size:Int) != 0)
  | .ref p=>(∃ xs,SqL K H p xs∧k = !xs.isEmpty)∨(∃ xs,SqT K H p xs∧k = !xs.isEmpty)∨∃ kvs,H p=some (.dK kvs)∧k = !kvs.isEmpty
  | _=>False
theorem Zhe {κ:Type} {kvs:List (κ×V)} {vs:List (κ×Value)} (r:KV kvs vs):(!vs.isEmpty) = !kvs.isEmpty:=by
  cases r <;> rfl
theorem Zej {xs:List V} {its:List Value} (r:ZF xs its):(!its.toArray.isEmpty) = !xs.isEmpty:=by
  cases r <;> simp
theorem ZcU:(sizeLine:Nat)<2 ^ 63:=by rw [sizeLine_eq]; decide
theorem tru_ok:TruR X (fun x H Q=>∃ k,TruV X.K x H k∧Q k H):=by
  intro pins s σ H x v Q I rx h;obtain ⟨k,e,q⟩:=h;have hl:=ZcU;have hs:sizeLine=16777216:=sizeLine_eq;cases x with
  | non =>
    cases rx;have e':k=false:=e;subst e';exact truthy_none ⟨H,I,q⟩
  | bl b =>
    cases rx;have e':k=b:=e;subst e';exact wpAny_truthy_bool ⟨H,I,q⟩
  | int i =>
    obtain ⟨t,rfl⟩:=rx;have e':k=(i != 0):=e;subst e';exact PySem.P.truthy_int ⟨H,I,q⟩
  | str y =>
    obtain ⟨t,rfl⟩:=rx;obtain ⟨hy,e'⟩:y.length≤sizeLine∧k=((y.length:Int) != 0):=e;subst e';exact PySem.P.truthy_str (by omega) ⟨H,I.tok _,q⟩
  | byt y =>
    obtain ⟨t,rfl⟩:=rx;obtain ⟨hy,e'⟩:y.size≤sizeLine∧k=((y.size:Int) != 0):=e;subst e';exact PySem.W.truthy_bytes (by omega) ⟨H,I.tok _,q⟩
  | ref p =>
    cases rx;have e':(∃ xs,SqL X.K H p xs∧k = !xs.isEmpty)∨(∃ xs,SqT X.K H p xs∧k = !xs.isEmpty)∨∃ kvs,H p=some (.dK kvs)∧k = !kvs.isEmpty:=e;rcases e' with ⟨xs,hx,e'⟩ | ⟨xs,hx,e'⟩ | ⟨kvs,hx,e'⟩
    · subst e';obtain ⟨its,r,pl,hz⟩:=I.list hx;have hlen:=r.length;exact wpAny_truthy_list pl.isList (by simp only [size_toArray]; omega) ⟨H,I.tok _,by rw [Zej r]; exact q⟩
    · subst e';obtain ⟨its,r,pl,hz⟩:=I.tuple hx;have hlen:=r.length;exact truthy_tuple pl (by simp only [size_toArray]; omega) ⟨H,I.tok _,by rw [Zej r]; exact q⟩
    · subst e';obtain ⟨hz,hS,vs,r,m⟩:kvs.length≤sizeLine∧(p == sysModules)=false∧∃ vs,KV kvs vs∧s.heap.DictOf (ZJ X.prog X.w) p vs:=I.hok p _ hx;have hlen:kvs.length=vs.length:=Paired.length r;exact wpAny_truthy_dict hS m (by omega) ⟨H,I.tok _,by rw [Zhe r]; exact q⟩
  | _=>exact (show False from e).elim
theorem ZdR (ha:PE X a ta) (he:∀ whole,isTrue a X.env whole=(do let v ← whole; standAt a.pos; holding [v] (truthy v))) :
    PT X a (fun σ H Q=>ta σ H fun x H'=>∃ k,TruV X.K x H' k∧Q k H'):=by
  intro pins s σ H Q I h;exact isTrue_plain (thn (ha pins s σ H _ I h) fun v s1 ⟨x,H1,I1,r1,q1⟩=>tru_ok pins s1 σ H1 x v Q I1 r1 q1) (he _)
theorem YK:OpR X (binaryOp .Add) (fun x y H Q=>∃ i j,x = .str i∧y = .str j∧i.length+j.length≤sizeLine∧Q (.str (i++j)) H):=by
  intro pins s σ H x y v u Q I rx ry h;obtain ⟨i,j,rfl,rfl,hz,q⟩:=h;obtain ⟨t,rfl⟩:=rx;obtain ⟨t',rfl⟩:=ry;exact add_str (fun t' tk=>⟨.str (i++j),H,I.tok _,⟨_,rfl⟩,q⟩) hz
theorem ZaC {x:V} {us:List Value} (r:ZF [x] us):∃ u,us=[u]∧ZG x u:=by
  cases r with
  | cons r1 r2=>cases r2; exact ⟨_,rfl,r1⟩
theorem vals2 {x y:V} {us:List Value} (r:ZF [x,y] us):∃ u w',us=[u,w']∧ZG x u∧ZG y w':=by
  cases r with
  | cons r1 r2 =>
    cases r2 with
    | cons r3 r4=>cases r4; exact ⟨_,_,rfl,r1,r3⟩
theorem ZbK (hc:X.calm=true):Jz X (.builtin "max") (fun xs H Q=>∃ i j,xs=[.int i, .int j]∧Q (.int (if j>i then j else i)) H):=by
  intro pins s σ H xs us Q I r h;obtain ⟨i,j,rfl,q⟩:=h;obtain ⟨u,w',rfl,⟨t,rfl⟩,⟨t',rfl⟩⟩:=vals2 r;refine max_two_ints (I.ok.hd hc) fun h' tk k=>⟨_,H,I.kept k,?_,q⟩
  by_cases hj:j>i
  · rw [if_pos hj,if_pos hj]; exact ⟨_,rfl⟩
  · rw [if_neg hj,if_neg hj]; exact ⟨_,rfl⟩
theorem ZeQ (hc:X.calm=true):Jz X (.builtin "min") (fun xs H Q=>∃ i j,xs=[.int i, .int j]∧Q (.int (if j<i then j else i)) H):=by
  intro pins s σ H xs us Q I r h;obtain ⟨i,j,rfl,q⟩:=h;obtain ⟨u,w',rfl,⟨t,rfl⟩,⟨t',rfl⟩⟩:=vals2 r;refine min_two_ints (I.ok.hd hc) fun h' tk k=>⟨_,H,I.kept k,?_,q⟩
  by_cases hj:j<i
  · rw [if_pos hj,if_pos hj]; exact ⟨_,rfl⟩
  · rw [if_neg hj,if_neg hj]; exact ⟨_,rfl⟩
theorem JS:Jz X (.type "str") (fun xs H Q=>∃ i,xs=[.int i]∧i.natAbs.log2<1920∧Q (.str (toString i)) H):=by
  intro pins s σ H xs us Q I r h;obtain ⟨i,rfl,hz,q⟩:=h;obtain ⟨u,rfl,t,rfl⟩:=ZaC r;exact PySem.P.str_of_int hz ⟨.str _,H,I.tok _,⟨_,rfl⟩,q⟩
noncomputable def LenV (K:Frag) (x:V) (H:Hp) (n:Nat):Prop:=
  match x with
  | .str y=>y.length≤sizeLine∧n=y.length
  | .byt y=>y.size≤sizeLine∧n=y.size
  | .ref p=>(∃ xs,SqL K H p xs∧n=xs.length)∨∃ xs,SqT K H p xs∧n=xs.length
  | _=>False
theorem ZQ:Jz X (.builtin "len") (fun xs H Q=>∃ x n,xs=[x]∧LenV X.K x H n∧Q (.int n) H):=by
  intro pins s σ H xs us Q I r h;obtain ⟨x,n,rfl,e,q⟩:=h;obtain ⟨u,rfl,rx⟩:=ZaC r;have hl:=ZcU;have hs:sizeLine=16777216:=sizeLine_eq;cases x with
  | str y =>
    obtain ⟨t,rfl⟩:=rx;obtain ⟨hy,e'⟩:y.length≤sizeLine∧n=y.length:=e;subst e';exact len_str (by omega) ⟨.int _,H,I.tok _,⟨_,rfl⟩,q⟩
  | byt y =>
    obtain ⟨t,rfl⟩:=rx;obtain ⟨hy,e'⟩:y.size≤sizeLine∧n=y.size:=e;subst e';exact PySem.W.len_bytes (by omega) ⟨.int _,H,I.tok _,⟨_,rfl⟩,q⟩
  | ref p =>
    cases rx;have e':(∃ xs,SqL X.K H p xs∧n=xs.length)∨∃ xs,SqT X.K H p xs∧n=xs.length:=e;rcases e' with ⟨xs,hx,e'⟩ | ⟨xs,hx,e'⟩
    · subst e';obtain ⟨its,r',pl,hz⟩:=I.list hx;have hlen:=r'.length;exact Calls.call_len_list pl.isList (by simp only [size_toArray]; omega) ⟨.int xs.length,H,I.tok _,⟨_,by simp only [size_toArray]; rw [hlen]⟩,q⟩
    · subst e';obtain ⟨its,r',pl,hz⟩:=I.tuple hx;have hlen:=r'.length;exact len_tuple pl (by simp only [size_toArray]; omega) ⟨.int xs.length,H,I.tok _,⟨_,by simp only [size_toArray]; rw [hlen]⟩,q⟩
  | _=>exact (show False from e).elim
end
open PySem PySem.Spec PyProof.Rows
structure ObjM (h:Heap) (x dx C:Addr) (mA:Str→Option Value):Prop where
  obj:h.get? x=some (instObj C dx)
  ns:h.Ns1 dx mA
  ne:dx≠x
theorem Zip {h:Heap} {dx:Addr} {mA:Str→Option Value} (n:h.Ns1 dx mA):∃ od,h.get? dx=some od∧∀ name,lookIn name od=some (mA name):=by
  obtain ⟨o,es,ep,ho,hd,hk,_,hm⟩:=n;refine ⟨o,ho,fun name=>?_⟩;have e:=hm name;unfold nsFind findBy at e;rw [← Array.find?_toList] at e;unfold lookIn;rw [hd];dsimp only;split
  · rename_i y q;rw [q] at e;exact congrArg some e
  · rename_i q;rw [q] at e;have a:es.toList.any (·.refKey)=false:=by
      rw [List.any_eq_false];intro y hy;obtain ⟨z,t,hkey⟩:=hk y (Array.mem_toList_iff.mp hy);simp [DictEntry.refKey,hkey]
    have a':¬ es.toList.any (·.refKey)=true:=by rw [a]; exact Bool.false_ne_true
    rw [if_neg a'];exact congrArg some e
theorem ObjM.look {h:Heap} {x dx C:Addr} {mA:Str→Option Value} (I:ObjM h x dx C mA):∃ od,PySem.W.InstAt h x (instObj C dx) C (some od)∧∀ name,lookIn name od=some (mA name):=
  let ⟨od,ho,hl⟩:=Zip I.ns
  ⟨od,⟨I.obj,rfl,rfl,ho⟩,hl⟩
section
variable {prog:Program} {w:World} {A:Around} {E:Value→Shared→Prop} {s:Shared} {K:Frag} {x dx C f:Addr} {mA:Str→Option Value} {name:Str} {v:Value}
theorem Zkt {expr:Bool} {Q:Value→Shared→Prop} (X:K.In s.heap) (I:ObjM s.heap x dx C mA) (hg:plainGet K C name=true) (hh:hasDictIn K C=true)
    (ha:findIn K (.ref C) name=some none) (hv:mA name=some v) (hv':PySem.W.handedIn v=true) (h:Q v { s with toks:=s.toks+1 }) :
    wpAny (model prog w) A (getAttr (.ref x) name expr) Q E s:=by
  obtain ⟨od,J,hl⟩:=I.look;exact PySem.W.get_value X J (PySem.W.plainGet_of hg).1 (PySem.W.findObj_own hh ha rfl (by rw [hl,hv])) hv' h
theorem ZjE {pl:Sem Bool} {Q:Value×List Value→Shared→Prop} (X:K.In s.heap) (I:ObjM s.heap x dx C mA) (hg:plainGet K C name=true)
    (hf:findIn K (.ref C) name=some (some (.ref f))) (ht:isFn K (.ref f)=true) (hv:mA name=none) (h:Q (.ref f,[.ref x]) s) :
    wpAny (model prog w) A (getMethod (.ref x) name pl) Q E s:=by
  obtain ⟨od,J,hl⟩:=I.look;exact PySem.W.method_fn X J (PySem.W.plainGet_of hg).1 (PySem.W.plainGet_of hg).2 hf (beq_iff_eq.mp ht) (by show (lookIn name od).map (·.isSome)=some false; rw [hl,hv]; rfl) h
theorem Zj8 {ns:List Str} {Q:Unit→Shared→Prop} (X:K.In s.heap) (I:ObjM s.heap x dx C mA)
    (hs:findIn K (.ref C) "__setattr__"=some (some (.builtin "object.__setattr__"))) (hp:plainOver K C=true) (ht:PySem.W.takerIn K C name=some none) (hh:hasDictIn K C=true)
    (hw:PySem.Within mA ns) (hsz:ns.length≤sizeLine)
    (h:∀ h',ObjM h' x dx C (fun y=>if y=name then some v else mA y)→Heap.SameBut dx s.heap h'→Q () { s with heap:=h',toks:=s.toks+2 }) :
    wpAny (model prog w) A (setAttr (.ref x) name v) Q E s:=by
  obtain ⟨od,J,hl⟩:=I.look;refine PySem.W.set_plain X J hs (PySem.W.osa_open (s:={ s with toks:=s.toks+1 }) (r:=none) X J hp ht fun b=>?_);obtain ⟨cd,hc,hd'⟩:=PySem.W.any_some hh;have hx:s.heap.get? x=some ⟨.ref C,some dx, .plain,#[]⟩:=I.obj;refine wpAny_bind (wpAny_pure (wpAny_bind (wpAny_bind (wpAny_loadPart hx (wpAny_bind (PySem.W.Looks.here (s:={ s with toks:=s.toks+1 }) (PySem.W.looks_clsIn X hc) ?_))))));rw [hd'];refine wpAny_pure (a:=some dx) (wpAny_bind (wpAny_pure (wpAny_bind ?_)));refine wpAny_nsSet1 (s:={ s with toks:=s.toks+1 }) I.ns fun h' hn2 hs2=>?_;obtain ⟨oD,esD,epD,hoD,hdD,hcD⟩:=hn2.count (PySem.Within.cons name v hw);refine wpAny_bind (wpAny_lookBehind hoD (by rw [hdD]; exact pastItsLine_dict (le_trans hcD (by rw [length_cons]; omega))) ?_);exact wpAny_pure (h _ ⟨(hs2.2 _ (Ne.symm I.ne)).trans I.obj,hn2,I.ne⟩ hs2)
theorem Zjn {R:Result→Shared→Prop} {vs:List Value} {kw:List (Str×Value)} (X:K.In s.heap) (hm:makesIn K C=true)
    (hi:findIn K (.ref C) "__init__"=some (some (.ref f))) (hf:PySem.W.typeIn K (.ref f)=some (.type "function"))
    (h:codeAny (model prog w) (A.under (.builtin "type.__call__" ⟨.ref C::vs,kw⟩)) (.call (.ref f) ⟨.ref (s.heap.objs.size+1)::vs,kw⟩) (PySem.W.InitBack (s.heap.objs.size+1) R)
      { s with heap:=(s.heap.push emptyDict).push (instObj C s.heap.objs.size) }) :
    codeAny (model prog w) A (.call (.ref C) ⟨vs,kw⟩) R s:=by
  obtain ⟨hh,g,d,t,os⟩:=s;exact PySem.W.make_core (PySem.W.makes_of X hm) (PySem.W.looks_findIn X hi) (fun self=>PySem.W.bind_fn X self hf) (.inl rfl) h
end
noncomputable def Zbn (f:Str) (v:V):List (Str×V)→List (Str×V)
  | []=>[(f,v)]
  | (g,x)::r=>if g=f then (g,v)::r else (g,x)::Zbn f v r
theorem Zc2 (f g:Str) (v:V):∀ fs:List (Str×V),(Zbn f v fs).lookup g=if g=f then some v else fs.lookup g
  | []=>by
    show List.lookup g [(f,v)]=_
    by_cases h:g=f
    · have hb:(g == f)=true:=beq_iff_eq.mpr h;simp only [List.lookup,hb,if_pos h]
    · have hb:(g == f)=false:=beq_eq_false_iff_ne.mpr h;simp only [List.lookup,hb,if_neg h]
  | (k,x)::r=>by
    have ih:=Zc2 f g v r;rw [show Zbn f v ((k,x)::r)=(if k=f then (k,v)::r else (k,x)::Zbn f v r) from rfl]
    by_cases hk:k=f
    · rw [if_pos hk]
      by_cases h:g=k
      · have hb:(g == k)=true:=beq_iff_eq.mpr h;simp only [List.lookup,hb,if_pos (h.trans hk)]
      · have hb:(g == k)=false:=beq_eq_false_iff_ne.mpr h;simp only [List.lookup,hb,if_neg (fun e:g=f=>h (e.trans hk.symm))]
    · rw [if_neg hk]
      by_cases h:g=k
      · have hb:(g == k)=true:=beq_iff_eq.mpr h;simp only [List.lookup,hb,if_neg (fun e:g=f=>hk (h.symm.trans e))]
      · have hb:(g == k)=false:=beq_eq_false_iff_ne.mpr h;simp only [List.lookup,hb];exact ih
theorem ZcV (f:Str) (v:V):∀ fs:List (Str×V),f∈(Zbn f v fs).map (·.1)∧∀ g,g∈fs.map (·.1)→g∈(Zbn f v fs).map (·.1)
  | []=>⟨by simp [Zbn],fun g h=>by simp at h⟩
  | (k,x)::r=>by
    obtain ⟨i1,i2⟩:=ZcV f v r;rw [show Zbn f v ((k,x)::r)=(if k=f then (k,v)::r else (k,x)::Zbn f v r) from rfl]
    by_cases hk:k=f
    · rw [if_pos hk];subst hk;exact ⟨by simp,fun g h=>by simpa using h⟩
    · rw [if_neg hk];refine ⟨?_,fun g h=>?_⟩
      · rw [map_cons];exact mem_cons_of_mem _ i1
      · rw [map_cons] at h ⊢;rcases List.mem_cons.mp h with e | e
        · exact List.mem_cons.mpr (.inl e)
        · exact mem_cons_of_mem _ (i2 g e)
theorem Zc4 (f:Str) (v:V):∀ fs:List (Str×V),(Zbn f v fs).length≤fs.length+1
  | []=>by simp [Zbn]
  | (k,x)::r=>by
    have ih:=Zc4 f v r;rw [show Zbn f v ((k,x)::r)=(if k=f then (k,v)::r else (k,x)::Zbn f v r) from rfl]
    by_cases hk:k=f
    · rw [if_pos hk,length_cons,length_cons]; omega
    · rw [if_neg hk,length_cons,length_cons]; omega
theorem Za8.some_of {v:V} {o:Option Value} (r:Za8 (some v) o):∃ u,o=some u∧ZG v u:=by
  cases o with
  | none=>exact (show False from r).elim
  | some u=>exact ⟨u,rfl,r⟩
theorem Za8.none_of {o:Option Value} (r:Za8 none o):o=none:=by
  cases o with
  | none=>rfl
  | some u=>exact (show False from r).elim
theorem Ziw {v:V} {u:Value} (r:ZG v u):PySem.W.handedIn u=true:=by
  cases v with
  | non=>cases (show u=Value.none from r); rfl
  | bl b=>cases (show u=Value.bool b from r); rfl
  | int i=>obtain ⟨t,e⟩:=(show ∃ t,u=Value.int i t from r); cases e; rfl
  | str x=>obtain ⟨t,e⟩:=(show ∃ t,u=Value.str x t from r); cases e; rfl
  | byt b=>obtain ⟨t,e⟩:=(show ∃ t,u=Value.bytes b t from r); cases e; rfl
  | flt b=>obtain ⟨t,e⟩:=(show ∃ t,u=Value.float b t from r); cases e; rfl
  | ref a=>cases (show u=Value.ref a from r); rfl
  | ty n=>cases (show u=Value.type n from r); rfl
section
variable {P:Program} {w:World} {H H':Hp} {h h':Heap} {a C dx:Addr} {fs fs':List (Str×V)}
theorem ZfB (hok:HOk P w H h) (e:H a=some (.ins C dx fs)):∃ mA,ObjM h a dx C mA∧(∀ f,Za8 (fs.lookup f) (mA f))∧PySem.Within mA (fs.map (·.1))∧fs.length≤1000∧H dx=some (.own a):=by
  obtain ⟨d,z,ne,ob,mA,n,r,q⟩:=(show YJ P w H h a (.ins C dx fs) from hok a _ e);exact ⟨mA,⟨ob,n,ne⟩,r,q,z,d⟩
end
structure Cls (K:Frag) (C:Addr):Prop where
  pg:plainGet K C Str.empty=true
  hd:hasDictIn K C=true
  po:plainOver K C=true
  sa:findIn K (.ref C) "__setattr__"=some (some (.builtin "object.__setattr__"))
theorem Cls.get {K:Frag} {C:Addr} (c:Cls K C) (f:Str):plainGet K C f=true:=c.pg
noncomputable def Jq (K:Frag) (C:Addr) (f:Str):Prop:=findIn K (.ref C) f=some none
theorem Jq.taker {K:Frag} {C:Addr} {f:Str} (n:Jq K C f):PySem.W.takerIn K C f=some none:=by
  unfold PySem.W.takerIn;rw [show findIn K (.ref C) f=some none from n];rfl
structure Meth (K:Frag) (C:Addr) (m:Str) (f:Addr):Prop where
  at_:findIn K (.ref C) m=some (some (.ref f))
  fn:isFn K (.ref f)=true
  kp:keepIn K (.ref f)=true
section
variable {X:Cx} {pins:List (Addr×Obj)} {σ:St} {H:Hp} {s:Shared} {a C dx:Addr} {fs:List (Str×V)} {f:Str} {v:V} {A:Around} {E:Value→Shared→Prop}
theorem Zem {b:Bool} {Q:Value→Shared→Prop} (I:Inv X pins σ H s) (e:H a=some (.ins C dx fs)) (c:Cls X.K C) (n:Jq X.K C f) (l:fs.lookup f=some v)
    (h:∀ u s',Inv X pins σ H s'→ZG v u→Q u s'):wpAny (model X.prog X.w) A (getAttr (.ref a) f b) Q E s:=by
  obtain ⟨mA,O,r,_,_,_⟩:=ZfB I.hok e;obtain ⟨u,hu,ru⟩:=Za8.some_of (v:=v) (o:=mA f) (by rw [← l]; exact r f);exact Zkt I.kIn O (c.get f) c.hd n hu (Ziw ru) (h u _ (I.tok _) ru)
theorem Zel {m:Str} {g:Addr} {pl:Sem Bool} {Q:Value×List Value→Shared→Prop} (I:Inv X pins σ H s) (e:H a=some (.ins C dx fs)) (c:Cls X.K C) (k:Meth X.K C m g) (l:fs.lookup m=none)
    (h:Q (.ref g,[.ref a]) s):wpAny (model X.prog X.w) A (getMethod (.ref a) m pl) Q E s:=by
  obtain ⟨mA,O,r,_,_,_⟩:=ZfB I.hok e;have hn:mA m=none:=Za8.none_of (by rw [← l]; exact r m);exact ZjE I.kIn O (c.get m) k.at_ k.fn hn h
theorem ZdC {y:V} {u:Value} {Q:Unit→Shared→Prop} (I:Inv X pins σ H s) (e:H a=some (.ins C dx fs)) (c:Cls X.K C) (n:Jq X.K C f) (hl:fs.length<1000) (ry:ZG y u)
    (h:∀ s',Inv X pins σ (upd H a (.ins C dx (Zbn f y fs))) s'→Q () s'):wpAny (model X.prog X.w) A (setAttr (.ref a) f u) Q E s:=by
  obtain ⟨mA,O,r,wi,_,ho⟩:=ZfB I.hok e;have hz:(fs.map (·.1)).length≤sizeLine:=by rw [length_map,sizeLine_eq]; omega
  refine Zj8 I.kIn O c.sa c.po n.taker c.hd wi hz fun h' O' sb=>h _ ?_;have hd:∃ o,h'.get? dx=some o:=let ⟨o,_,_,e',_⟩:=O'.ns; ⟨o,e'⟩;refine I.write (x:=a) (e:=dx) (by rw [e]; exact True.intro) (.inr ho) (fun b q hb z=>(sb.2 b hb).trans z) hd ?_;refine ⟨by rw [Zh O.ne]; exact ho,?_,O.ne,O'.obj,_,O'.ns,fun g=>?_,fun g hg=>?_⟩
  · have:=Zc4 f y fs; omega
  · show Za8 ((Zbn f y fs).lookup g) (if g=f then some u else mA g);rw [Zc2]
    by_cases q:g=f
    · rw [if_pos q,if_pos q]; exact ry
    · rw [if_neg q,if_neg q]; exact r g
  · by_cases q:g=f
    · rw [q]; exact (ZcV f y fs).1
    · refine (ZcV f y fs).2 g (wi g fun z=>hg ?_);show (if g=f then some u else mA g)=none;rw [if_neg q]; exact z
theorem Inv.made (I:Inv X pins σ H s):Inv X pins σ (upd (upd H s.heap.objs.size (.own (s.heap.objs.size+1))) (s.heap.objs.size+1) (.ins C s.heap.objs.size []))
    { s with heap:=(s.heap.push emptyDict).push (instObj C s.heap.objs.size) }:=by
  have e1:(s.heap.push emptyDict).get? s.heap.objs.size=some emptyDict:=Heap.get?_push_size s.heap rfl;have e2:((s.heap.push emptyDict).push (instObj C s.heap.objs.size)).get? (s.heap.objs.size+1)=some (instObj C s.heap.objs.size):=by
    have:=Heap.get?_push_size (s.heap.push emptyDict) (o:=instObj C s.heap.objs.size) rfl
    rwa [Heap.size_push] at this
  have e3:(s.heap.push emptyDict).Ns s.heap.objs.size (fun _=>none):=⟨emptyDict,#[],_,e1,rfl,(fun e he=>absurd he (by simp)),fun _=>rfl⟩;have I1:=I.laid (a:=s.heap.objs.size) (o := .own (s.heap.objs.size+1)) (h':=s.heap.push emptyDict) (t':=s.toks) (fun b u q=>Heap.get?_push_of_some _ q) (le_refl _) ⟨_,e1⟩;refine I1.laid (a:=s.heap.objs.size+1) (o := .ins C s.heap.objs.size []) (t':=s.toks) (fun b u q=>Heap.get?_push_of_some _ q) (Nat.le_of_eq (Heap.size_push _ _)) ?_;have ne:s.heap.objs.size≠s.heap.objs.size+1:=ne_of_lt (lt_succ_self _);refine ⟨by rw [Zh ne,Zd],zero_le _,ne,e2,fun _=>none,(Heap.Ns1.of_empty e3).at fun o q=>Heap.get?_push_of_some _ q,fun _=>True.intro,fun y hy=>absurd rfl hy⟩
theorem Zky {prog:Program} {w:World} {env:Env} {e:Expr} {f:Str} {pos:Pos} {s:Shared} {Q:Value→Shared→Prop} (hb:attributeBase e f env (eval e env)=eval e env)
    (h:wpAny (model prog w) A (eval e env) (fun o s₁=>wpAny (model prog w) A (getAttr o f true) Q E s₁) E s):wpAny (model prog w) A (eval (.Attribute e f pos) env) Q E s:=
  Attribute_any_ h (by rw [arm_eval_Attribute,hb])
end
noncomputable def tFld (K:Frag) (ta:TE) (f:Str):TE:=fun σ H Q=>ta σ H fun x H1=>∃ a C dx fs v,x = .ref a∧H1 a=some (.ins C dx fs)∧Cls K C∧Jq K C f∧fs.lookup f=some v∧Q v H1
noncomputable def sFld (K:Frag) (ta tv:TE) (f:Str):TS:=fun D σ H=>tv σ H fun y H1=>ta σ H1 fun x H2=>∃ a C dx fs,x = .ref a∧H2 a=some (.ins C dx fs)∧Cls K C∧Jq K C f∧fs.length<1000 ∧
  D.nx σ (upd H2 a (.ins C dx (Zbn f y fs)))
noncomputable def InOp (X:Cx) (op:Operator) (rd:V→V→Hp→VK→Prop):Prop:=
  ∀ (pins:List (Addr×Obj)) (s:Shared) (σ:St) (H:Hp) (x y:V) (u v:Value) (Q:VK),Inv X pins σ H s→ZG x u→ZG y v→rd x y H Q→wpAny (model X.prog X.w) X.A (inplaceOp op u v) (EP X pins σ Q) X.xe s
noncomputable def Zj9 (K:Frag) (ta tv:TE) (rd:V→V→Hp→VK→Prop) (f:Str):TS:=fun D σ H=>ta σ H fun x H1=>∃ a C dx fs v,x = .ref a∧H1 a=some (.ins C dx fs)∧Cls K C∧Jq K C f∧fs.lookup f=some v ∧
  tv σ H1 fun y H2=>rd v y H2 fun z H3=>∃ dx' fs',H3 a=some (.ins C dx' fs')∧fs'.length<1000∧D.nx σ (upd H3 a (.ins C dx' (Zbn f z fs')))
section
variable {X:Cx} {o e value:Expr} {f:Str} {pos pos' tpos:Pos} {ta tv:TE}
theorem Zx (he:PE X e ta) (hb:attributeBase e f X.env (eval e X.env)=eval e X.env):PE X (.Attribute e f pos) (tFld X.K ta f):=by
  intro pins s σ H Q I h;refine Zky hb (thn (he pins s σ H _ I h) fun u s1 zz9=>?_);obtain ⟨x,H1,I1,rx,a,C,dx,fs,v,ex,ea,c,n,l,q⟩:=zz9;subst ex;obtain rfl:u=Value.ref a:=rx;exact Zem I1 ea c n l fun u' s2 I2 ru=>⟨v,H1,I2,ru,q⟩
theorem ZcK (ha:PE X o ta) (hv:PE X value tv) (hs:swapsWith value (some (.Attribute o f pos')) pos.line X.env=pure false):PS X (.Assign [.Attribute o f pos'] value pos) (sFld X.K ta tv f):=by
  intro pins s σ H D I h;refine plainObj_wpAny_Assign_Attribute (thn (hv pins s σ H _ I h) fun u s1 ⟨y,H1,I1,ry,q⟩=>thn (ha pins s1 σ H1 _ I1 q) fun ov s2 zz9=>?_) hs;obtain ⟨x,H2,I2,rx,a,C,dx,fs,ex,ea,c,n,l,q2⟩:=zz9;subst ex;obtain rfl:ov=Value.ref a:=rx;exact ZdC I2 ea c n l ry fun s3 I3=>⟨σ,_,I3,q2⟩
theorem Zia {op:Operator} {rd:V→V→Hp→VK→Prop} (ha:PE X o ta) (hv:PE X value tv) (hop:InOp X op rd):PS X (.AugAssign (.Attribute o f tpos) op value pos) (Zj9 X.K ta tv rd f):=by
  intro pins s σ H D I h;refine wpAny_AugAssign_AttributeAny (thn (ha pins s σ H _ I h) fun ov s1 zz9=>?_);obtain ⟨x,H1,I1,rx,a,C,dx,fs,v,ex,ea,c,n,l,q⟩:=zz9;subst ex;obtain rfl:ov=Value.ref a:=rx;refine Zem I1 ea c n l fun u s2 I2 ru=>thn (hv pins s2 σ H1 _ I2 q) fun w3 s3 ⟨y,H2,I3,ry,q3⟩=>thn (hop pins s3 σ H2 v y u w3 _ I3 ru ry q3) fun w4 s4 zz9=>?_;obtain ⟨z,H3,I4,rz,dx',fs',ea',l',q4⟩:=zz9;exact ZdC I4 ea' c n l' rz fun s5 I5=>⟨σ,_,I5,q4⟩
noncomputable def rAdd:V→V→Hp→VK→Prop:=fun x y H Q=>∃ i j,x = .int i∧y = .int j∧Q (.int (i+j)) H
theorem in_add:InOp X .Add rAdd:=by
  rintro pins s σ H x y u v Q I rx ry ⟨i,j,rfl,rfl,q⟩;obtain ⟨t,rfl⟩:=(show ∃ t,u=Value.int i t from rx);obtain ⟨t',rfl⟩:=(show ∃ t',v=Value.int j t' from ry);exact PyProof.Rows.iadd_int ⟨.int (i+j),H,I.tok _,⟨_,rfl⟩,q⟩
end
section
variable {X:Cx} {pins:List (Addr×Obj)} {σ:St} {H:Hp} {s:Shared} {A:Around} {E:Value→Shared→Prop} {Q:Value→Shared→Prop} {c:Value} {b:Bool}
end
open PySem PySem.Spec PyProof.Rows
structure Room (k:Nat) (A:Around):Prop where
  hd:A.handled=none
  dp:A.depth+3 * k+5<recursionLimit
  un:A.units+16 * k+200<cLine
theorem Room.mono {j k:Nat} {A:Around} (r:Room k A) (h:j≤k):Room j A:=⟨r.hd,by have:=r.dp; omega,by have:=r.un; omega⟩
theorem Room.deeper {k:Nat} {A:Around} (r:Room (k+1) A) (env:Env):Room k (A.deeper env):=
  ⟨r.hd,by have:=r.dp; show A.depth+1+3 * k+5<_; omega,by have:=r.un; show A.units+3+16 * k+200<_; omega⟩
theorem Zha {A:Around} {C:Addr} {us:List Value} {kw:List (Str×Value)}:(A.under (.builtin "type.__call__" ⟨.ref C::us,kw⟩)).depth=A.depth+1:=by
  first | rfl | simp [Around.under,Code.weight,Code.isCreation,Code.isGuard,Code.isCaller,Code.frames,Code.isFrame,guardIds]
theorem Zg9 {A:Around} {C:Addr} {us:List Value} {kw:List (Str×Value)}:(A.under (.builtin "type.__call__" ⟨.ref C::us,kw⟩)).units=A.units+1:=by
  first | rfl | simp [Around.under,Code.cUnits,Code.frames,Code.isFrame]
theorem Room.make {k:Nat} {A:Around} (r:Room (k+1) A) (C:Addr) (us:List Value) (kw:List (Str×Value)):Room k (A.under (.builtin "type.__call__" ⟨.ref C::us,kw⟩)):=
  ⟨r.hd,by have:=r.dp; rw [Zha]; omega,by have:=r.un; rw [Zg9]; omega⟩
theorem Room.depth {k:Nat} {A:Around} (r:Room k A):A.depth<recursionLimit:=by have:=r.dp; omega
theorem Room.units {k:Nat} {A:Around} (r:Room k A):A.units+64<cLine:=by have:=r.un; omega
noncomputable def tNil:TA:=fun _ H Q=>Q [] H
noncomputable def Zhv (ta:TE) (tr:TA):TA:=fun σ H Q=>ta σ H fun x H1=>tr σ H1 fun xs H2=>Q (x::xs) H2
section
variable {X:Cx} {e:Expr} {es:List Expr} {te:TE} {t:TA} {pos:Pos}
theorem Zc:PA X [] tNil:=fun _ _ _ _ H Q I h=>Calls.spliced_nil ⟨[],H,I, .nil,h⟩
theorem Za (ha:PE X e te) (hr:PA X es t) (hs:starEach (e::es) X.env=(false,eval e X.env)::starEach es X.env:=by rfl):PA X (e::es) (Zhv te t):=by
  intro pos pins s σ H Q I h;rw [hs];show wpAny _ _ (spliced ((false,eval e X.env)::backTo pos (starEach es X.env))) _ _ s;refine Calls.spliced_cons (thn (ha pins s σ H _ I h) fun u s1 zz9=>?_);obtain ⟨x,H1,I1,r1,q1⟩:=zz9;exact thn (hr pos pins s1 σ H1 _ I1 q1) fun us s2 ⟨xs,H2,I2,r2,q2⟩=>⟨x::xs,H2,I2, .cons r1 r2,q2⟩
noncomputable def tTup (t:TA):TE:=fun σ H Q=>t σ H fun xs H1=>xs.length≤sizeLine∧∀ p,H1 p=none→Q (.ref p) (upd H1 p (.tup xs))
noncomputable def tLst (t:TA):TE:=fun σ H Q=>t σ H fun xs H1=>xs.length≤sizeLine∧∀ p,H1 p=none→Q (.ref p) (upd H1 p (.lst xs))
theorem Yd {x1} (h:PA X es t):PE X (.Tuple es x1 pos) (tTup t):=by
  intro pins s σ H Q I hq;refine wpAny_Tuple_spliced (thn (h pos pins s σ H _ I hq) fun us s1 ⟨xs,H1,I1,r,z,q⟩=>⟨by rw [← r.length]; exact z,?_⟩);have hf:H1 s1.heap.objs.size=none:=I1.hok.fresh (le_refl _);refine ⟨.ref s1.heap.objs.size,upd H1 s1.heap.objs.size (.tup xs),I1.laid (t':=s1.toks) (fun b u e=>Heap.get?_push_of_some _ e) (le_refl _) ?_,rfl,q _ hf⟩;exact ⟨z,us,r,⟨_,Heap.get?_push_size _ rfl,rfl,_,rfl⟩⟩
theorem Ym (h:PA X es t):PE X (.List es pos) (tLst t):=by
  intro pins s σ H Q I hq;refine wpAny_List_spliced (thn (h pos pins s σ H _ I hq) fun us s1 ⟨xs,H1,I1,r,z,q⟩=>⟨by rw [← r.length]; exact z,?_⟩);have hf:H1 s1.heap.objs.size=none:=I1.hok.fresh (le_refl _);refine ⟨.ref s1.heap.objs.size,upd H1 s1.heap.objs.size (.lst xs),I1.laid (t':=s1.toks) (fun b u e=>Heap.get?_push_of_some _ e) (le_refl _) ?_,rfl,q _ hf⟩;exact ⟨z,us,0,r,Heap.get?_push_size _ rfl⟩
end
noncomputable abbrev Sp:=List V→Hp→VK→XK→Prop
noncomputable abbrev CXT:=List Env→Hp→Shared→XK→Value→Shared→Prop
structure Env0 (P:Program) (w:World) (K:Frag) (mg:Str→Option Value) (base:Heap) (A:Around) (outer:List Env) (s:Shared) (H:Hp):Prop where
  frames:A.frames=some outer
  mod:Mod K mg base
  bs:∀ b o,base.get? b=some o→s.heap.get? b=some o∧H b=none
  bsz:base.objs.size≤s.heap.objs.size
  funs:s.heap.FunFrames base outer
  frf:∀ b∈frs outer,H b=none
  hok:HOk P w H s.heap
  bare:AllBare s.gens
noncomputable def CE (outer:List Env) (P:Program) (w:World) (H:Hp) (s:Shared) (Q:VK) (u:Value) (s':Shared):Prop:=
  ∃ v H',s'.os=s.os∧AllBare s'.gens∧Un (frs outer) [] H H' s.heap s'.heap∧HOk P w H' s'.heap∧ZG v u∧Q v H'
noncomputable def CR (CX:CXT) (outer:List Env) (P:Program) (w:World) (H:Hp) (s:Shared) (Q:VK) (E:XK) (r:Result) (s':Shared):Prop:=
  match r with
  | .ok (.ret u)=>CE outer P w H s Q u s'
  | .ok _=>False
  | .error e=>CX outer H s E e s'
structure FnOk (P:Program) (w:World) (K:Frag) (mg:Str→Option Value) (base:Heap) (CX:CXT) (k:Nat) (f:Addr) (fd:FuncData) (ps:List Str) (sp:Sp):Prop where
  len:∀ vs H Q E,sp vs H Q E→vs.length=ps.length
  run:∀ (A:Around) (outer:List Env) (s:Shared) (H:Hp) (args:Args) (us:List Value) (vs:List V) (Q:VK) (E:XK),Room k A→Env0 P w K mg base A outer s H→BindsTo s fd args (ps.zip us)→ZF vs us→sp vs H Q E →
    codeAny (model P w) A (.call (.ref f) args) (CR CX outer P w H s Q E) s
theorem Env0.make {P:Program} {w:World} {K:Frag} {mg:Str→Option Value} {base:Heap} {A:Around} {outer:List Env} {s:Shared} {H:Hp} (e:Env0 P w K mg base A outer s H) (C:Addr) (us:List Value) (kw:List (Str×Value)) :
    Env0 P w K mg base (A.under (.builtin "type.__call__" ⟨.ref C::us,kw⟩)) outer s H:=⟨by first | exact e.frames | (simpa [Around.under,Code.envs,Code.isFrame,pushEnvs] using e.frames),e.mod,e.bs,e.bsz,e.funs,e.frf,e.hok,e.bare⟩
section
variable {X:Cx} {pins:List (Addr×Obj)} {σ:St} {H:Hp} {s s':Shared}
theorem Inv.env0 (I:Inv X pins σ H s):Env0 X.prog X.w X.K X.mg X.base X.A X.stack s H:=
  ⟨I.ok.frames,I.ok.mod,I.bs,le_trans I.ok.bsz I.sz,I.stack,I.stkFree,I.hok,I.bare⟩
theorem Inv.after {Q:VK} {u:Value} (I:Inv X pins σ H s) (h:CE X.stack X.prog X.w H s Q u s'):EP X pins σ Q u s':=by
  obtain ⟨v,H',os,bare,un,hok,r,q⟩:=h;obtain ⟨hh,g,d,t,os'⟩:=s';obtain rfl:os'=s.os:=os;exact ⟨v,H',I.call (h':=hh) (g':=g) (d':=d) (t':=t) (ch:=[]) un hok bare (fun b z=>absurd z (by simp)),r,q⟩
end
noncomputable def ZiV (sp:Sp) (dvs:List V) (E:XK) (t:TA):TE:=fun σ H Q=>t σ H fun vs H1=>sp (vs++dvs) H1 Q E
noncomputable def Zht (C:Addr) (m:Str) (sp:Sp) (dvs:List V) (E:XK) (ta:TE) (t:TA):TE:=fun σ H Q=>ta σ H fun x H1=>∃ a dx fs,x = .ref a∧H1 a=some (.ins C dx fs)∧fs.lookup m=none ∧
  t σ H1 fun vs H2=>sp (x::(vs++dvs)) H2 Q E
noncomputable def Zhu (C:Addr) (sp:Sp) (dvs:List V) (E:XK) (t:TA):TE:=fun σ H Q=>t σ H fun vs H1=>∀ x dx,H1 x=none→H1 dx=none→dx≠x →
  sp (.ref x::(vs++dvs)) (upd (upd H1 dx (.own x)) x (.ins C dx [])) (fun v H2=>v = .non∧Q (.ref x) H2) E
noncomputable def Zav (K:Frag) (fd:FuncData) (ps:List Str) (ds:List Value):Prop:=
  ∀ (s:Shared) (us:List Value),K.In s.heap→(us++ds).length=ps.length→BindsTo s fd ⟨us,[]⟩ (ps.zip (us++ds))
theorem Zav.all {K:Frag} {fd:FuncData} {ps:List Str} (h:∀ us:List Value,us.length=ps.length→bindArgs fd ⟨us,[]⟩=pure (ps.zip us)):Zav K fd ps []:=fun s us _ hl=>by
  rw [append_nil] at hl ⊢;exact .of_eq (h us hl)
noncomputable def Xw (CX:CXT) (X:Cx) (E:XK):Prop:=∀ (pins:List (Addr×Obj)) (σ:St) (H:Hp) (s:Shared) (e:Value) (s':Shared),Inv X pins σ H s→CX X.stack H s E e s'→X.xe e s'
section
variable {X:Cx} {CX:CXT} {k:Nat} {f C:Addr} {fd:FuncData} {ps:List Str} {sp:Sp} {dvs:List V} {ds:List Value} {E:XK} {x m:Str} {p pos apos:Pos} {e o:Expr} {es:List Expr} {ta:TE} {t:TA}
theorem ZgY {pins:List (Addr×Obj)} {σ:St} {H:Hp} {s:Shared} {Q:VK} {us:List Value} {vs:List V} (F:FnOk X.prog X.w X.K X.mg X.base CX k f fd ps sp) (hr:Room k X.A) (hb:Zav X.K fd ps ds) (hd:ZF dvs ds) (hx:Xw CX X E)
    (I:Inv X pins σ H s) (r:ZF vs us) (h:sp (vs++dvs) H Q E):wpAny (model X.prog X.w) X.A (call (.ref f) us) (EP X pins σ Q) X.xe s:=by
  have r2:ZF (vs++dvs) (us++ds):=r.append hd;have hl:(us++ds).length=ps.length:=by rw [← r2.length]; exact F.len _ _ _ _ h
  refine wpAny_call (codeAny_mono (F.run X.A X.stack s H ⟨us,[]⟩ (us++ds) (vs++dvs) Q E hr I.env0 (hb s us I.kIn hl) r2 h) fun r s' hq=>?_);cases r with
  | error e=>exact hx pins σ H s e s' I hq
  | ok fl =>
    cases fl with
    | ret u=>exact I.after hq
    | next=>exact False.elim hq
    | brk=>exact False.elim hq
    | cont=>exact False.elim hq
theorem ZhB (F:FnOk X.prog X.w X.K X.mg X.base CX k f fd ps sp) (hr:Room k X.A) (hg:Gl X x) (hm:X.mg x=some (.ref f)) (hk:keepIn X.K (.ref f)=true) (hb:Zav X.K fd ps ds) (hd:ZF dvs ds) (hx:Xw CX X E)
    (ha:PA X (e::es) t) (hdb:(x == ("__debug__":Str))=false:=by decide) (he:starEach (e::es) X.env=(false,eval e X.env)::starEach es X.env:=by rfl) (hpl:(backTo pos (starEach es X.env)).any (·.1)=false:=by rfl) :
    PE X (.Call (.Name x p) (e::es) [] pos) (ZiV sp dvs E t):=by
  intro pins s σ H Q I h;refine wpAny_Call_Name_kw (Zco I hg hm ?_ hdb);refine PySem.W.callWith_K (h₀:=X.base) I.ok.mod.kin hk (thn (ha pos pins s σ H _ I h) fun us s1 ⟨vs,H1,I1,r,q⟩=>⟨I1.kIn,?_⟩) he hpl;exact ZgY F hr hb hd hx I1 r q
theorem Zkd {pl:Sem Bool} (he:PE X o ta) (c:Cls X.K C) (hm:Meth X.K C m f) (F:FnOk X.prog X.w X.K X.mg X.base CX k f fd ps sp) (hr:Room k X.A) (hb:Zav X.K fd ps ds) (hd:ZF dvs ds) (hx:Xw CX X E) (ha:PA X (e::es) t)
    (hst:starEach (e::es) X.env=(false,eval e X.env)::starEach es X.env:=by rfl) (hpl:(backTo pos (starEach es X.env)).any (·.1)=false:=by rfl)
    (ht:eval (.Call (.Attribute o m apos) (e::es) [] pos) X.env=(do
      let ov ← eval o X.env
      standAt apos.atName
      let (f,first) ← holding [ov] (getMethod ov m pl)
      callWith pos f first (backTo pos (starEach (e::es) X.env)) (backToKw pos (keywordEach [] X.env))):=by rfl) :
    PE X (.Call (.Attribute o m apos) (e::es) [] pos) (Zht C m sp dvs E ta t):=by
  intro pins s σ H Q I h;refine PySem.W.methodCall_KW (pl:=pl) (thn (he pins s σ H _ I h) fun u s1 zz9=>?_) ht;obtain ⟨x,H1,I1,rx,a,dx,fs,ex,ea,l,q⟩:=zz9;subst ex;obtain rfl:u=Value.ref a:=rx;refine Zel I1 ea c hm l ?_;refine PySem.W.callWith_K (first:=[.ref a]) (h₀:=X.base) I.ok.mod.kin hm.kp (thn (ha pos pins s1 σ H1 _ I1 q) fun us s2 ⟨vs,H2,I2,r,q2⟩=>⟨I2.kIn,?_⟩) hst hpl;exact ZgY (us := .ref a::us) (vs := .ref a::vs) F hr hb hd hx I2 (.cons rfl r) q2
theorem Zi7 {pl:Sem Bool} (he:PE X o ta) (c:Cls X.K C) (hm:Meth X.K C m f) (F:FnOk X.prog X.w X.K X.mg X.base CX k f fd ps sp) (hr:Room k X.A) (hb:Zav X.K fd ps ds) (hd:ZF dvs ds) (hx:Xw CX X E)
    (ht:eval (.Call (.Attribute o m apos) [] [] pos) X.env=(do
      let ov ← eval o X.env
      standAt apos.atName
      let (f,first) ← holding [ov] (getMethod ov m pl)
      callWith pos f first (backTo pos (starEach [] X.env)) (backToKw pos (keywordEach [] X.env))):=by rfl) :
    PE X (.Call (.Attribute o m apos) [] [] pos) (Zht C m sp dvs E ta tNil):=by
  intro pins s σ H Q I h;refine PySem.W.methodCall_KW (pl:=pl) (thn (he pins s σ H _ I h) fun u s1 zz9=>?_) ht;obtain ⟨x,H1,I1,rx,a,dx,fs,ex,ea,l,q⟩:=zz9;subst ex;obtain rfl:u=Value.ref a:=rx;refine Zel I1 ea c hm l ?_;exact PySem.W.callWith_K0 (first:=[.ref a]) I1.kIn hm.kp (ZgY (us:=[.ref a]) (vs:=[.ref a]) F hr hb hd hx I1 (.cons rfl .nil) q)
structure Mk (K:Frag) (C f:Addr):Prop where
  makes:makesIn K C=true
  init:findIn K (.ref C) "__init__"=some (some (.ref f))
  fn:isFn K (.ref f)=true
  kp:keepIn K (.ref C)=true
theorem Zf7 {pins:List (Addr×Obj)} {σ:St} {H:Hp} {s:Shared} {Q:VK} {us:List Value} {vs:List V} (M:Mk X.K C f) (F:FnOk X.prog X.w X.K X.mg X.base CX k f fd ps sp) (hr:Room (k+1) X.A) (hb:Zav X.K fd ps ds) (hd:ZF dvs ds)
    (hx:Xw CX X E) (I:Inv X pins σ H s) (r:ZF vs us)
    (h:∀ x dx,H x=none→H dx=none→dx≠x→sp (.ref x::(vs++dvs)) (upd (upd H dx (.own x)) x (.ins C dx [])) (fun v H2=>v = .non∧Q (.ref x) H2) E) :
    wpAny (model X.prog X.w) X.A (call (.ref C) us) (EP X pins σ Q) X.xe s:=by
  have hq:=h (s.heap.objs.size+1) s.heap.objs.size (I.hok.fresh (le_succ _)) (I.hok.fresh (le_refl _)) (ne_of_lt (lt_succ_self _));have I2:=Inv.made (C:=C) I;have r2:ZF (V.ref (s.heap.objs.size+1)::(vs++dvs)) (Value.ref (s.heap.objs.size+1)::(us++ds)) := .cons rfl (r.append hd);have hl:(Value.ref (s.heap.objs.size+1)::us++ds).length=ps.length:=by
    have e:=r2.length;rw [F.len _ _ _ _ hq] at e;exact e.symm
  refine wpAny_call (Zjn (f:=f) I.kIn M.makes M.init (beq_iff_eq.mp M.fn) (codeAny_mono (F.run _ X.stack _ _ ⟨Value.ref (s.heap.objs.size+1)::us,[]⟩ (Value.ref (s.heap.objs.size+1)::(us++ds)) _ _ E (hr.make C us [])
    (I2.env0.make C us []) (hb _ (Value.ref (s.heap.objs.size+1)::us) I2.kIn hl) r2 hq) fun r s' hq'=>?_))
  cases r with
  | error e=>exact hx pins σ _ _ e s' I2 hq'
  | ok fl =>
    cases fl with
    | ret u =>
      obtain ⟨v,H',I3,rv,ev,q3⟩:=I2.after hq';subst ev;exact ⟨rv,⟨V.ref (s.heap.objs.size+1),H',I3,rfl,q3⟩⟩
    | next=>exact False.elim hq'
    | brk=>exact False.elim hq'
    | cont=>exact False.elim hq'
theorem Zke (M:Mk X.K C f) (F:FnOk X.prog X.w X.K X.mg X.base CX k f fd ps sp) (hr:Room (k+1) X.A) (hg:Gl X x) (hm:X.mg x=some (.ref C)) (hb:Zav X.K fd ps ds) (hd:ZF dvs ds) (hx:Xw CX X E)
    (ha:PA X (e::es) t) (hdb:(x == ("__debug__":Str))=false:=by decide) (he:starEach (e::es) X.env=(false,eval e X.env)::starEach es X.env:=by rfl) (hpl:(backTo pos (starEach es X.env)).any (·.1)=false:=by rfl) :
    PE X (.Call (.Name x p) (e::es) [] pos) (Zhu C sp dvs E t):=by
  intro pins s σ H Q I h;refine wpAny_Call_Name_kw (Zco I hg hm ?_ hdb);refine PySem.W.callWith_K (h₀:=X.base) I.ok.mod.kin M.kp (thn (ha pos pins s σ H _ I h) fun us s1 ⟨vs,H1,I1,r,q⟩=>⟨I1.kIn,?_⟩) he hpl;exact Zf7 M F hr hb hd hx I1 r q
theorem Zi8 (M:Mk X.K C f) (F:FnOk X.prog X.w X.K X.mg X.base CX k f fd ps sp) (hr:Room (k+1) X.A) (hg:Gl X x) (hm:X.mg x=some (.ref C)) (hb:Zav X.K fd ps ds) (hd:ZF dvs ds) (hx:Xw CX X E)
    (hdb:(x == ("__debug__":Str))=false:=by decide):PE X (.Call (.Name x p) [] [] pos) (Zhu C sp dvs E tNil):=by
  intro pins s σ H Q I h;refine wpAny_Call_Name_kw (Zco I hg hm ?_ hdb);exact PySem.W.callWith_K0 I.kIn M.kp (Zf7 (us:=[]) M F hr hb hd hx I .nil h)
end
section
variable {X:Cx} {CX:CXT} {k:Nat} {f C:Addr} {fd:FuncData} {ps ks:List Str} {sp:Sp} {E:XK} {x m:Str} {p pos apos kpos:Pos} {e o:Expr} {es:List Expr} {kws:List Keyword} {te ta:TE} {t tk:TA} {nm:Option Str}
variable {g:List Value→List Value→List Value} {gV:List V→List V→List V}
end
structure FnScope (N P:List Str) (sc:Scope):Prop where
  kind:sc.kind = .function
  co:sc.isCoroutine=false
  gen:sc.isGenerator=false
  nd:N.Nodup
  pre:N.take P.length=P
  par:∀ x∈P,sc.names.lookup x=some .local∨sc.names.lookup x=some .cell
  nofree:∀ y∈sc.names,y.2 ≠ .free
theorem ZeR {kindOf:Str→Option NameKind} {x:Str}:∀ {binds:List (Str×Value)} {m:Str→Option Value},(∀ v,(x,v)∉binds)→bindL kindOf binds m x=m x
  | [],_,_=>rfl
  | (n,v)::r,m,h=>by
    unfold bindL;rw [ZeR fun w hw=>h w (mem_cons_of_mem _ hw)];split
    · have:x≠n:=by rintro rfl; exact h v mem_cons_self
      simp [this]
    · rfl
theorem ZeT {kindOf:Str→Option NameKind} {x:Str}:∀ {binds:List (Str×Value)} {m:Str→Option Value},(∀ v,(x,v)∉binds)→bindC kindOf binds m x=m x
  | [],_,_=>rfl
  | (n,v)::r,m,h=>by
    unfold bindC;rw [ZeT fun w hw=>h w (mem_cons_of_mem _ hw)];split
    · rfl
    · have:x≠n:=by rintro rfl; exact h v mem_cons_self
      simp [this]
theorem ZeS {kindOf:Str→Option NameKind} {x:Str} {v:Value}:∀ {P:List Str} {vs:List Value} {i:Nat} {m:Str→Option Value},P.Nodup→P[i]? = some x→vs[i]? = some v→kindOf x=some .local →
    bindL kindOf (P.zip vs) m x=some v
  | [],_,_,_,_,h,_,_=>by simp at h
  | _::_,[],_,_,_,_,h,_=>by simp at h
  | p::P,w::vs,0,m,nd,h1,h2,hk=>by
    simp at h1 h2; subst h1; subst h2;show bindL kindOf ((p,w)::P.zip vs) m p=_;unfold bindL;rw [ZeR fun v hv=>(List.nodup_cons.mp nd).1 (List.of_mem_zip hv).1,if_pos hk];simp
  | p::P,w::vs,i+1,m,nd,h1,h2,hk=>by
    show bindL kindOf ((p,w)::P.zip vs) m x=_;unfold bindL;exact ZeS (i:=i) (List.nodup_cons.mp nd).2 (by simpa using h1) (by simpa using h2) hk
theorem ZeU {kindOf:Str→Option NameKind} {x:Str} {v:Value}:∀ {P:List Str} {vs:List Value} {i:Nat} {m:Str→Option Value},P.Nodup→P[i]? = some x→vs[i]? = some v→kindOf x≠some .local →
    bindC kindOf (P.zip vs) m x=some v
  | [],_,_,_,_,h,_,_=>by simp at h
  | _::_,[],_,_,_,_,h,_=>by simp at h
  | p::P,w::vs,0,m,nd,h1,h2,hk=>by
    simp at h1 h2; subst h1; subst h2;show bindC kindOf ((p,w)::P.zip vs) m p=_;unfold bindC;rw [ZeT fun v hv=>(List.nodup_cons.mp nd).1 (List.of_mem_zip hv).1,if_neg hk];simp
  | p::P,w::vs,i+1,m,nd,h1,h2,hk=>by
    show bindC kindOf ((p,w)::P.zip vs) m x=_;unfold bindC;exact ZeU (i:=i) (List.nodup_cons.mp nd).2 (by simpa using h1) (by simpa using h2) hk
noncomputable def Zca (N:List Str) (vs:List V):St:=vs.map some++List.replicate (N.length - vs.length) none
noncomputable def X1 (CX:CXT) (P:Program) (w:World) (K:Frag) (mg:Str→Option Value) (base:Heap) (N:List Str) (qual:Str) (scope:Scope) (f:Addr) (cd:Value) (A:Around) (outer:List Env) (s:Shared) (H:Hp) (E:XK):Cx where
  prog:=P
  w:=w
  K:=K
  mg:=mg
  base:=base
  A:=A.deeper (envOfC qual scope s.heap.objs.size f cd)
  N:=N
  s₀:=s
  H₀:=H
  env:=envOfC qual scope s.heap.objs.size f cd
  outer:=outer
  stack:=envOfC qual scope s.heap.objs.size f cd::outer
  ex:=[]
  calm:=true
  fn:=fun _=>true
  pn:=[]
  xe:=fun e s'=>wpAny (model P w) (A.deeper (envOfC qual scope s.heap.objs.size f cd)) (leaving (envOfC qual scope s.heap.objs.size f cd) e) (fun _ s''=>CX outer H s E e s'') (fun e' s''=>CX outer H s E e' s'') s'
theorem ZgK {sc:Scope} {n:Nat} {x:Str} (h:sc.names.lookup x=some .cell):∃ c,(cellsFrom n sc.names []).lookup x=some c:=by
  have q:=PySem.W.cellsFrom_some sc.names n [] (.inl h);exact Option.isSome_iff_exists.mp q
theorem Ziu {CX:CXT} {P:Program} {w:World} {K:Frag} {mg:Str→Option Value} {base:Heap} {N ps:List Str} {qual:Str} {scope:Scope} {f:Addr} {cd:Value} {A:Around} {outer:List Env} {s s1:Shared} {H:Hp} {E:XK} {us:List Value} {vs:List V}
    (S:FnScope N ps scope) (hd:A.handled=none) (e0:Env0 P w K mg base A outer s H) (hl:vs.length=ps.length) (r:ZF vs us)
    (x:InCallC s s.heap.objs.size (bindL (envOfC qual scope s.heap.objs.size f cd).kindOf (ps.zip us) fun _=>none) (cellsFrom (s.heap.objs.size+1) scope.names []) (bindC (envOfC qual scope s.heap.objs.size f cd).kindOf (ps.zip us) fun _=>none) s1) :
    Inv (X1 CX P w K mg base N qual scope f cd A outer s H E) [] (Zca N vs) H s1:=by
  have hpl:ps.length≤N.length:=by have:=congrArg List.length S.pre; rw [length_take] at this; omega
  obtain ⟨h1,tk,rfl,hk⟩:=x.done;have noA:∀ b:Addr,b∉(X1 CX P w K mg base N qual scope f cd A outer s H E).ex:=fun b z=>absurd (show b∈([]:List Addr) from z) (by simp);refine ⟨⟨e0.mod,S.kind,rfl,rfl,le_refl _,fun y z c h1 h2=>?_,fun y hy=>?_,fun y c _ h=>?_,fun _=>hd,Around.frames_deeper e0.frames, .inr ⟨rfl,rfl⟩,fun b z=>absurd z (noA b),e0.bs,e0.bsz,fun b _ _=>noA b,fun b z=>absurd z (noA b),e0.funs,e0.frf⟩,
    rfl,e0.bare,Un.kept hk,⟨_,x.toInCall.ns,fun i y v h1 h2 h3=>?_⟩,fun y c h=>⟨_,x.cell y c h⟩,e0.hok.fresh (le_refl _),fun y c h=>?_,fun p hp=>absurd (show p∈([]:List (Addr×Obj)) from hp) (by simp),e0.hok.kept hk,?_⟩
  · exact name_of_addr x.apart (PySem.mem_of_lookup h1) (PySem.mem_of_lookup h2)
  · have hy:scope.names.lookup y=some .cell∨scope.names.lookup y=some .free:=hy;rcases hy with hy | hy
    · exact ZgK hy
    · exact absurd rfl (S.nofree _ (PySem.mem_of_lookup hy))
  · exact le_of_lt (x.above y c (PySem.mem_of_lookup h))
  · have hi:i<vs.length:=by
      unfold Zca at h2
      by_cases hi:i<vs.length
      · exact hi
      · rw [getElem?_append_right (by simpa using hi)] at h2;rw [List.getElem?_replicate] at h2;split at h2 <;> cases h2
    have ha:vs[i]? = some v:=by
      unfold Zca at h2;rw [getElem?_append_left (by simpa using hi),getElem?_map] at h2;cases e:vs[i]? with
      | none=>rw [e] at h2; cases h2
      | some a=>rw [e] at h2; cases h2; rfl
    obtain ⟨u,hu,rv⟩:=r.get ha;have hp:ps[i]? = some y:=by
      rw [← S.pre,List.getElem?_take_of_lt (by omega)]; exact h1
    have ndP:ps.Nodup:=by rw [← S.pre]; exact S.nd.sublist (List.take_sublist _ _)
    refine ⟨u,rv,?_⟩;rcases S.par y (mem_of_getElem? hp) with k | k
    · exact .inl ⟨k,ZeS ndP hp hu k⟩
    · obtain ⟨c,e⟩:=ZgK (n:=s.heap.objs.size+1) k;refine .inr ⟨.inl k,c,e,?_⟩;have q:=x.cell y c e;rw [ZeU ndP hp hu (by show scope.names.lookup y≠_; rw [k]; decide)] at q;exact q
  · exact e0.hok.fresh (le_of_lt (x.above y c (PySem.mem_of_lookup h)))
  · unfold Zca;show _=N.length;rw [length_append,length_map,length_replicate];omega
theorem fn_of {CX:CXT} {P:Program} {w:World} {K:Frag} {mg:Str→Option Value} {base:Heap} {k:Nat} {f:Addr} {name qual:Str} {params:Arguments} {body:List Stmt} {scope:Scope} {dV kV doc pm cdv ct oc:Value} {an od:Option Addr}
    {osl:Array (Option Value)} {N ps:List Str} {sp:Sp} (lk:K.lookup f=some ⟨oc,od, .func (fnOf name qual params body scope dV kV doc pm an cdv ct),osl⟩) (hcd:codeIn K cdv qual=true) (S:FnScope N ps scope)
    (len:∀ vs H Q E,sp vs H Q E→vs.length=ps.length)
    (hbody:∀ (A:Around) (outer:List Env) (s:Shared) (H:Hp) (vs:List V) (Q:VK) (E:XK),Room k (A.deeper (envOfC qual scope s.heap.objs.size f cdv))→sp vs H Q E →
      ∃ t,PSs (X1 CX P w K mg base N qual scope f cdv A outer s H E) body t∧t { nx:=fun _ H'=>Q .non H',rt:=Q } (Zca N vs) H) :
    FnOk P w K mg base CX (k+1) f (fnOf name qual params body scope dV kV doc pm an cdv ct) ps sp:=by
  refine ⟨len,fun A outer s H args us vs Q E hr e0 hb r hsp=>?_⟩;have hl:=len _ _ _ _ hsp;have KX:K.In s.heap:=e0.mod.kin.keeps fun b o e=>(e0.bs b o e).1;have lim:s.heap.NoLimit:=e0.mod.nolimit.keeps fun b o e=>(e0.bs b o e).1;have hkind:∀ y∈ps.zip us,scope.names.lookup y.1=some .local∨(scope.names.lookup y.1=some .cell∧((cellsFrom (s.heap.objs.size+1) scope.names []).lookup y.1).isSome=true):=fun ⟨n,v⟩ hy=>by
    rcases S.par n (List.of_mem_zip hy).1 with q | q
    · exact .inl q
    · exact .inr ⟨q,PySem.W.cellsFrom_some _ _ _ (.inl q)⟩
  refine codeAny_call_function hr.depth (KX _ _ lk) rfl S.co S.gen rfl (PySem.W.codeRec_of KX hcd) (hb _ _ _ _ ?_);refine wpAny_newFunctionEnv_cells S.kind hkind fun env he s1 x=>?_;subst he;refine ⟨lim.keeps x.toInCall.keep,codeAny_func ?_⟩;obtain ⟨t,ht,hq⟩:=hbody A outer s H vs Q E (hr.deeper _) hsp;have I:Inv (X1 CX P w K mg base N qual scope f cdv A outer s H E) [] (Zca N vs) H s1:=Ziu S hr.hd e0 hl r x;refine wpAny_mono (ht [] s1 (Zca N vs) H _ I hq) (fun fl s' hs=>?_) fun e s' hs=>hs;have fin:∀ {σ':St} {H':Hp} {v:V} {u:Value},Inv (X1 CX P w K mg base N qual scope f cdv A outer s H E) [] σ' H' s'→ZG v u→Q v H'→CE outer P w H s Q u s':=
    fun {σ' H' v u} J rv q=>⟨v,H',J.os,J.bare,J.base,J.hok,rv,q⟩
  cases fl with
  | ret u =>
    obtain ⟨v,σ',H',J,rv,q⟩:=hs;exact fin J rv q
  | next =>
    obtain ⟨σ',H',J,q⟩:=hs;exact fin (v:=V.non) (u:=Value.none) J rfl q
  | brk =>
    obtain ⟨_,_,_,q⟩:=hs;exact False.elim q
  | cont =>
    obtain ⟨_,_,_,q⟩:=hs;exact False.elim q
open PySem PySem.Spec PyProof.Rows
section
variable {X:Cx} {x:Str} {p pos:Pos} {e:Expr} {es:List Expr} {t:TA} {id T:String} {r:List V→Hp→VK→Prop}
noncomputable def tCB (r:List V→Hp→VK→Prop) (t:TA):TE:=fun σ H Q=>t σ H fun vs H1=>r vs H1 Q
theorem ZD (hc:Jz X (.builtin id) r) (hg:Gl X x) (hm:X.mg x=none) (hv:bootBuiltins x=some (.builtin id)) (ha:PA X (e::es) t) (hn:x≠"__name__":=by decide) (hdb:(x == ("__debug__":Str))=false:=by decide)
    (he:starEach (e::es) X.env=(false,eval e X.env)::starEach es X.env:=by rfl) (hpl:(backTo pos (starEach es X.env)).any (·.1)=false:=by rfl):PE X (.Call (.Name x p) (e::es) [] pos) (tCB r t):=by
  intro pins s σ H Q I h;refine wpAny_Call_Name_kw (Zhc I hg hm hv ?_ hn hdb);exact PyProof.Rows.callWith_builtin1 (thn (ha pos pins s σ H _ I h) fun us s1 ⟨vs,H1,I1,r1,q1⟩=>hc pins s1 σ H1 vs us Q I1 r1 q1) he hpl
theorem YG (hc:Jz X (.type T) r) (hg:Gl X x) (hm:X.mg x=none) (hv:bootBuiltins x=some (.type T)) (ha:PA X (e::es) t) (hn:x≠"__name__":=by decide) (hdb:(x == ("__debug__":Str))=false:=by decide)
    (he:starEach (e::es) X.env=(false,eval e X.env)::starEach es X.env:=by rfl) (hpl:(backTo pos (starEach es X.env)).any (·.1)=false:=by rfl):PE X (.Call (.Name x p) (e::es) [] pos) (tCB r t):=by
  intro pins s σ H Q I h;refine wpAny_Call_Name_kw (Zhc I hg hm hv ?_ hn hdb);exact PyProof.Rows.callWith_type1 (thn (ha pos pins s σ H _ I h) fun us s1 ⟨vs,H1,I1,r1,q1⟩=>hc pins s1 σ H1 vs us Q I1 r1 q1) he hpl
end
open PySem PySem.Spec PyProof.Rows
section
variable {κ:Type} [DecidableEq κ]
noncomputable def Xc (kvs:List (κ×V)) (k:κ):Option V:=(kvs.find? fun kv=>decide (kv.1=k)).map (·.2)
noncomputable def ZbZ (kvs:List (κ×V)) (k:κ) (v:V):List (κ×V):=
  if (kvs.any fun kv=>decide (kv.1=k))=true then kvs.map (fun kv=>if kv.1=k then (kv.1,v) else kv) else kvs++[(k,v)]
noncomputable def dropK (kvs:List (κ×V)) (k:κ):List (κ×V):=kvs.filter fun kv=>decide (kv.1≠k)
theorem Zba {p:κ×V} {r:List (κ×V)} {k:κ} (e:p.1=k):Xc (p::r) k=some p.2:=by simp [Xc,find?_cons,e]
theorem Zbb {p:κ×V} {r:List (κ×V)} {k:κ} (e:¬ p.1=k):Xc (p::r) k=Xc r k:=by simp [Xc,find?_cons,e]
theorem Zb9 (k:κ):∀ kvs:List (κ×V),(kvs.any fun kv=>decide (kv.1=k))=(Xc kvs k).isSome
  | []=>rfl
  | p::r=>by
    rw [any_cons]
    by_cases e:p.1=k
    · simp only [Zba e,decide_eq_true e,Bool.true_or,Option.isSome_some]
    · rw [Zbb e,decide_eq_false e,Bool.false_or]; exact Zb9 k r
theorem Zc3 (kvs:List (κ×V)) (k:κ) (v:V):(ZbZ kvs k v).length≤kvs.length+1:=by
  unfold ZbZ;split
  · rw [length_map]; omega
  · rw [length_append,length_cons,List.length_nil]; omega
theorem XT {kvs:List (κ×V)} {k:κ} (v:V) (h:Xc kvs k=none):ZbZ kvs k v=kvs++[(k,v)]:=by
  unfold ZbZ;rw [Zb9,h];exact if_neg (by decide)
theorem Za8.isSome_eq {o:Option V} {u:Option Value} (r:Za8 o u):o.isSome=u.isSome:=by
  cases o with
  | none=>cases u with
    | none=>rfl
    | some _=>exact (show False from r).elim
  | some _=>cases u with
    | none=>exact (show False from r).elim
    | some _=>rfl
theorem Za8.getD {o:Option V} {u:Option Value} {d:V} {d':Value} (r:Za8 o u) (rd:ZG d d'):ZG (o.getD d) (u.getD d'):=by
  cases o with
  | none=>cases u with
    | none=>exact rd
    | some _=>exact (show False from r).elim
  | some _=>cases u with
    | none=>exact (show False from r).elim
    | some _=>exact r
theorem KV.val {kvs:List (κ×V)} {vs:List (κ×Value)} (r:KV kvs vs) (k:κ):Za8 (Xc kvs k) (valueAt vs k):=by
  unfold KV at r
  induction r with
  | nil=>exact True.intro
  | @cons p q ps qs h t ih =>
    obtain ⟨h1,h2⟩:=h
    by_cases e:p.1=k
    · have e':q.1=k:=h1.symm.trans e;have b:valueAt (q::qs) k=some q.2:=by simp [valueAt,find?_cons,e']
      rw [Zba e,b]; exact h2
    · have e':¬ q.1=k:=fun z=>e (h1.trans z);have b:valueAt (q::qs) k=valueAt qs k:=by simp [valueAt,find?_cons,e']
      rw [Zbb e,b]; exact ih
theorem KV.any {kvs:List (κ×V)} {vs:List (κ×Value)} (r:KV kvs vs) (k:κ):(kvs.any fun kv=>decide (kv.1=k))=vs.any fun kv=>decide (kv.1=k):=by
  unfold KV at r
  induction r with
  | nil=>rfl
  | cons h t ih=>rw [any_cons,any_cons,ih,h.1]
theorem KV.repl {kvs:List (κ×V)} {vs:List (κ×Value)} (r:KV kvs vs) (k:κ) {y:V} {u:Value} (ry:ZG y u) :
    KV (kvs.map fun kv=>if kv.1=k then (kv.1,y) else kv) (vs.map fun kv=>if kv.1=k then (kv.1,u) else kv):=by
  unfold KV at r ⊢
  induction r with
  | nil=>exact .nil
  | @cons p q ps qs h t ih =>
    rw [map_cons,map_cons];refine .cons ?_ ih;obtain ⟨h1,h2⟩:=h
    by_cases e:p.1=k
    · rw [if_pos e,if_pos (h1.symm.trans e)]; exact ⟨h1,ry⟩
    · rw [if_neg e,if_neg (fun z=>e (h1.trans z))]; exact ⟨h1,h2⟩
theorem KV.put {kvs:List (κ×V)} {vs:List (κ×Value)} (r:KV kvs vs) (k:κ) {y:V} {u:Value} (ry:ZG y u):KV (ZbZ kvs k y) (stored vs k u):=by
  unfold ZbZ stored;rw [r.any k]
  by_cases e:(vs.any fun kv=>decide (kv.1=k))=true
  · rw [if_pos e,if_pos e]; exact r.repl k ry
  · rw [if_neg e,if_neg e]; exact Paired.snoc r ⟨rfl,ry⟩
theorem KV.length {kvs:List (κ×V)} {vs:List (κ×Value)} (r:KV kvs vs):kvs.length=vs.length:=Paired.length r
end
theorem Zeh {P:Program} {w:World} {k:Key} {u:Value} (r:ZG (kV k) u):(ZJ P w).is k u=true:=by
  cases k with
  | inl i=>obtain ⟨t,e⟩:=(show ∃ t,u=Value.int i t from r); subst e; exact ZgA P w i t
  | inr x=>obtain ⟨t,e⟩:=(show ∃ t,u=Value.str x t from r); subst e; exact Zgz P w x t
theorem ZeK {P:Program} {w:World}:∀ {ks:List Key} {us:List Value},ZF (ks.map kV) us→ItemsAre (ZJ P w) ks us
  | [],_,r=>by rw [map_nil] at r; cases r; exact .nil
  | k::ks,_,r=>by
    rw [map_cons] at r;cases r with
    | cons h t=>exact .cons (Zeh h) (ZeK t)
noncomputable abbrev KT (H:Hp):List (List Key×V)→List (List Key×Addr×Value)→Prop:=Paired fun p q=>p.1=q.1∧H q.2.1=some (.tup (p.1.map kV))∧ZG p.2 q.2.2
theorem KT.val {H:Hp} {kvs:List (List Key×V)} {xs:List (List Key×Addr×Value)} (r:KT H kvs xs) (k:List Key):Za8 (Xc kvs k) ((atKey xs k).map (·.2)):=by
  induction r with
  | nil=>exact True.intro
  | @cons p q ps qs h t ih =>
    obtain ⟨h1,_,h2⟩:=h
    by_cases e:p.1=k
    · have e':q.1=k:=h1.symm.trans e;have b:atKey (q::qs) k=some q.2:=by simp [atKey,find?_cons,e']
      rw [Zba e,b]; exact h2
    · have e':¬ q.1=k:=fun z=>e (h1.trans z);have b:atKey (q::qs) k=atKey qs k:=by simp [atKey,find?_cons,e']
      rw [Zbb e,b]; exact ih
theorem KT.repl {H:Hp} {kvs:List (List Key×V)} {xs:List (List Key×Addr×Value)} (r:KT H kvs xs) (k:List Key) {y:V} {u:Value} (ry:ZG y u) :
    KT H (kvs.map fun kv=>if kv.1=k then (kv.1,y) else kv) (xs.map (putAt k u)):=by
  induction r with
  | nil=>exact .nil
  | @cons p q ps qs h t ih =>
    rw [map_cons,map_cons];refine .cons ?_ ih;obtain ⟨h1,h2,h3⟩:=h;unfold putAt
    by_cases e:p.1=k
    · rw [if_pos e,if_pos (h1.symm.trans e)]; exact ⟨h1,h2,ry⟩
    · rw [if_neg e,if_neg (fun z=>e (h1.trans z))]; exact ⟨h1,h2,h3⟩
theorem KT.put {H:Hp} {kvs:List (List Key×V)} {xs:List (List Key×Addr×Value)} (r:KT H kvs xs) (k:List Key) {b:Addr} {y:V} {u:Value} (hb:H b=some (.tup (k.map kV))) (ry:ZG y u) :
    KT H (ZbZ kvs k y) (storedH xs k b u):=by
  have e:(kvs.any fun kv=>decide (kv.1=k))=(atKey xs k).isSome:=by
    rw [Zb9,(r.val k).isSome_eq,isSome_map]
  unfold ZbZ storedH;rw [e]
  by_cases q:(atKey xs k).isSome=true
  · rw [if_pos q,if_pos q]; exact r.repl k ry
  · rw [if_neg q,if_neg q]; exact Paired.snoc r ⟨rfl,hb,ry⟩
theorem KT.keeps {H H':Hp} {kvs:List (List Key×V)} {xs:List (List Key×Addr×Value)} (r:KT H kvs xs) (ht:∀ b ys,H b=some (.tup ys)→H' b=some (.tup ys)):KT H' kvs xs:=
  Paired.mapP r fun _ _ z=>⟨z.1,ht _ _ z.2.1,z.2.2⟩
section
variable {P:Program} {w:World} {H:Hp} {h:Heap} {a:Addr}
theorem rd_of {u:HO} (ok:HOk P w H h) (e:Rd H a u):YJ P w H h a u:=e.ok ok
theorem Zcx {kvs:List (Key×V)} (ok:HOk P w H h) (e:Rd H a (.dK kvs)):kvs.length≤sizeLine∧(a == sysModules)=false∧∃ vs,KV kvs vs∧h.DictOf (ZJ P w) a vs:=
  show YJ P w H h a (.dK kvs) from rd_of ok e
theorem dk_of {kvs:List (Key×V)} (ok:HOk P w H h) (e:H a=some (.dK kvs)):kvs.length≤sizeLine∧(a == sysModules)=false∧∃ vs,KV kvs vs∧h.DictOf (ZJ P w) a vs:=Zcx ok (.inl e)
theorem Zb5 {ks:List Key} (ok:HOk P w H h) (e:H a=some (.tup (ks.map kV))):(tupleKind (ZJ P w)).is h ks a:=by
  obtain ⟨_,its,r,o,h1,h2,n,h3⟩:=(show YJ P w H h a (.tup (ks.map kV)) from ok a _ e);exact ⟨o,its.toArray,n,h1,h2,h3,by simpa using ZeK r⟩
theorem Zc7 {kvs:List (List Key×V)} (ok:HOk P w H h) (e:Rd H a (.dT kvs)):kvs.length≤sizeLine∧(a == sysModules)=false ∧
    ∃ xs,KT H kvs xs∧h.DictOfH (tupleKind (ZJ P w)) a xs:=by
  obtain ⟨z,y,xs,r,o,es,ep,h1,h2,h3,h4,h5⟩:=(show YJ P w H h a (.dT kvs) from rd_of ok e);refine ⟨z,y,xs,r,o,es,ep,h1,h2,h3,h4,fun x hx=>?_,h5⟩;have all:∀ {l:List (List Key×V)} {m:List (List Key×Addr×Value)},KT H l m→∀ x∈m,(tupleKind (ZJ P w)).is h x.1 x.2.1:=by
    intro l m q
    induction q with
    | nil=>intro x hx; exact nomatch hx
    | @cons p q ps qs hq t ih =>
      intro x hx;rcases List.mem_cons.mp hx with e | hx
      · subst e;exact Zb5 ok (by rw [← hq.1]; exact hq.2.1)
      · exact ih x hx
  exact all r x hx
theorem dt_of {kvs:List (List Key×V)} (ok:HOk P w H h) (e:H a=some (.dT kvs)):kvs.length≤sizeLine∧(a == sysModules)=false ∧
    ∃ xs,KT H kvs xs∧h.DictOfH (tupleKind (ZJ P w)) a xs:=Zc7 ok (.inl e)
end
noncomputable def Yx (H:Hp) (a:Addr) (y:V) (r:Option V):Prop:=
  (∃ kvs k,Rd H a (.dK kvs)∧y=kV k∧r=Xc kvs k)∨∃ kvs k b,Rd H a (.dT kvs)∧y = .ref b∧H b=some (.tup (k.map kV))∧r=Xc kvs k
noncomputable def ZcA (H:Hp) (a:Addr) (y v:V) (H':Hp):Prop:=
  (∃ kvs k,H a=some (.dK kvs)∧y=kV k∧kvs.length<sizeLine∧H'=upd H a (.dK (ZbZ kvs k v))) ∨
  ∃ kvs k b,H a=some (.dT kvs)∧y = .ref b∧H b=some (.tup (k.map kV))∧kvs.length<sizeLine∧H'=upd H a (.dT (ZbZ kvs k v))
theorem Yx.k {H:Hp} {a:Addr} {kvs:List (Key×V)} {k:Key} (e:H a=some (.dK kvs)):Yx H a (kV k) (Xc kvs k) := .inl ⟨kvs,k, .inl e,rfl,rfl⟩
theorem ZcA.k {H:Hp} {a:Addr} {kvs:List (Key×V)} {k:Key} {v:V} (e:H a=some (.dK kvs)) (hl:kvs.length<sizeLine):ZcA H a (kV k) v (upd H a (.dK (ZbZ kvs k v))) := .inl ⟨kvs,k,e,rfl,hl,rfl⟩
section
variable {X:Cx} {pins:List (Addr×Obj)} {σ:St} {H:Hp} {s:Shared} {a:Addr} {y v:V} {u r:Value} {o:Option V} {A:Around} {E:Value→Shared→Prop}
theorem Inv.big (I:Inv X pins σ H s):sysModules<s.heap.objs.size:=by
  have h:mainGlobals<s.heap.objs.size:=(I.mod.glob.keeps I.bk).lt;exact Nat.lt_trans (by decide) h
theorem ZiB {Q:Value→Shared→Prop} (hu:A.units+1<cLine) (I:Inv X pins σ H s) (g:Yx H a y (some v)) (ry:ZG y u) (h:∀ w' s',Inv X pins σ H s'→ZG v w'→Q w' s') :
    wpAny (model X.prog X.w) A (getItem (.ref a) u) Q E s:=by
  rcases g with ⟨kvs,k,e,ey,l⟩ | ⟨kvs,k,b,e,ey,eb,l⟩
  · subst ey;obtain ⟨z,hd,vs,rel,dd⟩:=Zcx I.hok e;obtain ⟨w',hw,rw'⟩:=Za8.some_of (v:=v) (o:=valueAt vs k) (by rw [l]; exact rel.val k);exact wpAny_getItem_of (Zeh ry) dd.mapOf hw (h w' _ (I.tok _) rw')
  · subst ey;cases (show u=Value.ref b from ry);obtain ⟨z,hd,xs,rel,dd⟩:=Zc7 I.hok e;obtain ⟨w',hw,rw'⟩:=Za8.some_of (v:=v) (o:=(atKey xs k).map (·.2)) (by rw [l]; exact rel.val k);obtain ⟨p,hp,hp2⟩:=Option.map_eq_some_iff.mp hw;refine wpAny_getItem_heap (tupleKind_room_in1 hu) (Zb5 I.hok eb) dd hp ?_;rw [hp2];exact h w' _ (I.tok _) rw'
theorem d_in {Q:Value→Shared→Prop} (hu:A.units+1<cLine) (I:Inv X pins σ H s) (g:Yx H a y o) (ry:ZG y u) (h:∀ s',Inv X pins σ H s'→Q (.bool o.isSome) s') :
    wpAny (model X.prog X.w) A (compareOp .In u (.ref a)) Q E s:=by
  rcases g with ⟨kvs,k,e,ey,l⟩ | ⟨kvs,k,b,e,ey,eb,l⟩
  · subst ey;obtain ⟨z,hd,vs,rel,dd⟩:=Zcx I.hok e;refine wpAny_in_of (Zeh ry) hd dd.mapOf ?_;rw [← (rel.val k).isSome_eq,← l];exact h _ (I.tok _)
  · subst ey;cases (show u=Value.ref b from ry);obtain ⟨z,hd,xs,rel,dd⟩:=Zc7 I.hok e;refine wpAny_in_heap (tupleKind_room_in1 hu) (Zb5 I.hok eb) hd dd ?_;have q:=(rel.val k).isSome_eq;rw [isSome_map] at q;rw [← q,← l];exact h _ (I.tok _)
theorem Zkw {Q:Value→Shared→Prop} (hu:A.units+1<cLine) (I:Inv X pins σ H s) (g:Yx H a y o) (ry:ZG y u) (h:∀ s',Inv X pins σ H s'→Q (.bool (!o.isSome)) s') :
    wpAny (model X.prog X.w) A (compareOp .NotIn u (.ref a)) Q E s:=by
  rcases g with ⟨kvs,k,e,ey,l⟩ | ⟨kvs,k,b,e,ey,eb,l⟩
  · subst ey;obtain ⟨z,hd,vs,rel,dd⟩:=Zcx I.hok e;refine wpAny_notIn_of (Zeh ry) hd dd.mapOf ?_;rw [← (rel.val k).isSome_eq,← l];exact h _ (I.tok _)
  · subst ey;cases (show u=Value.ref b from ry);obtain ⟨z,hd,xs,rel,dd⟩:=Zc7 I.hok e;refine wpAny_notIn_heap (tupleKind_room_in1 hu) (Zb5 I.hok eb) hd dd ?_;have q:=(rel.val k).isSome_eq;rw [isSome_map] at q;rw [← q,← l];exact h _ (I.tok _)
theorem ZhT {h':Heap} {t':Nat} {ob:HO} (I:Inv X pins σ H s) (mu:Mut (H a)) (hs:Heap.SameBut a s.heap h') (he:∃ q,h'.get? a=some q) (new:YJ X.prog X.w (upd H a ob) h' a ob) :
    Inv X pins σ (upd H a ob) { s with heap:=h',toks:=t' }:=
  I.write (x:=a) (e:=a) mu (.inl rfl) (fun b q hb z=>(hs.2 b hb).trans z) he new
theorem dk_new {P:Program} {w:World} {H':Hp} {h':Heap} {kvs:List (Key×V)} {vs:List (Key×Value)} (z:kvs.length≤sizeLine) (hd:(a == sysModules)=false) (rel:KV kvs vs) (dd:h'.DictOf (ZJ P w) a vs) :
    YJ P w H' h' a (.dK kvs):=⟨z,hd,vs,rel,dd⟩
theorem ZiA {H':Hp} {Q:Unit→Shared→Prop} (hu:A.units+1<cLine) (I:Inv X pins σ H s) (g:ZcA H a y v H') (ry:ZG y u) (rv:ZG v r) (h:∀ s',Inv X pins σ H' s'→Q () s') :
    wpAny (model X.prog X.w) A (setItem (.ref a) u r) Q E s:=by
  rcases g with ⟨kvs,k,e,ey,l,eH⟩ | ⟨kvs,k,b,e,ey,eb,l,eH⟩
  · subst ey eH;obtain ⟨z,hd,vs,rel,dd⟩:=dk_of I.hok e;have hz:vs.length≤sizeLine:=by rw [← rel.length]; exact z
    have hl:(ZbZ kvs k v).length≤sizeLine:=by have:=Zc3 kvs k v; omega
    refine wpAny_setItem_pairs (hsz:=hz) (Zeh ry) dd fun h' dd' hs=>h _ ?_;have he:∃ q,h'.get? a=some q:=let ⟨q,_,_,hq,_⟩:=dd'; ⟨q,hq⟩;exact ZhT I (by rw [e]; exact True.intro) hs he (dk_new hl hd (rel.put k rv) dd')
  · subst ey eH;cases (show u=Value.ref b from ry);obtain ⟨z,hd,xs,rel,dd⟩:=dt_of I.hok e;have hz:xs.length≤sizeLine:=by rw [← Paired.length rel]; exact z
    have hl:(ZbZ kvs k v).length≤sizeLine:=by have:=Zc3 kvs k v; omega
    refine wpAny_setItem_heap (hsz:=hz) (tupleKind_room_in1 hu) (Zb5 I.hok eb) dd fun h' dd' hs=>h _ ?_;obtain ⟨q,es,ep,hq,h2,h3,h4,_,h5⟩:=dd';refine ZhT I (by rw [e]; exact True.intro) hs ⟨q,hq⟩ ⟨hl,hd,_,(rel.put k eb rv).keeps fun c ys ec=>?_,q,es,ep,hq,h2,h3,h4,h5⟩;rw [Zh (ne_of ec e (fun z=>nomatch z))];exact ec
end
section
variable {X:Cx} {pins:List (Addr×Obj)} {σ:St} {H:Hp} {s:Shared} {a:Addr} {kvs:List (Key×V)} {k:Key} {u:Value} {A:Around} {E:Value→Shared→Prop}
end
noncomputable def NoSl (i:Expr):Prop:=∀ ov iv,subscripted i false ov iv=operate [ov,iv] (getItem ov iv)
theorem Zj5 {prog:Program} {w:World} {A:Around} {E:Value→Shared→Prop} {s:Shared} {env:Env} {value slice:Expr} {pos:Pos} {T id:String} {Q:Value→Shared→Prop}
    (hl:typeLookup (.type T) "__getitem__"=pure (some (.builtin id))) (hs:NoSl slice)
    (h:wpAny (model prog w) A (eval value env) (fun o s₁=>wpAny (model prog w) A (eval slice env) (fun i s₂=>s₂.TypeIs o T∧wpAny (model prog w) A (getItem o i) Q E s₂) E s₁) E s) :
    wpAny (model prog w) A (eval (.Subscript value slice pos) env) Q E s:=by
  refine Subscript_ (wpAny_mono h (fun o s₁ h₁=>wpAny_mono h₁ (fun i s₂ h₂=>?_) fun _ _ x=>x) fun _ _ x=>x);obtain ⟨hT,h₂⟩:=h₂;unfold subscriptTail;refine wpAny_bind ?_;rw [getitemInPython_of_ne hT.not_modules];refine wpAny_bind (wpAny_specialOf hT hl ?_);have fin:wpAny (model prog w) A (subscripted slice false o i) (fun r s₃=>wpAny (model prog w) A (letTemporaryGo value o r >>= fun _=>pure r) Q E s₃) E s₂:=by
    rw [hs o i];exact wpAny_operating (wpAny_mono h₂ (fun r s₃ h₃=>wpAny_bind (wpAny_letTemporaryGo (wpAny_pure h₃))) fun _ _ x=>x)
  first
    | exact wpAny_pure (wpAny_bind fin)
    | exact wpAny_bind (wpAny_pure (wpAny_bind fin))
    | exact wpAny_bind fin
theorem ZgF {X:Cx} {pins:List (Addr×Obj)} {σ:St} {H:Hp} {s:Shared} {a:Addr} {y:V} {o:Option V} (I:Inv X pins σ H s) (g:Yx H a y o):s.TypeIs (.ref a) "dict":=by
  rcases g with ⟨kvs,k,e,_,_⟩ | ⟨kvs,k,b,e,_,_,_⟩
  · obtain ⟨_,_,vs,_,dd⟩:=Zcx I.hok e;exact dd.typeIs
  · obtain ⟨_,_,xs,_,dd⟩:=Zc7 I.hok e;exact dd.typeIs
noncomputable def tDGet (td ty:TE):TE:=fun σ H Q=>td σ H fun x H1=>ty σ H1 fun y H2=>∃ a v,x = .ref a∧Yx H2 a y (some v)∧Q v H2
noncomputable def tDIn (ty td:TE):TE:=fun σ H Q=>ty σ H fun y H1=>td σ H1 fun x H2=>∃ a o,x = .ref a∧Yx H2 a y o∧Q (.bl o.isSome) H2
noncomputable def Zj4 (ty td:TE):TE:=fun σ H Q=>ty σ H fun y H1=>td σ H1 fun x H2=>∃ a o,x = .ref a∧Yx H2 a y o∧Q (.bl (!o.isSome)) H2
noncomputable def sDPut (td ty tv:TE):TS:=fun D σ H=>tv σ H fun v H1=>td σ H1 fun x H2=>ty σ H2 fun y H3=>∃ a H4,x = .ref a∧ZcA H3 a y v H4∧D.nx σ H4
section
variable {X:Cx} {o i e value:Expr} {pos pos' tpos:Pos} {td ty tv:TE}
theorem ZbF (hu:X.A.units+1<cLine) (ho:PE X o td) (hi:PE X i ty) (hs:NoSl i):PE X (.Subscript o i pos) (tDGet td ty):=by
  intro pins s σ H Q I h;refine Zj5 PySem.F.slot_dict_getitem.lookup hs (thn (ho pins s σ H _ I h) fun u s1 ⟨x,H1,I1,rx,q1⟩=>thn (hi pins s1 σ H1 _ I1 q1) fun iv s2 zz9=>?_);obtain ⟨y,H2,I2,ry,a,v,ex,g,q2⟩:=zz9;subst ex;obtain rfl:u=Value.ref a:=rx;exact ⟨ZgF I2 g,ZiB hu I2 g ry fun w' s3 I3 rw'=>⟨v,H2,I3,rw',q2⟩⟩
theorem Zb1 (hu:X.A.units+1<cLine) (hi:PE X i ty) (ho:PE X o td):PC X .In i o (tDIn ty td):=by
  intro pins s σ H Q I h;refine thn (hi pins s σ H _ I h) fun iv s1 ⟨y,H1,I1,ry,q1⟩=>thn (ho pins s1 σ H1 _ I1 q1) fun u s2 zz9=>?_;obtain ⟨x,H2,I2,rx,a,ov,ex,g,q2⟩:=zz9;subst ex;obtain rfl:u=Value.ref a:=rx;exact d_in hu I2 g ry fun s3 I3=>⟨.bl ov.isSome,H2,I3,rfl,q2⟩
theorem XI (hu:X.A.units+1<cLine) (hi:PE X i ty) (ho:PE X o td):PC X .NotIn i o (Zj4 ty td):=by
  intro pins s σ H Q I h;refine thn (hi pins s σ H _ I h) fun iv s1 ⟨y,H1,I1,ry,q1⟩=>thn (ho pins s1 σ H1 _ I1 q1) fun u s2 zz9=>?_;obtain ⟨x,H2,I2,rx,a,ov,ex,g,q2⟩:=zz9;subst ex;obtain rfl:u=Value.ref a:=rx;exact Zkw hu I2 g ry fun s3 I3=>⟨.bl (!ov.isSome),H2,I3,rfl,q2⟩
theorem Jv (hu:X.A.units+1<cLine) (ho:PE X o td) (hi:PE X i ty) (hv:PE X value tv) (hs:swapsWith value (some (.Subscript o i pos')) pos.line X.env=pure false) :
    PS X (.Assign [.Subscript o i pos'] value pos) (sDPut td ty tv):=by
  intro pins s σ H D I h;refine wpAny_Assign_Subscript (thn (hv pins s σ H _ I h) fun r s1 ⟨v,H1,I1,rv,q1⟩=>thn (ho pins s1 σ H1 _ I1 q1) fun u s2 ⟨x,H2,I2,rx,q2⟩=>thn (hi pins s2 σ H2 _ I2 q2) fun iv s3 zz9=>?_) hs;obtain ⟨y,H3,I3,ry,a,H4,ex,g,q3⟩:=zz9;subst ex;obtain rfl:u=Value.ref a:=rx;exact ZiA hu I3 g ry rv fun s4 I4=>⟨σ,H4,I4,q3⟩
end
theorem ZjO {P:Program} {w:World} {H:Hp} (h:Heap) (hb:sysModules<h.objs.size):YJ P w H (h.push { cls := .type "dict",data := .dict #[] }) h.objs.size (.dK []):=
  ⟨zero_le _,beq_eq_false_iff_ne.mpr (Ne.symm (ne_of_lt hb)),[], .nil,Heap.DictOf.new h⟩
noncomputable def tDNewK:TE:=fun _ H Q=>∀ p,H p=none→Q (.ref p) (upd H p (.dK []))
section
variable {X:Cx} {pos:Pos}
theorem XV:PE X (.Dict [] [] pos) tDNewK:=fun pins s σ H Q I h =>
  wpAny_Dict_empty ⟨.ref s.heap.objs.size,_,I.laid (a:=s.heap.objs.size) (o := .dK []) (t':=s.toks) (fun _ _ q=>Heap.get?_push_of_some _ q) (le_refl _) (ZjO s.heap I.big),rfl,h _ (I.hok.fresh (le_refl _))⟩
end
structure M1 (X:Cx) (o:Expr) (m:Str) (apos:Pos) (e:Expr) (cpos:Pos):Prop where
  base:attributeBase o m X.env (eval o X.env)=eval o X.env
  few:((backTo cpos (starEach [e] X.env)).all (fun x => !x.1) && (backToKw cpos (keywordEach [] X.env)).all (fun x=>x.1.isSome)
    && decide (([e]:List Expr).length+([]:List Keyword).length+(if ([]:List Keyword).isEmpty then 0 else 1)<30))=true
  line:(apos.endLine == cpos.line)=true
  trees:backTo cpos (starEach [e] X.env)=[(false,eval e X.env)]
structure M2 (X:Cx) (o:Expr) (m:Str) (apos:Pos) (e f:Expr) (cpos:Pos):Prop where
  base:attributeBase o m X.env (eval o X.env)=eval o X.env
  few:((backTo cpos (starEach [e,f] X.env)).all (fun x => !x.1) && (backToKw cpos (keywordEach [] X.env)).all (fun x=>x.1.isSome)
    && decide (([e,f]:List Expr).length+([]:List Keyword).length+(if ([]:List Keyword).isEmpty then 0 else 1)<30))=true
  line:(apos.endLine == cpos.line)=true
  trees:backTo cpos (starEach [e,f] X.env)=[(false,eval e X.env),(false,eval f X.env)]
noncomputable def IsD (H:Hp) (a:Addr):Prop:=(∃ kvs,Rd H a (.dK kvs))∨∃ kvs,Rd H a (.dT kvs)
theorem ZjA {X:Cx} {pins:List (Addr×Obj)} {σ:St} {H:Hp} {s:Shared} {a:Addr} (I:Inv X pins σ H s) (d:IsD H a) :
    s.TypeIs (.ref a) "dict"∧(∀ b,Value.ref a = .ref b→∃ ob,s.heap.get? b=some ob∧ob.dict=none)∧(a == sysModules)=false:=by
  rcases d with ⟨kvs,e⟩ | ⟨kvs,e⟩
  · obtain ⟨_,hd,vs,_,dd⟩:=Zcx I.hok e;refine ⟨dd.typeIs,fun b q=>?_,hd⟩;cases q;obtain ⟨ob,_,_,h1,h2,_⟩:=dd;exact ⟨ob,h1,h2.2.1⟩
  · obtain ⟨_,hd,xs,_,dd⟩:=Zc7 I.hok e;refine ⟨dd.typeIs,fun b q=>?_,hd⟩;cases q;obtain ⟨ob,_,_,h1,h2,_⟩:=dd;exact ⟨ob,h1,h2.2.1⟩
section
variable {X:Cx} {pins:List (Addr×Obj)} {σ:St} {H:Hp} {s:Shared} {a:Addr} {y d:V} {u r:Value} {o:Option V} {A:Around} {E:Value→Shared→Prop}
theorem d_get1 {Q:Value→Shared→Prop} (hu:A.units+1<cLine) (I:Inv X pins σ H s) (g:Yx H a y o) (ry:ZG y u) (h:∀ w' s',Inv X pins σ H s'→ZG (o.getD .non) w'→Q w' s') :
    wpAny (model X.prog X.w) A (call (.builtin "dict.get") [.ref a,u]) Q E s:=by
  rcases g with ⟨kvs,k,e,ey,l⟩ | ⟨kvs,k,b,e,ey,eb,l⟩
  · subst ey;obtain ⟨z,hd,vs,rel,dd⟩:=Zcx I.hok e;refine call_meetsIn slot_dict_get dd.typeIs entry_dict_get (PySem.F.args_dict_get_2 _ _) (meets_dict_get (ZJ X.prog X.w) a (Zeh ry) hd) ⟨_,dd.mapOf,h _ _ (I.tok _) ?_⟩;rw [l];exact (rel.val k).getD rfl
  · subst ey;cases (show u=Value.ref b from ry);obtain ⟨z,hd,xs,rel,dd⟩:=Zc7 I.hok e;refine call_meetsIn slot_dict_get dd.typeIs entry_dict_get (PySem.F.args_dict_get_2 _ _) (meetsH_dict_get (tupleKind (ZJ X.prog X.w)) a b hd) ⟨tupleKind_room_in1 hu,k,xs,Zb5 I.hok eb,dd,h _ _ (I.tok _) ?_⟩;rw [l];exact (rel.val k).getD rfl
theorem d_get2 {Q:Value→Shared→Prop} (hu:A.units+1<cLine) (I:Inv X pins σ H s) (g:Yx H a y o) (ry:ZG y u) (rd:ZG d r) (h:∀ w' s',Inv X pins σ H s'→ZG (o.getD d) w'→Q w' s') :
    wpAny (model X.prog X.w) A (call (.builtin "dict.get") [.ref a,u,r]) Q E s:=by
  rcases g with ⟨kvs,k,e,ey,l⟩ | ⟨kvs,k,b,e,ey,eb,l⟩
  · subst ey;obtain ⟨z,hd,vs,rel,dd⟩:=Zcx I.hok e;refine call_meetsIn slot_dict_get dd.typeIs entry_dict_get (PySem.F.args_dict_get_3 _ _ _) (meets_dict_get_default (ZJ X.prog X.w) a (Zeh ry) hd r) ⟨_,dd.mapOf,h _ _ (I.tok _) ?_⟩;rw [l];exact (rel.val k).getD rd
  · subst ey;cases (show u=Value.ref b from ry);obtain ⟨z,hd,xs,rel,dd⟩:=Zc7 I.hok e;refine call_meetsIn slot_dict_get dd.typeIs entry_dict_get (PySem.F.args_dict_get_3 _ _ _) (meetsH_dict_get_default (tupleKind (ZJ X.prog X.w)) a b hd r) ⟨tupleKind_room_in1 hu,k,xs,Zb5 I.hok eb,dd,h _ _ (I.tok _) ?_⟩;rw [l];exact (rel.val k).getD rd
end
noncomputable def tDGet1 (td ty:TE):TE:=fun σ H Q=>td σ H fun x H1=>∃ a,x = .ref a∧IsD H1 a∧ty σ H1 fun y H2=>∃ o,Yx H2 a y o∧Q (o.getD .non) H2
noncomputable def tDGet2 (td ty tx:TE):TE:=fun σ H Q=>td σ H fun x H1=>∃ a,x = .ref a∧IsD H1 a∧ty σ H1 fun y H2=>tx σ H2 fun z H3=>∃ o,Yx H3 a y o∧Q (o.getD z) H3
section
variable {X:Cx} {o e f:Expr} {apos cpos:Pos} {td ty tx:TE}
theorem Zi9 (hu:X.A.units+1<cLine) (ho:PE X o td) (he:PE X e ty) (m:M1 X o "get" apos e cpos):PE X (.Call (.Attribute o "get" apos) [e] [] cpos) (tDGet1 td ty):=by
  intro pins s σ H Q I h;refine wpAny_Call_method m.base m.few m.line PySem.F.plainAttrs_dict slot_dict_get PySem.F.type_dict_get (thn (ho pins s σ H _ I h) fun u s1 zz9=>?_);obtain ⟨x,H1,I1,rx,a,ex,d,q1⟩:=zz9;subst ex;obtain rfl:u=Value.ref a:=rx;obtain ⟨t1,t2,_⟩:=ZjA I1 d;refine ⟨t1,t2,?_⟩;rw [m.trees];refine Calls.callWith_builtin rfl (Calls.evalArgs_plain (Calls.spliced_cons (thn (he pins s1 σ H1 _ I1 q1) fun iv s2 ⟨y,H2,I2,ry,ov,g,q2⟩=>Calls.spliced_nil ?_)));exact d_get1 hu I2 g ry fun w' s3 I3 rw'=>⟨_,H2,I3,rw',q2⟩
theorem Zgb (hu:X.A.units+1<cLine) (ho:PE X o td) (he:PE X e ty) (hf:PE X f tx) (m:M2 X o "get" apos e f cpos):PE X (.Call (.Attribute o "get" apos) [e,f] [] cpos) (tDGet2 td ty tx):=by
  intro pins s σ H Q I h;refine wpAny_Call_method m.base m.few m.line PySem.F.plainAttrs_dict slot_dict_get PySem.F.type_dict_get (thn (ho pins s σ H _ I h) fun u s1 zz9=>?_);obtain ⟨x,H1,I1,rx,a,ex,d,q1⟩:=zz9;subst ex;obtain rfl:u=Value.ref a:=rx;obtain ⟨t1,t2,_⟩:=ZjA I1 d;refine ⟨t1,t2,?_⟩;rw [m.trees];refine Calls.callWith_builtin rfl (Calls.evalArgs_plain (Calls.spliced_cons (thn (he pins s1 σ H1 _ I1 q1) fun iv s2 ⟨y,H2,I2,ry,q2⟩ =>
    Calls.spliced_cons (thn (hf pins s2 σ H2 _ I2 q2) fun fv s3 ⟨z,H3,I3,rz,ov,g,q3⟩=>Calls.spliced_nil ?_))))
  exact d_get2 hu I3 g ry rz fun w' s4 I4 rw'=>⟨_,H3,I4,rw',q3⟩
end
section
variable {X:Cx} {pins:List (Addr×Obj)} {σ:St} {H:Hp} {s:Shared} {a:Addr} {kvs:List (Key×V)} {A:Around} {E:Value→Shared→Prop}
end
section
variable {X:Cx} {pins:List (Addr×Obj)} {σ:St} {H:Hp} {s:Shared} {a:Addr} {y:V} {u:Value} {A:Around} {E:Value→Shared→Prop}
end
end L2
namespace HT
open PySem PyProof.Rows
section
open PySem.SeqAt
open PySem.AutoSeq1 (wpAny_loadPart')
open PySem.MeetsSeq PySem.MeetsSeq2 PySem.MeetsSeq3
end
section
variable {prog:Program} {w:World} {A:Around} {E:Value→Shared→Prop} {s:Shared}
noncomputable def sIx (n d:Nat):Option Int→Nat
  | none=>d
  | some v=>if v<0 then (v+(n:Int)).toNat else min v.toNat n
theorem sIx_none (n d:Nat):sIx n d none=d:=rfl
theorem sIx_nat (n d k:Nat):sIx n d (some (k:Int))=min k n:=by
  show (if (k:Int)<0 then ((k:Int)+(n:Int)).toNat else min (k:Int).toNat n)=min k n;rw [if_neg (by omega),toNat_natCast]
end
end HT
namespace L2
open PySem PySem.Spec PyProof.Rows
noncomputable abbrev TO:=St→Hp→(Option Int→Hp→Prop)→Prop
noncomputable def PO (X:Cx) (e:Option Expr) (t:TO):Prop:=
  ∀ (pins:List (Addr×Obj)) (s:Shared) (σ:St) (H:Hp) (Q:Option Int→Hp→Prop),Inv X pins σ H s→t σ H Q →
    wpAny (model X.prog X.w) X.A (evalPart e X.env) (fun u s'=>∃ o H',Inv X pins σ H' s'∧IsPart u o∧Q o H') X.xe s
noncomputable def Zhs:TO:=fun _ H Q=>Q none H
noncomputable def tPart (t:TE):TO:=fun σ H Q=>t σ H fun x H1=>∃ i,x = .int i∧Q (some i) H1
theorem Zek {ns:List Int}:∀ {us:List Value},ZF (ns.map V.int) us→IntsAre us ns:=by
  induction ns with
  | nil=>intro us r; rw [map_nil] at r; cases r; exact .nil
  | cons n ns ih =>
    intro us r;rw [map_cons] at r;cases r with
    | cons r1 r2 =>
      obtain ⟨t,e⟩:=r1;subst e;exact .cons n t (ih r2)
section
variable {X:Cx} {e:Expr} {te:TE} {lo hi:Option Expr} {tl th:TO} {pos p2:Pos}
theorem Zdp:PO X none Zhs:=by
  intro pins s σ H Q I h;rw [evalPart_none];exact wpAny_pure ⟨none,H,I, .none,h⟩
theorem Zdo (h:PE X e te):PO X (some e) (tPart te):=by
  intro pins s σ H Q I hw;rw [evalPart_some];refine thn (h pins s σ H _ I hw) fun u s1 zz9=>?_;obtain ⟨x,H1,I1,r1,q1⟩:=zz9;obtain ⟨i,rfl,q⟩:=q1;obtain ⟨t,rfl⟩:=r1;exact ⟨some i,H1,I1, .int i t,q⟩
noncomputable def SlR (X:Cx) (r:V→Option Int→Option Int→Hp→VK→Prop):Prop:=
  ∀ (pins:List (Addr×Obj)) (s:Shared) (σ:St) (H:Hp) (x:V) (v vl vu:Value) (lo hi:Option Int) (sl:Addr) (Q:VK),Inv X pins σ H s→ZG x v→s.heap.IsSliceOf sl vl vu .none→IsPart vl lo→IsPart vu hi→r x lo hi H Q →
    ∃ T id,typeLookup (.type T) "__getitem__"=pure (some (.builtin id))∧s.TypeIs v T∧wpAny (model X.prog X.w) X.A (getItem v (.ref sl)) (EP X pins σ Q) X.xe s
noncomputable def tSl (r:V→Option Int→Option Int→Hp→VK→Prop) (te:TE) (tl th:TO):TE:=fun σ H Q=>te σ H fun x H1=>tl σ H1 fun l H2=>th σ H2 fun u H3=>r x l u H3 Q
theorem Zcj {r:V→Option Int→Option Int→Hp→VK→Prop} (hr:SlR X r) (he:PE X e te) (hl:PO X lo tl) (hu:PO X hi th):PE X (.Subscript e (.Slice lo hi none p2) pos) (tSl r te tl th):=by
  intro pins s σ H Q I h;refine Subscript_ (thn (he pins s σ H _ I h) fun v s1 zz9=>?_);obtain ⟨x,H1,I1,r1,q1⟩:=zz9;refine wpAny_Slice (thn (hl pins s1 σ H1 _ I1 q1) fun vl s2 ⟨l,H2,I2,pl,q2⟩=>thn (hu pins s2 σ H2 _ I2 q2) fun vu s3 zz9=>?_);obtain ⟨u,H3,I3,pu,q3⟩:=zz9;rw [evalPart_none];refine wpAny_pure ?_;have I4:Inv X pins σ H3 { s3 with heap:=s3.heap.push { cls := .type "slice",data := .fields #[vl,vu, .none] } }:=I3.kept (t':=s3.toks) fun b ob q=>Heap.get?_push_of_some _ q;obtain ⟨T,id,hT,ht,hg⟩:=hr pins { s3 with heap:=s3.heap.push { cls := .type "slice",data := .fields #[vl,vu, .none] } } σ H3 x v vl vu l u s3.heap.objs.size Q I4 r1 (Heap.IsSliceOf.new ..) pl pu q3;show wpAny (model X.prog X.w) X.A (subscriptTail e (.Slice lo hi none p2) v (.ref s3.heap.objs.size)) (EP X pins σ Q) X.xe { s3 with heap:=s3.heap.push { cls := .type "slice",data := .fields #[vl,vu, .none] } };exact tail_any (ops:=[.ref s3.heap.objs.size,v]) ht hT hg (by with_unfolding_all rfl)
noncomputable def ZfL (xs:List V) (lo hi:Option Int):List V:=(xs.drop (HT.sIx xs.length 0 lo)).take (HT.sIx xs.length xs.length hi - HT.sIx xs.length 0 lo)
theorem ZgG (xs:List V) (lo hi:Option Int):(ZfL xs lo hi).length≤xs.length:=by
  unfold ZfL;rw [length_take,List.length_drop];omega
end
open PySem PySem.Spec PyProof.Rows
noncomputable def ixN (n:Nat) (i:Int):Option Nat:=if 0≤i then (if i<n then some i.toNat else none) else if -(n:Int)≤i then some (i+n).toNat else none
noncomputable def atI {α:Type} (xs:List α) (i:Int):Option α:=(ixN xs.length i).bind fun j=>xs[j]?
theorem ZhJ {n:Nat} {i:Int} {j:Nat} (h:ixN n i=some j):seqIndex? i n=some j∧j<n ∧ -(n:Int)≤i∧i<n:=by
  unfold ixN at h
  by_cases h0:0≤i
  · rw [if_pos h0] at h
    by_cases h1:i<n
    · rw [if_pos h1] at h;have e:i.toNat=j:=Option.some.inj h;exact ⟨by rw [seqIndex_of h0 h1,e],by omega,by omega,h1⟩
    · rw [if_neg h1] at h; cases h
  · rw [if_neg h0] at h
    by_cases h1 : -(n:Int)≤i
    · rw [if_pos h1] at h;have e:(i+n).toNat=j:=Option.some.inj h;exact ⟨by rw [seqIndex_neg (by omega) h1,e],by omega,h1,by omega⟩
    · rw [if_neg h1] at h; cases h
theorem ZfN {α:Type} {xs:List α} {i:Int} {v:α} (h:atI xs i=some v):∃ j,seqIndex? i xs.length=some j∧xs[j]? = some v∧j<xs.length ∧ -(xs.length:Int)≤i∧i<xs.length:=by
  unfold atI at h;cases e:ixN xs.length i with
  | none=>rw [e] at h; cases h
  | some j =>
    rw [e] at h;obtain ⟨h1,h2,h3,h4⟩:=ZhJ e;exact ⟨j,h1,h,h2,h3,h4⟩
theorem Za4 {α:Type} {xs:List α} {j:Nat} {v:α} (h:xs[j]? = some v):atI xs (j:Int)=some v:=by
  have hj:j<xs.length:=(List.getElem?_eq_some_iff.mp h).1;have e:ixN xs.length (j:Int)=some j:=by
    unfold ixN;rw [if_pos (by omega),if_pos (by omega)]; simp
  unfold atI; rw [e]; exact h
noncomputable def ZkC (b:Expr):Prop:=∀ o i,subscripted b false o i=operate [o,i] (getItem o i)
noncomputable def IxR (X:Cx) (r:R2):Prop:=
  ∀ (value slice:Expr) (pins:List (Addr×Obj)) (s:Shared) (σ:St) (H:Hp) (x y:V) (v u:Value) (Q:VK),Inv X pins σ H s→ZG x v→ZG y u→r x y H Q →
    subscripted slice false v u=operate [v,u] (getItem v u)→wpAny (model X.prog X.w) X.A (subscriptTail value slice v u) (EP X pins σ Q) X.xe s
noncomputable def MtR (X:Cx) (id:String) (r:V→List V→Hp→VK→Prop):Prop:=
  ∀ (pins:List (Addr×Obj)) (s:Shared) (σ:St) (H:Hp) (x:V) (xs:List V) (v:Value) (us:List Value) (Q:VK),Inv X pins σ H s→ZG x v→ZF xs us→r x xs H Q →
    wpAny (model X.prog X.w) X.A (call (.builtin id) (v::us)) (EP X pins σ Q) X.xe s
section
variable {X:Cx} {a b:Expr} {ta tb:TE} {pos:Pos}
theorem Zt {r:R2} (hr:IxR X r) (ha:PE X a ta) (hb:PE X b tb) (hs:ZkC b):PE X (.Subscript a b pos) (tOp r ta tb):=by
  intro pins s σ H Q I h;exact Subscript_ (binT ha hb I h fun v u s2 x y H2 I2 rx ry q=>hr a b pins s2 σ H2 x y v u Q I2 rx ry q (hs _ _))
noncomputable def rIxL (K:Frag):R2:=fun x y H Q=>∃ p xs i v,x = .ref p∧y = .int i∧SqL K H p xs∧atI xs i=some v∧Q v H
noncomputable def ZcJ (K:Frag):R2:=fun x y H Q=>∃ p xs i v,x = .ref p∧y = .int i∧SqT K H p xs∧atI xs i=some v∧Q v H
noncomputable def rIxS:R2:=fun x y H Q=>∃ z i c,x = .str z∧y = .int i∧z.length≤sizeLine∧atI z.cps.toList i=some c∧Q (.str ⟨#[c]⟩) H
theorem Z2:IxR X (rIxL X.K):=by
  intro value slice pins s σ H x y v u Q I rx ry h hs;obtain ⟨p,xs,i,z,rfl,rfl,hq,he,q⟩:=h;cases rx;obtain ⟨t,rfl⟩:=ry;obtain ⟨its,r,pl,hz⟩:=I.list hq;obtain ⟨j,h1,h2,h3,h4,h5⟩:=ZfN he;obtain ⟨w,ew,rw'⟩:=r.get h2;have hl:=r.length;have hn:=ZcU;have fin:EP X pins σ Q w s:=⟨z,H,I,rw',q⟩
  by_cases h0:0≤i
  · have hj:i.toNat=j:=by
      rw [seqIndex_of h0 h5] at h1;exact Option.some.inj h1
    exact item_listR pl.isList h0 (by omega) (by rw [hj]; simpa using ew) fin hs
  · have hj:(i+(its.toArray.size:Int)).toNat=j:=by
      rw [seqIndex_neg (by omega) h4] at h1;rw [size_toArray,← hl];exact Option.some.inj h1
    exact subscriptTail_builtinR (x:=w) pl.isList.typeIs slot_list_getitem.lookup
      (wpAny_getItem_list_neg (Q:=fun r s'=>r=w∧EP X pins σ Q r s') pl.isList (by omega) (by rw [size_toArray] <;> omega) (by omega) (by rw [hj]; simpa using ew) ⟨rfl,fin⟩) hs
theorem Zr:IxR X (ZcJ X.K):=by
  intro value slice pins s σ H x y v u Q I rx ry h hs;obtain ⟨p,xs,i,z,rfl,rfl,hq,he,q⟩:=h;cases rx;obtain ⟨t,rfl⟩:=ry;obtain ⟨its,r,pl,hz⟩:=I.tuple hq;obtain ⟨j,h1,h2,h3,h4,h5⟩:=ZfN he;obtain ⟨w,ew,rw'⟩:=r.get h2;have hl:=r.length;have hn:=ZcU;have fin:EP X pins σ Q w s:=⟨z,H,I,rw',q⟩;exact subscriptTail_builtinR (x:=w) pl.typeIs slot_tuple_getitem.lookup
    (getItem_tuple (j:=j) (Q:=fun r s'=>r=w∧EP X pins σ Q r s') pl (by omega) (by omega) (by rw [size_toArray,← hl]; exact h1) (by simpa using ew) ⟨rfl,fin⟩) hs
theorem Zjy:IxR X rIxS:=by
  intro value slice pins s σ H x y v u Q I rx ry h hs;obtain ⟨z,i,c,rfl,rfl,hz,he,q⟩:=h;obtain ⟨t,rfl⟩:=rx;obtain ⟨t',rfl⟩:=ry;obtain ⟨j,h1,h2,h3,h4,h5⟩:=ZfN he;have hl:z.cps.toList.length=z.length:=by simp [Str.length]
  rw [hl] at h1 h4 h5;have hn:=ZcU;exact tail_any (typeIs_str s z t) slot_str_getitem.lookup (getItem_str (c:=c) (by
    have e1:decide (i < -(2 ^ 63:Int))=false:=decide_eq_false (by omega);have e2:decide (i≥2 ^ 63)=false:=decide_eq_false (by omega);rw [e1,e2,Bool.or_false]) (by rw [h1]; simpa using h2) ⟨.str ⟨#[c]⟩,H,I.tok _,⟨_,rfl⟩,q⟩) hs
theorem Zg8 (its:List Value) (n j:Nat) (u:Value):Obj.mapSeq (·.setIfInBounds j u) { cls := .type "list",data := .seq its.toArray n } = { cls := .type "list",data := .seq (its.set j u).toArray n }:=by
  simp [Obj.mapSeq]
theorem Inv.lst {pins:List (Addr×Obj)} {σ:St} {H:Hp} {s:Shared} {p:Addr} {xs:List V} (I:Inv X pins σ H s) (h:H p=some (.lst xs)) :
    ∃ (its:List Value) (n:Nat),ZF xs its∧s.heap.get? p=some { cls := .type "list",data := .seq its.toArray n }∧xs.length≤sizeLine:=by
  obtain ⟨z,its,n,r,e⟩:=I.hok p _ h;exact ⟨its,n,r,e,z⟩
theorem Inv.lstUpd {pins:List (Addr×Obj)} {σ:St} {H:Hp} {s:Shared} {p:Addr} {xs ys:List V} {its its':List Value} {n n':Nat} {f:Obj→Obj} (I:Inv X pins σ H s) (h:H p=some (.lst xs))
    (ho:s.heap.get? p=some { cls := .type "list",data := .seq its.toArray n }) (hf:f { cls := .type "list",data := .seq its.toArray n } = { cls := .type "list",data := .seq its'.toArray n' }) (r:ZF ys its') (hz:ys.length≤sizeLine) (t:Nat) :
    Inv X pins σ (upd H p (.lst ys)) { s with heap:=s.heap.update p f,toks:=t }:=by
  have e:(s.heap.update p f).get? p=some { cls := .type "list",data := .seq its'.toArray n' }:=by
    rw [Heap.get?_update_self f ho (by rw [hf] <;> rfl),hf]
  refine I.write (x:=p) (e:=p) (by rw [h]; trivial) (.inl rfl) (fun b u hb q=>(Heap.get?_update_other _ _ (Ne.symm hb)).trans q) ⟨_,e⟩ ?_;exact ⟨hz,its',n',r,e⟩
noncomputable def rSetL:V→V→V→Hp→(Hp→Prop)→Prop:=fun o i v H Q=>∃ p xs k j,o = .ref p∧i = .int k∧H p=some (.lst xs)∧ixN xs.length k=some j∧Q (upd H p (.lst (xs.set j v)))
theorem Zi0:PSet X rSetL:=by
  intro pins s σ H o i v ov iv u Q I ro ri rv h;obtain ⟨p,xs,k,j,rfl,rfl,hp,hj,q⟩:=h;cases ro;obtain ⟨t,rfl⟩:=ri;obtain ⟨its,n,r,ho,hz⟩:=I.lst hp;obtain ⟨h1,h2,h3,h4⟩:=ZhJ hj;have hl:=r.length;have hn:=ZcU;have I':Inv X pins σ (upd H p (.lst (xs.set j v))) { s with heap:=s.heap.update p (Obj.mapSeq (·.setIfInBounds j u)) }:=
    I.lstUpd hp ho (Zg8 its n j u) (r.set rv j) (by rw [List.length_set]; exact hz) s.toks
  by_cases h0:0≤k
  · have hk:k.toNat=j:=by
      rw [seqIndex_of h0 h4] at h1;exact Option.some.inj h1
    exact PySem.W.ki_setAt ho h0 (by omega) (by rw [size_toArray,← hl]; exact h4) (by rw [hk]; exact ⟨_,I',q⟩)
  · have hk:(k+(its.toArray.size:Int)).toNat=j:=by
      rw [seqIndex_neg (by omega) h3] at h1;rw [size_toArray,← hl];exact Option.some.inj h1
    exact PySem.W.ki_setBack ho (by omega) (by rw [size_toArray,← hl]; exact h3) (by omega) (by rw [hk]; exact ⟨_,I',q⟩)
theorem Ze4 (lo hi:Option Int) (n:Nat):(sliceBounds lo hi none n).1=((HT.sIx n 0 lo:Nat):Int)∧(sliceBounds lo hi none n).2.1=((HT.sIx n n hi:Nat):Int)∧(sliceBounds lo hi none n).2.2=1:=by
  refine ⟨?_,?_,rfl⟩
  · cases lo with
    | none=>simp [sliceBounds,HT.sIx]
    | some i =>
      simp only [sliceBounds,HT.sIx,Option.getD_none,show (1:Int)>0 by decide,if_true]
      by_cases h:i<0
      · simp only [h,if_true] <;> omega
      · simp only [h,if_false] <;> omega
  · cases hi with
    | none=>simp [sliceBounds,HT.sIx]
    | some i =>
      simp only [sliceBounds,HT.sIx,Option.getD_none,show (1:Int)>0 by decide,if_true]
      by_cases h:i<0
      · simp only [h,if_true] <;> omega
      · simp only [h,if_false] <;> omega
theorem Zes (its:List Value) (lo hi:Option Int):slicePick its.toArray lo hi none=((its.drop (HT.sIx its.length 0 lo)).take (HT.sIx its.length its.length hi - HT.sIx its.length 0 lo)).toArray:=by
  obtain ⟨h1,h2,h3⟩:=Ze4 lo hi its.toArray.size;unfold slicePick;rw [h1,h2,h3];simp only [sliceRange_one,pick_run,size_toArray] <;> rfl
noncomputable def rSlL (K:Frag):V→Option Int→Option Int→Hp→VK→Prop:=fun x lo hi H Q=>∃ a xs,x = .ref a∧SqL K H a xs∧∀ p,H p=none→Q (.ref p) (upd H p (.lst (ZfL xs lo hi)))
theorem Zhw:SlR X (rSlL X.K):=by
  intro pins s σ H x v vl vu lo hi sl Q I rx hs pl pu h;obtain ⟨a,xs,rfl,hx,q⟩:=h;cases rx;obtain ⟨its,r,ht,hz⟩:=I.list hx;have hlen:=r.length;refine ⟨"list",_,slot_list_getitem.lookup,ht.isList.typeIs,?_⟩;refine wpAny_getItem_list_slice ht.isList hs pl pu .none (by simp) ?_ (by rw [size_toArray] <;> omega);rw [Zes,← hlen];refine ⟨.ref s.heap.objs.size,_,I.laid (t':=s.toks) (o := .lst (ZfL xs lo hi)) (fun b ob q=>Heap.get?_push_of_some _ q) (le_refl _) ?_,rfl,q _ (I.hok.fresh (le_refl _))⟩;exact ⟨le_trans (ZgG xs lo hi) hz,_,0,(r.drop (HT.sIx xs.length 0 lo)).take (HT.sIx xs.length xs.length hi - HT.sIx xs.length 0 lo),Heap.get?_push_size _ rfl⟩
noncomputable def Zbw:V→Bool
  | .non=>true
  | .bl _=>true
  | .int _=>true
  | .str _=>true
  | _=>false
noncomputable def eqV:V→V→Bool
  | .non, .non=>true
  | .bl a, .bl b=>a == b
  | .bl a, .int b=>(if a then 1 else 0) == b
  | .int a, .bl b=>a == (if b then 1 else 0)
  | .int a, .int b=>a == b
  | .str a, .str b=>a == b
  | _,_=>false
theorem eqAt_V {A:Around} {s:Shared} {y x:V} {u v:Value} (ry:ZG y u) (rx:ZG x v) (fy:Zbw y=true) (fx:Zbw x=true):SeqAt.EqAt A s u v (eqV y x):=by
  cases y with
  | non =>
    cases ry;cases x with
    | non=>cases rx; exact SeqAt.EqAt.same _
    | bl b=>cases rx; exact SeqAt.EqAt.none_bool b
    | int b=>obtain ⟨t,rfl⟩:=rx; exact SeqAt.EqAt.none_int b t
    | str b=>obtain ⟨t,rfl⟩:=rx; exact SeqAt.EqAt.none_str b t
    | _=>exact absurd (show false=true from fx) Bool.false_ne_true
  | bl a =>
    cases ry;cases x with
    | non=>cases rx; exact SeqAt.EqAt.bool_none a
    | bl b=>cases rx; exact SeqAt.EqAt.bool_bool a b
    | int b=>obtain ⟨t,rfl⟩:=rx; exact SeqAt.EqAt.bool_int a b t
    | str b=>obtain ⟨t,rfl⟩:=rx; exact SeqAt.EqAt.bool_str a b t
    | _=>exact absurd (show false=true from fx) Bool.false_ne_true
  | int a =>
    obtain ⟨t',rfl⟩:=ry;cases x with
    | non=>cases rx; exact SeqAt.EqAt.int_none a t'
    | bl b=>cases rx; exact SeqAt.EqAt.int_bool a t' b
    | int b=>obtain ⟨t,rfl⟩:=rx; exact SeqAt.EqAt.int_int a t' b t
    | str b=>obtain ⟨t,rfl⟩:=rx; exact SeqAt.EqAt.int_str a t' b t
    | _=>exact absurd (show false=true from fx) Bool.false_ne_true
  | str a =>
    obtain ⟨t',rfl⟩:=ry;cases x with
    | non=>cases rx; exact SeqAt.EqAt.str_none a t'
    | bl b=>cases rx; exact SeqAt.EqAt.str_bool a t' b
    | int b=>obtain ⟨t,rfl⟩:=rx; exact SeqAt.EqAt.str_int a t' b t
    | str b=>obtain ⟨t,rfl⟩:=rx; exact SeqAt.EqAt.str_str a t' b t
    | _=>exact absurd (show false=true from fx) Bool.false_ne_true
  | _=>exact absurd (show false=true from fy) Bool.false_ne_true
noncomputable def eqU (x:V) (u:Value):Bool:=match u with
  | .none=>eqV .non x
  | .bool b=>eqV (.bl b) x
  | .int i _=>eqV (.int i) x
  | .str z _=>eqV (.str z) x
  | _=>false
theorem ZjL {x y:V} {u:Value} (r:ZG y u) (f:Zbw y=true):eqU x u=eqV y x:=by
  cases y with
  | non=>cases r; rfl
  | bl b=>cases r; rfl
  | int i=>obtain ⟨t,rfl⟩:=r; rfl
  | str z=>obtain ⟨t,rfl⟩:=r; rfl
  | _=>exact absurd (show false=true from f) Bool.false_ne_true
theorem Zcz {x:V}:∀ {xs:List V} {us:List Value},ZF xs us→xs.all Zbw=true→us.any (eqU x)=xs.any fun y=>eqV y x
  | _,_, .nil,_=>rfl
  | y::xs,u::us, .cons r t,f=>by
    rw [List.all_cons,and_eq_true] at f;rw [any_cons,any_cons,ZjL r f.1,Zcz t f.2]
theorem Zbs {A:Around} {s:Shared} {x:V} {v:Value} (rx:ZG x v) (fx:Zbw x=true):∀ {xs:List V} {us:List Value},ZF xs us→xs.all Zbw=true→∀ u∈us,SeqAt.EqAt A s u v (eqU x u)
  | _,_, .nil,_=>fun u hu=>by cases hu
  | y::xs,u::us, .cons r t,f=>fun u' hu=>by
    rw [List.all_cons,and_eq_true] at f;rcases List.mem_cons.mp hu with rfl | hu
    · rw [ZjL r f.1]; exact eqAt_V r rx f.1 fx
    · exact Zbs rx fx t f.2 u' hu
noncomputable def inV (x:V) (xs:List V):Bool:=xs.any fun y=>eqV y x
noncomputable def rIn (K:Frag) (neg:Bool):R2:=fun x y H Q=>∃ p xs,y = .ref p∧(SqL K H p xs∨SqT K H p xs)∧Zbw x=true∧xs.all Zbw=true∧Q (.bl (if neg then !inV x xs else inV x xs)) H
theorem ZaN:OpR X (compareOp .In) (rIn X.K false):=by
  intro pins s σ H x y v u Q I rx ry h;obtain ⟨p,xs,rfl,hq,fx,fs,q⟩:=h;cases ry;rcases hq with hq | hq
  · obtain ⟨its,r,pl,hz⟩:=I.list hq;refine SeqAt.in_listAt (eqU x) pl.isList (fun w hw=>Zbs rx fx r fs w (by simpa using hw)) ⟨.bl _,H,I,rfl,?_⟩;rw [show its.toArray.any (eqU x)=its.any (eqU x) by simp,Zcz r fs];exact q
  · obtain ⟨its,r,pl,hz⟩:=I.tuple hq;refine SeqAt.in_tupleAt (eqU x) pl (fun w hw=>Zbs rx fx r fs w (by simpa using hw)) ⟨.bl _,H,I,rfl,?_⟩;rw [show its.toArray.any (eqU x)=its.any (eqU x) by simp,Zcz r fs];exact q
theorem Za1:OpR X (compareOp .NotIn) (rIn X.K true):=by
  intro pins s σ H x y v u Q I rx ry h;obtain ⟨p,xs,rfl,hq,fx,fs,q⟩:=h;cases ry;rcases hq with hq | hq
  · obtain ⟨its,r,pl,hz⟩:=I.list hq;refine SeqAt.notIn_listAt (eqU x) pl.isList (fun w hw=>Zbs rx fx r fs w (by simpa using hw)) ⟨.bl _,H,I,rfl,?_⟩;rw [show its.toArray.any (eqU x)=its.any (eqU x) by simp,Zcz r fs];exact q
  · obtain ⟨its,r,pl,hz⟩:=I.tuple hq;refine SeqAt.notIn_tupleAt (eqU x) pl (fun w hw=>Zbs rx fx r fs w (by simpa using hw)) ⟨.bl _,H,I,rfl,?_⟩;rw [show its.toArray.any (eqU x)=its.any (eqU x) by simp,Zcz r fs];exact q
theorem ZfM:Jz X (.type "list") (fun xs H Q=>∃ p ys,xs=[.ref p]∧(SqL X.K H p ys∨SqT X.K H p ys)∧∀ l,H l=none→Q (.ref l) (upd H l (.lst ys))):=by
  intro pins s σ H xs us Q I r h;obtain ⟨p,ys,rfl,hq,q⟩:=h;obtain ⟨u,rfl,rx⟩:=ZaC r;cases rx;have fin:∀ (its:List Value),ZF ys its→ys.length≤sizeLine→∀ (h':Heap) (c':Nat),(∀ b o',s.heap.get? b=some o'→h'.get? b=some o') →
      h'.get? s.heap.objs.size=some { cls := .type "list",dict:=none,data := .seq its.toArray c',slots := #[] }→EP X pins σ Q (.ref s.heap.objs.size) { s with heap:=h' }:=fun its r' hz h' c' kp e =>
    ⟨.ref s.heap.objs.size,_,I.laid (t':=s.toks) kp (le_refl _) (show YJ X.prog X.w _ h' _ (.lst ys) from ⟨hz,its,c',r',e⟩),rfl,q _ (I.hok.fresh (le_refl _))⟩
  rcases hq with hq | hq
  · obtain ⟨its,r',pl,hz⟩:=I.list hq;have hlen:=r'.length;obtain ⟨o,ho,hc,n,hd⟩:=pl.isList;exact call_list_seq p (.inl rfl) ho hc hd (fun h' c' kp e=>fin its r' hz h' c' kp e) (by simp only [size_toArray] <;> omega)
  · obtain ⟨its,r',pl,hz⟩:=I.tuple hq;have hlen:=r'.length;obtain ⟨o,ho,hc,n,hd⟩:=pl;exact call_list_seq p (.inr rfl) ho hc hd (fun h' c' kp e=>fin its r' hz h' c' kp e) (by simp only [size_toArray] <;> omega)
noncomputable def tyV (K:Frag) (T:String) (x:V) (H:Hp):Prop:=match x with
  | .str _=>T="str"
  | .int _=>T="int"
  | .ref p=>(T="list"∧∃ xs,SqL K H p xs)∨(T="tuple"∧∃ o,K.lookup p=some o∧o.cls = .type "tuple"∧o.dict=none) ∨
      (T="dict"∧((∃ kvs,H p=some (.dK kvs))∨∃ kvs,H p=some (.dT kvs)))∨(T="set"∧∃ S n,H p=some (.set S n))
  | _=>False
theorem tyV_is {pins:List (Addr×Obj)} {σ:St} {H:Hp} {s:Shared} {T:String} {x:V} {v:Value} (I:Inv X pins σ H s) (r:ZG x v) (ty:tyV X.K T x H) :
    s.TypeIs v T∧∀ a,v = .ref a→∃ ob,s.heap.get? a=some ob∧ob.dict=none:=by
  cases x with
  | str z =>
    obtain ⟨t,rfl⟩:=r;cases (show T="str" from ty);exact ⟨typeIs_str s z t,fun _ e=>nomatch e⟩
  | int i =>
    obtain ⟨t,rfl⟩:=r;cases (show T="int" from ty);exact ⟨typeIs_int s i t,fun _ e=>nomatch e⟩
  | ref p =>
    cases r;rcases ty with ⟨rfl,xs,hq⟩ | ⟨rfl,o,hk,hc,hd⟩ | ⟨rfl,hk⟩ | ⟨rfl,S,n,hk⟩
    · obtain ⟨its,_,pl,_⟩:=I.list hq;refine ⟨pl.isList.typeIs,fun a e=>?_⟩;cases e;obtain ⟨o,n,e,c,hd,_⟩:=pl;exact ⟨o,e,hd⟩
    · refine ⟨⟨o,I.kIn p o hk,hc⟩,fun a e=>?_⟩;cases e;exact ⟨o,I.kIn _ o hk,hd⟩
    · have z:∃ o,s.heap.get? p=some o∧o.ExactDict:=by
        rcases hk with ⟨kvs,hk⟩ | ⟨kvs,hk⟩
        · obtain ⟨_,_,_,_,o,_,_,e,ex,_⟩:=I.hok p _ hk;exact ⟨o,e,ex⟩
        · obtain ⟨_,_,_,_,o,_,_,e,ex,_⟩:=I.hok p _ hk;exact ⟨o,e,ex⟩
      obtain ⟨o,e,ex⟩:=z;refine ⟨⟨o,e,ex.1⟩,fun a e2=>?_⟩;cases e2;exact ⟨o,e,ex.2.1⟩
    · obtain ⟨o,_,_,_,e,ex,_⟩:=I.hok p _ hk;refine ⟨⟨o,e,ex.1⟩,fun a e2=>?_⟩;cases e2;exact ⟨o,e,ex.2.1⟩
  | _=>exact False.elim ty
noncomputable def tBM (K:Frag) (T:String) (r:V→List V→Hp→VK→Prop) (to:TE) (t:TA):TE:=fun σ H Q=>to σ H fun x H1=>tyV K T x H1∧t σ H1 fun xs H2=>r x xs H2 Q
variable {o e:Expr} {es:List Expr} {to:TE} {t:TA} {name:Str} {apos cpos:Pos} {T id:String} {r:V→List V→Hp→VK→Prop}
theorem Xq (pa:PlainAttrs T) (slot:Slot T name id) (hty:typeOf (.builtin id)=pure (.type "method_descriptor")) (hm:MtR X id r) (ho:PE X o to) (ha:PA X (e::es) t)
    (hbase:attributeBase o name X.env (eval o X.env)=eval o X.env:=by rfl)
    (hfew:((backTo cpos (starEach (e::es) X.env)).all (fun x => !x.1) && (backToKw cpos (keywordEach [] X.env)).all (fun x=>x.1.isSome)
      && decide ((e::es).length+([]:List Keyword).length+(if ([]:List Keyword).isEmpty then 0 else 1)<30))=true:=by rfl)
    (hline:(apos.endLine == cpos.line)=true:=by rfl) (hs:starEach (e::es) X.env=(false,eval e X.env)::starEach es X.env:=by rfl) (hplain:(backTo cpos (starEach es X.env)).any (·.1)=false:=by rfl) :
    PE X (.Call (.Attribute o name apos) (e::es) [] cpos) (tBM X.K T r to t):=by
  intro pins s σ H Q I h;refine wpAny_Call_method_late hbase hfew hline rfl (thn (ho pins s σ H _ I h) fun v s1 zz9=>?_);obtain ⟨x,H1,I1,r1,ty,q1⟩:=zz9;obtain ⟨h1,h2⟩:=tyV_is I1 r1 ty;refine ⟨T,id,pa,slot,hty,h1,h2,?_⟩;have hA:=ha cpos pins s1 σ H1 _ I1 q1;rw [hs] at hA ⊢;refine Calls.callWith_builtin (by show (false || (backTo cpos (starEach es X.env)).any (·.1))=false; rw [hplain] <;> rfl) (Calls.evalArgs_plain ?_);exact thn hA fun us s2 ⟨vs,H2,I2,r2,q2⟩=>hm pins s2 σ H2 x vs v us Q I2 r1 r2 q2
/- xs.append(e),list.index on a module's tuple .. are MtR facts of 06m -/
end
open PySem PySem.Spec PyProof.Rows
noncomputable def MtM (X:Cx) (id:String) (r:V→List V→Hp→VK→Prop):Prop:=
  ∀ (pins:List (Addr×Obj)) (s:Shared) (σ:St) (H:Hp) (x:V) (xs:List V) (v:Value) (us:List Value) (Q:VK),Inv X pins σ H s→ZG x v→ZF xs us→r x xs H Q →
    wpAny (model X.prog X.w) X.A (call (.builtin id) (v::us)) (EP X pins σ Q) X.xe s
theorem ZF.one:∀ {x:V} {us:List Value},ZF [x] us→∃ u,us=[u]∧ZG x u
  | _,_, .cons r .nil=>⟨_,rfl,r⟩
theorem ZF.rep {xs:List V} {us:List Value} (h:ZF xs us):∀ k:Nat,ZF (List.replicate k xs).flatten (List.replicate k us).flatten
  | 0 => .nil
  | k+1=>by
    rw [replicate_succ,replicate_succ,flatten_cons,flatten_cons];exact ZF.append h (ZF.rep h k)
theorem ZeM (its:List Value):∀ (k:Nat) (acc:List Value),
    List.foldl (fun x1 x2=>x1++x2) acc.toArray (List.replicate k its.toArray)=(acc++(List.replicate k its).flatten).toArray
  | 0,acc=>by simp
  | k+1,acc=>by
    have e:acc.toArray++its.toArray=(acc++its).toArray:=by simp
    have e2:(acc++its)++(List.replicate k its).flatten=acc++(List.replicate (k+1) its).flatten:=by
      rw [replicate_succ,flatten_cons,append_assoc]
    rw [← e2,← ZeM its k (acc++its),← e,replicate_succ,foldl_cons]
section
variable {X:Cx} {pins:List (Addr×Obj)} {σ:St} {H:Hp} {s:Shared} {l b:Addr} {xs ys zs:List V}
theorem Inv.lset {its its':List Value} {n:Nat} {f:Array Value→Array Value} {t':Nat} (I:Inv X pins σ H s) (hH:H l=some (.lst xs))
    (e:s.heap.get? l=some { cls := .type "list",data := .seq its.toArray n }) (hf:f its.toArray=its'.toArray) (hv:ZF ys its') (hz:ys.length≤sizeLine) :
    Inv X pins σ (upd H l (.lst ys)) { s with heap:=s.heap.update l (Obj.mapSeq f),toks:=t' }:=by
  have q:=PySem.IsL.update e f;rw [hf] at q;refine I.write (x:=l) (e:=l) (by rw [hH]; exact trivial) (.inl rfl) (fun b' u hb hu=>(Heap.get?_update_other s.heap (Obj.mapSeq f) (Ne.symm hb)).trans hu) ⟨_,q⟩ ?_;exact ⟨hz,its',_,hv,q⟩
theorem Inv.lnew {its:List Value} {t':Nat} (I:Inv X pins σ H s) (hv:ZF ys its) (hz:ys.length≤sizeLine) :
    Inv X pins σ (upd H s.heap.objs.size (.lst ys)) { s with heap:=s.heap.push { cls := .type "list",data := .seq its.toArray },toks:=t' }:=
  I.laid (fun _ _ q=>Heap.get?_push_of_some _ q) (le_refl _) ⟨hz,its,0,hv,Heap.get?_push_size _ rfl⟩
theorem Inv.fresh (I:Inv X pins σ H s):H s.heap.objs.size=none:=I.hok.fresh (le_refl _)
theorem Inv.lstM (I:Inv X pins σ H s) (hH:H l=some (.lst xs)):xs.length≤sizeLine∧∃ (its:List Value) (n:Nat),ZF xs its∧xs.length=its.length∧s.heap.get? l=some { cls := .type "list",data := .seq its.toArray n }:=by
  obtain ⟨z,its,n,r,e⟩:=I.hok l _ hH;exact ⟨z,its,n,r,r.length,e⟩
theorem Zgv {n:Nat} (h:n≤sizeLine):Builtin.List.listTooLong n=false:=by
  unfold Builtin.List.listTooLong;exact decide_eq_false (by omega)
end
section
variable {X:Cx}
noncomputable def Zkb:V→List V→Hp→VK→Prop:=fun x vs H Q=>∃ l xs y,x = .ref l∧vs=[y]∧H l=some (.lst xs)∧xs.length<sizeLine∧Q .non (upd H l (.lst (xs++[y])))
theorem Xi:MtM X "list.append" Zkb:=by
  intro pins s σ H x vs v us Q I rx rv h;obtain ⟨l,xs,y,rfl,rfl,hH,hz,q⟩:=h;cases rx;obtain ⟨u,rfl,ru⟩:=rv.one;obtain ⟨z,its,n,r,hl,e⟩:=I.lstM hH;refine call_meets F.slot_list_append ⟨_,e,rfl⟩ F.entry_list_append (F.args_list_append_2 _ _) (PySem.list_append l its.toArray n u (by rw [size_toArray]; omega)) ⟨e,?_⟩;refine ⟨.non,_,I.lset (its':=its++[u]) hH e (by simp) (r.append (.cons ru .nil)) ?_,rfl,q⟩;rw [length_append,length_singleton];omega
noncomputable def Zka:V→List V→Hp→VK→Prop:=fun x vs H Q=>∃ l b xs zs,x = .ref l∧vs=[.ref b]∧H l=some (.lst xs)∧H b=some (.lst zs)∧xs.length+zs.length≤sizeLine∧Q .non (upd H l (.lst (xs++zs)))
theorem ZcT:MtM X "list.extend" Zka:=by
  intro pins s σ H x vs v us Q I rx rv h;obtain ⟨l,b,xs,zs,rfl,rfl,hH,hB,hz,q⟩:=h;cases rx;obtain ⟨u,rfl,ru⟩:=rv.one;cases ru;obtain ⟨z,its,n,r,hl,e⟩:=I.lstM hH;obtain ⟨z2,its2,n2,r2,hl2,e2⟩:=I.lstM hB;have hsz:its.toArray.size+its2.toArray.size≤sizeLine:=by rw [size_toArray,size_toArray]; omega
  have hlong:¬ (!its.toArray.isEmpty && Builtin.List.listTooLong (its.toArray.size+its2.toArray.size))=true:=by
    rw [Zgv hsz,Bool.and_false];exact Bool.false_ne_true
  refine call_meets F.slot_list_extend ⟨_,e,rfl⟩ F.entry_list_extend (F.args_list_extend_2 _ _)
    (AutoSeq1.list_extend_list_list_0 l its.toArray n b its2.toArray n2 hlong (by rw [size_toArray]; omega) (by omega)) ⟨e,e2,?_⟩
  refine ⟨.non,_,I.lset (its':=its++its2) hH e (by simp) (r.append r2) ?_,rfl,q⟩;rw [length_append];omega
noncomputable def rCat:R2:=fun x y H Q=>∃ l b xs zs,x = .ref l∧y = .ref b∧H l=some (.lst xs)∧H b=some (.lst zs)∧xs.length+zs.length≤sizeLine∧∀ p,H p=none→Q (.ref p) (upd H p (.lst (xs++zs)))
theorem ZdU:OpR X (binaryOp .Add) rCat:=by
  intro pins s σ H x y v u Q I rx ry h;obtain ⟨l,b,xs,zs,rfl,rfl,hH,hB,hz,q⟩:=h;cases rx;cases ry;obtain ⟨z,its,n,r,hl,e⟩:=I.lstM hH;obtain ⟨z2,its2,n2,r2,hl2,e2⟩:=I.lstM hB;refine PySem.P.add_list e e2 ?_ (by rw [size_toArray,size_toArray]; omega);have ea:its.toArray++its2.toArray=(its++its2).toArray:=by simp
  rw [ea];exact ⟨.ref _,_,I.lnew (t':=s.toks) (r.append r2) (by rw [length_append]; omega),rfl,q _ I.fresh⟩
noncomputable def rRep:R2:=fun x y H Q=>∃ l k xs,x = .ref l∧y = .int k∧H l=some (.lst xs) ∧ -(2 ^ 63)≤k∧k<2 ^ 63∧xs.length * k.toNat≤sizeLine ∧
  ∀ p,H p=none→Q (.ref p) (upd H p (.lst (List.replicate k.toNat xs).flatten))
theorem Zkl {α:Type} (xs:List α) (k:Nat):(List.replicate k xs).flatten.length=k * xs.length:=by
  induction k with
  | zero=>simp
  | succ k ih=>rw [replicate_succ,flatten_cons,length_append,ih,Nat.succ_mul,Nat.add_comm]
theorem op_rep:OpR X (binaryOp .Mult) rRep:=by
  intro pins s σ H x y v u Q I rx ry h;obtain ⟨l,k,xs,rfl,rfl,hH,h1,h2,hz,q⟩:=h;cases rx;obtain ⟨t,rfl⟩:=ry;obtain ⟨z,its,n,r,hl,e⟩:=I.lstM hH;have hlen:its.toArray.size * k.toNat≤sizeLine:=by rw [size_toArray,← hl]; exact hz
  have hcap:¬ its.toArray.size * k.toNat>(2 ^ 63 - 1) / 8:=by
    have:(sizeLine:Nat)≤(2 ^ 63 - 1) / 8:=by decide
    omega
  have hfit:¬ (!Builtin.List.listFitsIndex k)=true:=by
    rw [fitsIndex_both h1 h2];exact Bool.false_ne_true
  have hlong:¬ Builtin.List.listTooLong (its.toArray.size * k.toNat)=true:=by
    rw [Zgv hlen];exact Bool.false_ne_true
  have hnew:List.foldl (fun x1 x2=>x1++x2) #[] (List.replicate (if its.toArray.isEmpty=true then 0 else k.toNat) its.toArray)=(List.replicate k.toNat its).flatten.toArray:=by
    have f0:∀ m:Nat,List.foldl (fun x1 x2=>x1++x2) #[] (List.replicate m its.toArray)=(List.replicate m its).flatten.toArray:=fun m=>by
      have:=ZeM its m [];rw [List.nil_append] at this;exact this
    rw [f0];cases its with
    | nil=>simp
    | cons a r'=>rw [if_neg (by simp)]
  refine wpAny_binaryOp_repeat_ref (T:="list") (U:="int") (by decide) ⟨_,e,rfl⟩ (fun s'=>typeIs_int s' k t) noFill_list_mul F.fills_int_mul F.slot_int_rmul repeat_list F.slot_int_index.lookup
    (call_meets F.slot_int_rmul (typeIs_int s k t) F.entry_int_rmul (F.args_int_rmul_2 _ _) (int___rmul___int_list k t l its.toArray n)
      ⟨e,rfl,⟨_,e,rfl⟩,call_meets F.slot_list_mul ⟨_,e,rfl⟩ F.entry_list_mul (F.args_list_mul_2 _ _) (AutoListH.list___mul___list_int_3 l its.toArray n k t hfit hcap hlong) ⟨e,?_⟩⟩)
  rw [hnew];exact ⟨.ref _,_,I.lnew (t':=s.toks) (r.rep k.toNat) (by rw [Zkl,Nat.mul_comm]; exact hz),rfl,q _ I.fresh⟩
end
section
variable {prog:Program} {w:World} {A:Around} {E:Value→Shared→Prop} {s:Shared}
end
section
variable {X:Cx}
end
end L2
namespace Att
open PySem PySem.W PySem.Calls PyProof.Rows
theorem Zdk {P:Params} {h:Heap}:∀ (ns:List Int) (vs:List Value),WellAll P h vs (ns.map WData.int)→IntsAre vs ns:=by
  intro ns
  induction ns with
  | nil =>
    intro vs w;rw [map_nil] at w;cases w;exact .nil
  | cons n ns ih =>
    intro vs w;rw [map_cons] at w;cases w with
    | cons a b =>
      cases a;exact .cons _ _ (ih _ b)
theorem Zh4 {l:OpenLaw} {n:Nat} (hn:l.most=some n) {P:Params} {h:Heap} {args:List WData} {vals:List Value}
    (hpre:l.row.toRowW.claim.pre args=true) (hwl:WellAll P h vals args) :
    ∃ a vs ns,vals=[Value.ref a]∧args=[WData.list (ns.map WData.int)]∧h.get? a=some { cls := .type "list",data := .seq vs.toArray }∧IntsAre vs ns∧ns.length≤n:=by
  have hsh:WShape.hasAll [] args [.list .int]=true:=(pre_splitW hpre).1;have hc:l.pre.holds [] { args:=args }=true:=(pre_splitW hpre).2;obtain ⟨d,r,rfl,h1,h2⟩:=hasAllW_cons hsh;obtain rfl:=hasAllW_nil h2;obtain ⟨xs,rfl,h3⟩:=hasW_list h1;obtain ⟨ns,rfl⟩:=items_int h3;have hlen:ns.length≤n:=by
    unfold OpenLaw.pre at hc;have h4:(WTm.not (.lt (.lit (.int (n:Int))) (.len (.arg 0)))).holds [] { args:=[.list (ns.map .int)] }=true:=by
      have h4:=(holds_andW hc).1;rw [hn] at h4;exact h4
    have h5:=condW_of h4 (w_not (w_lt w_lit (w_len_list (w_arg rfl))));rw [length_map] at h5;refine Nat.le_of_not_lt fun q=>?_;have q':(n:Int)<((ns.length:Nat):Int):=by omega
    first
      | (rw [decide_eq_true q'] at h5; exact absurd h5 (by decide))
      | (simp at h5; omega)
  cases hwl with
  | cons w1 w2 =>
    cases w2;cases w1 with
    | list ho hall=>exact ⟨_,_,ns,rfl,rfl,ho,Zdk ns _ hall,hlen⟩
theorem Zib (l:OpenLaw) (args:List WData):l.row.toRowW.claim.post args (.bool true) args=true:=
  postW_of (r:=l.row.toRowW) (X:=(true == true))
    (show WShape.has [] (.bool true) .bool=true by first | rfl | decide | simp [WShape.has,WShape.arms,WShape.armsAll])
    (show (WTm.eq .res (.lit (.bool true))).value [] { args:=args,res:=some (.bool true),after:=args }=some (.bool (true == true)) from w_eq_bool (w_res rfl) w_lit) rfl
theorem attach_call {l:OpenLaw} {n:Nat} {q:Program} {loose:List Str} {XP:(Str→Option Value)→Heap→Prop} {YP:World→Heap→Prop} {d:DefRec}
    (hn:l.most=some n) (hdf:d.params.defaults=[])
    (call:∀ (w:World) (s₀ s₁:Shared) (mg mb:Str→Option Value) (fa:Addr) (o:Obj) (pm cd doc:Value) (a:Addr) (vs:List Value) (ns:List Int),
      Ground q loose [] XP w s₀ mg mb s₁.heap→YP w s₁.heap →
      s₁.heap.get? fa=some o→o.data = .func (docDef d.name d.params d.body d.scope pm cd doc)→s₁.heap.CodeRec cd d.name→mg d.name=some (.ref fa) →
      s₁.heap.get? a=some { cls := .type "list",data := .seq vs.toArray }→IntsAre vs ns→ns.length≤n→s₁.gens = #[] →
      codeAny (model l.prog w) callerA (.call (.ref fa) ⟨[.ref a],[]⟩) (fun r s'=>r = .ok (.ret (.bool true))∧OldK s₁.heap s'.heap∧s'.os=s₁.os∧AllBare s'.gens) s₁) :
    WalkO q loose XP YP l.row.toRowW d [] (fun f vs=>PySem.call f vs):=by
  intro w s₀ s₁ mg mb G Y fa o pm cd doc dV kV ho hd hcd hD hmg hg args vals as hpre hlay hrd hwl hlo;obtain rfl:dV = .none:=Dflts.none hD hdf;obtain rfl:kV = .none:=Dflts.noKw hD;obtain ⟨a,vs,ns,rfl,rfl,hobj,hints,hlen⟩:=Zh4 hn hpre hwl;refine enter_call (codeAny_mono (call w s₀ s₁ mg mb fa o pm cd doc a vs ns G Y ho (fd_plain hd) hcd hmg hobj hints hlen hg) fun r s' hq=>?_);obtain ⟨rfl,h2,h3,h4⟩:=hq;exact ⟨.inl ⟨.bool true, .bool true,[],rfl,fun _=>rfl, .bool true,Zib l _,fun _=>⟨List.Pairwise.nil,fun _ hm=>(nomatch hm)⟩⟩,h2,h3,h4⟩
section
variable {prog:Program} {w:World} {A:Around} {E:Value→Shared→Prop} {s:Shared} {K:Frag}
end
end Att
namespace L2
open PySem PySem.Spec PyProof.Rows
theorem ZeC:∀ {vs:List Value} {ns:List Int},IntsAre vs ns→ZF (ns.map V.int) vs
  | _,_, .nil => .nil
  | _,_, .cons n t h => .cons ⟨t,rfl⟩ (ZeC h)
noncomputable def Only (H:Hp):Prop:=∀ b,H b=none∨∃ o xs,H b=some (.frz o (.lst xs))
theorem Zjq {P:Program} {w:World} {K:Frag} {mg mb:Str→Option Value} {CX:CXT} {k:Nat} {fa a:Addr} {fd:FuncData} {x:Str} {sp:Sp} {s₁:Shared} {vs:List Value} {ns:List Int}
    (KX:K.In s₁.heap) (hns:s₁.heap.Ns mainGlobals mg) (hb:s₁.heap.Ns builtinsNs mb) (hbb:∀ x:Str,x≠"__name__"→mb x=bootBuiltins x) (hlim:s₁.heap.NoLimit) (hg:s₁.gens = #[])
    (ha:s₁.heap.get? a=some { cls := .type "list",data := .seq vs.toArray }) (hi:IntsAre vs ns) (hl:ns.length≤sizeLine) (hr:Room k callerA)
    (F:∀ base:Heap,K.In base→base.Ns mainGlobals mg→FnOk P w K mg base CX k fa fd [x] sp) (hbind:∀ (s:Shared) (u:Value),BindsTo s fd ⟨[u],[]⟩ [(x,u)])
    (hsp:∀ H:Hp,Only H→SqL K H a (ns.map V.int)→sp [.ref a] H (fun v _=>v = .bl true) fun _ _ _=>False)
    (hCX:∀ H e s',CX [] H s₁ (fun _ _ _=>False) e s'→False) :
    codeAny (model P w) callerA (.call (.ref fa) ⟨[.ref a],[]⟩) (fun r s'=>r = .ok (.ret (.bool true))∧OldK s₁.heap s'.heap∧s'.os=s₁.os∧AllBare s'.gens) s₁:=by
  have rv:=ZeC hi;have lenV:=hi.length;have core:∀ H:Hp,Only H→SqL K H a (ns.map V.int)→HOk P w H s₁.heap→(∀ b,H b≠none→b=a)→(H a≠none→K.lookup a=none) →
      codeAny (model P w) callerA (.call (.ref fa) ⟨[.ref a],[]⟩) (fun r s'=>r = .ok (.ret (.bool true))∧OldK s₁.heap s'.heap∧s'.os=s₁.os∧AllBare s'.gens) s₁:=by
    intro H hO hS hok hA hK;have base_of:∀ {b:Addr} {o:Obj},s₁.heap.get? b=some o→H b=none→(ZfC s₁.heap H).get? b=some o:=fun e n=>ZjC e n;have noA:∀ {b:Addr} {o:Obj} {es:Array DictEntry} {ep:Nat},s₁.heap.get? b=some o→o.data = .dict es ep→H b=none:=fun {b o es ep} e d=>by
      cases q:H b with
      | none=>rfl
      | some u =>
        have e':b=a:=hA b (by rw [q]; simp);subst e';rw [ha] at e; cases e;have d':Data.seq vs.toArray _=Data.dict es ep:=d;cases d'
    have nsK:∀ {b:Addr} {m:Str→Option Value},s₁.heap.Ns b m→(ZfC s₁.heap H).Ns b m:=fun {b m} ⟨o,es,ep,e,d,r⟩=>⟨o,es,ep,base_of e (noA e d),d,r⟩;have hKb:K.In (ZfC s₁.heap H):=fun b o e=>base_of (KX b o e) (by
      cases q:H b with
      | none=>rfl
      | some u =>
        have e':b=a:=hA b (by rw [q]; simp);subst e';rw [hK (by rw [q]; simp)] at e; cases e)
    have hM:Mod K mg (ZfC s₁.heap H):=⟨hKb,nsK hns,⟨mb,nsK hb,hbb⟩,let ⟨mc,h1,h2⟩:=hlim; ⟨mc,nsK h1,h2⟩⟩;have e0:Env0 P w K mg (ZfC s₁.heap H) callerA [] s₁ H:=⟨rfl,hM,fun b o e=>Zkg e,Nat.le_of_eq (Ziv _ _),trivial,fun b hb=>absurd (show b∈([]:List Addr) from hb) (by simp),hok, .of_eq hg⟩;refine codeAny_mono ((F _ hKb (nsK hns)).run callerA [] s₁ H ⟨[.ref a],[]⟩ [.ref a] [.ref a] _ _ hr e0 (hbind s₁ (.ref a)) (.cons rfl .nil) (hsp H hO hS)) fun r s' h=>?_;cases r with
    | error e=>exact (hCX H e s' h).elim
    | ok fl =>
      cases fl with
      | next=>exact False.elim h
      | brk=>exact False.elim h
      | cont=>exact False.elim h
      | ret u =>
        obtain ⟨v,H',os,bare,un,hok',r',q⟩:=h;have q':v = .bl true:=q;subst q';obtain rfl:u=Value.bool true:=r';refine ⟨rfl,OldK.of_keep fun b o e=>?_,os,bare⟩;cases q:H b with
        | none=>exact un.keep b o e q (by intro z; exact absurd (show b∈([]:List Addr) from z) (by simp)) (by simp)
        | some u =>
          rcases hO b with z | ⟨ob,xs,z⟩
          · rw [q] at z; cases z
          · have z2:=un.frzs b ob _ z;obtain ⟨e1,_⟩:=hok b _ z;obtain ⟨e2,_⟩:=hok' b _ z2;rw [e] at e1; cases e1;exact e2
  cases hk:K.lookup a with
  | some o =>
    have e:=KX a o hk;rw [ha] at e;cases e;refine core (fun _=>none) (fun _ => .inl rfl) (.inr ⟨_,vs.toArray,_,hk,rfl,rfl,rfl,by rw [size_toArray,lenV]; exact hl,by simpa using rv⟩) (fun b u z=>by have z':(none:Option HO)=some u:=z; cases z') (fun b z=>absurd rfl z) fun z=>absurd rfl z
  | none =>
    refine core (fun b=>if b=a then some (.frz { cls := .type "list",data := .seq vs.toArray } (.lst (ns.map V.int))) else none) (fun b=>?_) (.inl (.inr ⟨{ cls := .type "list",data := .seq vs.toArray },if_pos rfl⟩)) (fun b u z=>?_) (fun b z=>?_) fun _=>hk
    · by_cases hb:b=a
      · exact .inr ⟨_,_,if_pos hb⟩
      · exact .inl (if_neg hb)
    · by_cases hb:b=a
      · have z':=(if_pos hb).symm.trans z;cases z';subst hb;exact ⟨ha,by rw [length_map]; exact hl,vs,_,rv,ha⟩
      · have z':=(if_neg hb).symm.trans z;cases z'
    · by_cases hb:b=a
      · exact hb
      · exact absurd (if_neg hb) z
open PySem PySem.Spec PyProof.Rows
theorem walk_of {l:PySem.W.OpenLaw} {n k:Nat} {q:Program} {loose:List Str} {XP:(Str→Option Value)→Heap→Prop} {YP:World→Heap→Prop} {d:DefRec} {K:Params→Frag} {CX:World→CXT} {sp:World→Sp} {x:Str}
    (hn:l.most=some n) (hn2:n≤sizeLine) (hdf:d.params.defaults=[]) (hr:Room k callerA)
    (hY:∀ (w:World) (h:Heap),YP w h→(K w.params).In h)
    (F:∀ (w:World) (mg:Str→Option Value) (fa:Addr) (h:Heap),(K w.params).In h→h.Ns mainGlobals mg→mg d.name=some (.ref fa) →
      ∃ fd:FuncData,(∀ (s:Shared) (u:Value),BindsTo s fd ⟨[u],[]⟩ [(x,u)]) ∧
        ∀ base:Heap,(K w.params).In base→base.Ns mainGlobals mg→FnOk l.prog w (K w.params) mg base (CX w) k fa fd [x] (sp w))
    (hsp:∀ (w:World) (H:Hp) (a:Addr) (ns:List Int),ns.length≤n→Only H→SqL (K w.params) H a (ns.map V.int)→sp w [.ref a] H (fun v _=>v = .bl true) fun _ _ _=>False)
    (hCX:∀ (w:World) (H:Hp) (s:Shared) (e:Value) (s':Shared),CX w [] H s (fun _ _ _=>False) e s'→False) :
    PySem.W.WalkO q loose XP YP l.row.toRowW d [] (fun f vs=>PySem.call f vs):=by
  refine Att.attach_call hn hdf fun w s₀ s₁ mg mb fa o pm cd doc a vs ns G Y ho hd hcd hmg hobj hints hlen hg=>?_;have KX:=hY w _ Y;obtain ⟨fd,hb,hF⟩:=F w mg fa _ KX G.T.g hmg;exact Zjq KX G.T.g G.T.b G.T.builtins G.T.nolimit hg hobj hints (le_trans hlen hn2) hr hF hb (fun H hO hS=>hsp w H a ns hlen hO hS) fun H e s'=>hCX w H s₁ e s'
open PySem PySem.Spec PyProof.Rows
noncomputable def Zl (s:Stmt):Arguments:=match s with
  | .FunctionDef _ a _ _ _ _ _ _ _ _=>a
  | _=>{ posonlyargs:=[],args:=[],vararg:=none,kwonlyargs:=[],kw_defaults:=[],kwarg:=none,defaults:=[] }
noncomputable def Zk (s:Stmt):List Stmt:=match s with
  | .FunctionDef _ _ b _ _ _ _ _ _ _=>b
  | _=>[]
noncomputable def Zb (s:Stmt):Scope:=match s with
  | .FunctionDef _ _ _ _ _ _ sc _ _ _=>sc
  | _=>{ kind := .function,names:=[],isGenerator:=false,isCoroutine:=false }
noncomputable abbrev CX0:CXT:=fun _ _ _ _ _ _=>False
noncomputable abbrev E0:XK:=fun _ _ _=>False
theorem Xa {X:Cx}:Xw CX0 X E0:=fun _ _ _ _ _ _ _ h=>h.elim
structure Fun (K:Frag) (x qual:Str) (st:Stmt) (f:Addr) (fd:FuncData):Prop where
  ex:∃ (oc:Value) (od:Option Addr) (kV doc pm:Value) (an:Option Addr) (cdv ct:Value) (osl:Array (Option Value)),
    fd=fnOf x qual (Zl st) (Zk st) (Zb st) .none kV doc pm an cdv ct∧K.lookup f=some ⟨oc,od, .func fd,osl⟩∧codeIn K cdv qual=true
  kp:keepIn K (.ref f)=true
section
variable {P:Program} {w:World} {K:Frag} {mg:Str→Option Value} {base:Heap}
theorem Fun.ok {x qual:Str} {st:Stmt} {f:Addr} {fd:FuncData} {N ps:List Str} {k:Nat} {sp:Sp} (F:Fun K x qual st f fd) (S:FnScope N ps (Zb st)) (len:∀ vs H Q E,sp vs H Q E→vs.length=ps.length)
    (hbody:∀ (cdv:Value) (A:Around) (outer:List Env) (s:Shared) (H:Hp) (vs:List V) (Q:VK) (E:XK),Room k (A.deeper (envOfC qual (Zb st) s.heap.objs.size f cdv))→sp vs H Q E →
      ∃ t,PSs (X1 CX0 P w K mg base N qual (Zb st) f cdv A outer s H E).nox (Zk st) t∧t { nx:=fun _ H'=>Q .non H',rt:=Q } (Zca N vs) H):FnOk P w K mg base CX0 (k+1) f fd ps sp:=by
  obtain ⟨oc,od,kV,doc,pm,an,cdv,ct,osl,rfl,lk,hcd⟩:=F.ex;refine fn_of lk hcd S len fun A outer s H vs Q E hr hsp=>?_;obtain ⟨t,h,q⟩:=hbody cdv A outer s H vs Q E hr hsp;exact ⟨t,h.nox,q⟩
theorem Fun.binds {x qual:Str} {st:Stmt} {f:Addr} {fd:FuncData} {ps:List Str} (F:Fun K x qual st f fd)
    (h:∀ (kV doc pm:Value) (an:Option Addr) (cdv ct:Value) (us:List Value),us.length=ps.length→bindArgs (fnOf x qual (Zl st) (Zk st) (Zb st) .none kV doc pm an cdv ct) ⟨us,[]⟩=pure (ps.zip us)):Zav K fd ps []:=by
  obtain ⟨oc,od,kV,doc,pm,an,cdv,ct,osl,rfl,lk,hcd⟩:=F.ex;exact .all (h kV doc pm an cdv ct)
theorem Zs {x qual:Str} {st:Stmt} {f:Addr} {oc:Value} {od an:Option Addr} {osl:Array (Option Value)} {kV doc pm cdv ct:Value} (l:K.lookup f=some ⟨oc,od, .func (fnOf x qual (Zl st) (Zk st) (Zb st) .none kV doc pm an cdv ct),osl⟩)
    (c:codeIn K cdv qual=true) (k:keepIn K (.ref f)=true):Fun K x qual st f (fnOf x qual (Zl st) (Zk st) (Zb st) .none kV doc pm an cdv ct):=⟨⟨oc,od,kV,doc,pm,an,cdv,ct,osl,rfl,l,c⟩,k⟩
end
theorem Z9 {A:Around} {k:Nat} (hr:Room k A):A.units+1<cLine:=Nat.lt_of_le_of_lt (Nat.add_le_add_left (by decide:1≤64) _) hr.units
theorem ZC {n:Nat} (h:n≤1000):n<sizeLine:=Nat.lt_of_le_of_lt h (by decide)
section
variable {X:Cx}
theorem pv (i:Nat) {x:Str} {pos:Pos} (hN:X.N[i]? = some x:=by rfl) (hv:Vis X.env.scope x:=by first | exact Or.inl rfl | exact Or.inr (Or.inl rfl) | exact Or.inr (Or.inr rfl)) (hd:(x == ("__debug__":Str))=false:=by decide)
    (hcd:(x == ("__classdict__":Str))=false:=by decide):PE X (.Name x pos) (Ze2 i):=pe_var hN hv hd hcd
end
section
variable {X:Cx}
end
theorem Yb {A B:Prop} (h:B):if false=true then A else B:=by
  rw [if_neg Bool.false_ne_true];exact h
theorem Yw {A B:Prop} (h:A):if true=true then A else B:=by
  rw [if_pos rfl];exact h
theorem Yj {c A B:Prop} [Decidable c] (h1:c→A) (h2:¬ c→B):if c then A else B:=by
  by_cases h:c
  · rw [if_pos h];exact h1 h
  · rw [if_neg h];exact h2 h
noncomputable def Zj (H H':Hp):Prop:=∀ b o,H b=some o→H' b=some o
theorem Zj.refl (H:Hp):Zj H H:=fun _ _ h=>h
theorem Zj.trans {H H1 H2:Hp} (a:Zj H H1) (b:Zj H1 H2):Zj H H2:=fun c o h=>b c o (a c o h)
theorem Zj.free {H H':Hp} (e:Zj H H') {l:Addr} (h:H' l=Option.none):H l=Option.none:=by
  cases q:H l with
  | none=>rfl
  | some o =>
    rw [e l o q] at h;cases h
theorem Zj.seq {K:Frag} {H H':Hp} {a:Addr} {xs:List V} (e:Zj H H') (h:SqL K H a xs):SqL K H' a xs:=by
  rcases h with (h | ⟨o,h⟩) | h
  · exact .inl (.inl (e _ _ h))
  · exact .inl (.inr ⟨o,e _ _ h⟩)
  · exact .inr h
section
variable {κ:Type} [DecidableEq κ]
end
open PySem PySem.Spec PyProof.Rows
structure Dn (P:Program) (w:World) (K:Frag) (mg:Str→Option Value) (base:Heap) (k:Nat) (x:Str) (ps:List Str) (sp:Sp):Prop where
  ex:∃ f fd,FnOk P w K mg base CX0 k f fd ps sp∧mg x=some (.ref f)∧keepIn K (.ref f)=true∧Zav K fd ps []
noncomputable def tFn (sp:Sp) (t:TA):TE:=fun σ H Q=>t σ H fun vs H1=>sp vs H1 Q E0
section
variable {X:Cx} {k:Nat} {ps:List Str} {sp:Sp} {x:Str} {p pos:Pos} {e:Expr} {es:List Expr} {t:TA}
theorem Zv (D:Dn X.prog X.w X.K X.mg X.base k x ps sp) (hr:Room k X.A) (ha:PA X (e::es) t) (hg:Gl X x:=by rfl) (hdb:(x == ("__debug__":Str))=false:=by decide)
    (he:starEach (e::es) X.env=(false,eval e X.env)::starEach es X.env:=by rfl) (hpl:(backTo pos (starEach es X.env)).any (·.1)=false:=by rfl) :
    PE X (.Call (.Name x p) (e::es) [] pos) (tFn sp t):=by
  obtain ⟨f,fd,F,hm,hk,hb⟩:=D.ex;have q:=ZhB (p:=p) (pos:=pos) F hr hg hm hk hb .nil Xa ha hdb he hpl;have e:ZiV sp [] E0 t=tFn sp t:=by
    funext σ H Q;show t σ H (fun vs H1=>sp (vs++[]) H1 Q E0)=t σ H fun vs H1=>sp vs H1 Q E0;simp only [append_nil]
  rw [← e];exact q
end
theorem Zi {H:Hp} {p:Addr} (h:H p=none) (o:HO):Zj H (upd H p o):=fun b u q=>by rw [Zh (ZB q h)]; exact q
open PySem PySem.Spec PyProof.Rows
noncomputable abbrev Cx.comp (X:Cx) (scope:Scope) (cl:List (Str×Addr)) (C:Addr) (N':List Str) (s₀:Shared) (H₀:Hp) (fp:List Addr) (pins:List (Addr×Obj)):Cx:=
  { X with N:=N',s₀:=s₀,H₀:=H₀,env:=compEnvC scope cl C X.env,outer:=X.stack,stack:=X.stack,ex:=fp,fn:=fun _=>false,pn:=X.pn++pins,xe:=fun _ _=>False }
noncomputable def PIfs (X:Cx) (ifs:List Expr) (t:TT):Prop:=
  ∀ (pins:List (Addr×Obj)) (s:Shared) (σ:St) (H:Hp) (Q:Bool→Hp→Prop),Inv X pins σ H s→t σ H Q →
    wpAny (model X.prog X.w) X.A (forIn ifs true fun c r=>if r=true then do let ok ← isTrue c X.env (eval c X.env); pure (ForInStep.yield ok) else pure (ForInStep.yield r)) (TP X pins σ Q) X.xe s
noncomputable def tAll:TT:=fun _ H Q=>Q true H
theorem Zai {X:Cx}:PIfs X [] tAll:=fun _ _ _ H _ I h=>wpAny_tests_nil ⟨H,I,h⟩
theorem YN {X:Cx} {c:Expr} {t:TT} (h:PT X c t):PIfs X [c] t:=fun pins s σ H Q I q=>wpAny_tests_one (h pins s σ H Q I q)
noncomputable def ZR (caps:List (Str×Nat)) (σ:St):St:=caps.map fun p=>(σ[p.2]?).join
noncomputable def tLC (caps:List (Str×Nat)) (wi:TI) (tt:TT) (te:TE):TE:=fun σ H Q=>wi σ H fun J H1=>∀ D,H1 D=none →
  ∃ W:Nat→Nat→Hp→Prop,(∃ m,W 0 m (upd H1 D (.lst [])))∧∀ i m H2,W i m H2 →
    (J.stop i H2∧Q (.ref D) H2)∨(J.go i H2∧∀ x H',J.yld i H2 x H'→tt (some x::ZR caps σ) H' fun b H3 =>
      if b=true then te (some x::ZR caps σ) H3 fun v H4=>∃ ys m',H4 D=some (.lst ys)∧ys.length<sizeLine∧m'<m∧W (i+1) m' (upd H4 D (.lst (ys++[v])))
      else ∃ m',m'<m∧W (i+1) m' H3)
section
variable {X:Cx}
theorem Zkx {scope:Scope} {cl:List (Str×Addr)} {N':List Str} {fp:List Addr} {pins:List (Addr×Obj)} {σ:St} {H:Hp} {s:Shared} (I:Inv X pins σ H s) (hf:∀ b∈fp,Zer X pins H b) (hin:∀ b∈fp,b<s.heap.objs.size)
    (hkind:scope.kind = .function) (hcl:∀ x c,cl.lookup x=some c→X.env.cells.lookup x=some c)
    (hhas:∀ x,((relabel scope X.env).names.lookup x=some .cell∨(relabel scope X.env).names.lookup x=some .free)→∃ c,cl.lookup x=some c) :
    (X.comp scope cl s.heap.objs.size N' s H fp pins).Ok where
  mod:=I.ok.mod
  kind:=by show (relabel scope X.env).kind=_; exact hkind
  glob:=I.ok.glob
  blt:=I.ok.blt
  above:=le_refl _
  inj:=fun x y c h1 h2=>I.ok.inj x y c (hcl x c h1) (hcl y c h2)
  has:=hhas
  cab:=fun x c h _=>by cases h
  hd:=I.ok.hd
  frames:=I.ok.frames
  stk := .inl rfl
  exf:=fun b hb=>⟨ne_of_lt (hin b hb),fun x c e=>(hf b hb).2.2.2.2.1 x c (hcl x c e)⟩
  bs:=I.bs
  bsz:=le_trans I.ok.bsz I.sz
  noex:=fun b o e hb=>by
    rcases (hf b hb).2.2.2.1 with z | z
    · exact I.ok.noex b o e z
    · exact absurd (lt_of_lt_of_le (Heap.lt_size (I.ok.bs b o e).1) z) (lt_irrefl _)
  exfs:=fun b hb z=>by
    rcases List.mem_cons.mp (I.stkSub b z) with e | e
    · exact (hf b hb).2.1 e
    · exact (hf b hb).2.2.1 e
  funs:=I.stack
  frf:=I.stkFree
theorem ZjT {scope:Scope} {cl:List (Str×Addr)} {x:Str} {caps:List (Str×Nat)} {fp:List Addr} {pins:List (Addr×Obj)} {σ:St} {H:Hp} {s:Shared} {h1:Heap} {t':Nat} {m:Str→Option Value} (I:Inv X pins σ H s) (hf:∀ b∈fp,Zer X pins H b) (hin:∀ b∈fp,b<s.heap.objs.size)
    (hkind:scope.kind = .function) (hcl:∀ x c,cl.lookup x=some c→X.env.cells.lookup x=some c)
    (hhas:∀ x,((relabel scope X.env).names.lookup x=some .cell∨(relabel scope X.env).names.lookup x=some .free)→∃ c,cl.lookup x=some c)
    (hcap:∀ p∈caps,X.N[p.2]? = some p.1∧X.env.scope.names.lookup p.1=some .cell∧((relabel scope X.env).names.lookup p.1=some .cell∨(relabel scope X.env).names.lookup p.1=some .free))
    (hn:h1.Ns s.heap.objs.size m) (hk:∀ b o,s.heap.get? b=some o→h1.get? b=some o) :
    Inv (X.comp scope cl s.heap.objs.size (x::caps.map (·.1)) s H fp pins) [] (none::ZR caps σ) H { s with heap:=h1,toks:=t' }:=by
  refine ⟨Zkx I hf hin hkind hcl hhas,rfl,I.bare,Un.kept hk,⟨m,hn,fun i y v e1 e2 e3=>?_⟩,fun y c e=>?_,I.hok.fresh (le_refl _),fun y c e=>I.freeC y c (hcl y c e),fun p hp=>?_,I.hok.kept hk,?_⟩
  · cases i with
    | zero=>cases e2
    | succ i =>
      have e1':(caps.map (·.1))[i]? = some y:=e1;have e2':(caps.map fun p=>(σ[p.2]?).join)[i]? = some (some v):=e2;rw [getElem?_map] at e1' e2';cases q:caps[i]? with
      | none=>rw [q] at e1'; cases e1'
      | some p =>
        rw [q] at e1' e2';have hy:p.1=y:=Option.some.inj e1';have hv:(σ[p.2]?).join=some v:=Option.some.inj e2';obtain ⟨c1,c2,c3⟩:=hcap p (mem_of_getElem? q);have hv':σ[p.2]? = some (some v):=by
          cases z:σ[p.2]? with
          | none=>rw [z] at hv; cases hv
          | some w=>rw [z] at hv; rw [← hv]; rfl
        obtain ⟨m0,_,hl0⟩:=I.loc;obtain ⟨u,ru,lk⟩:=hl0 p.2 p.1 v c1 hv' (.inr (.inl c2));subst hy;refine ⟨u,ru, .inr ⟨c3,?_⟩⟩;obtain ⟨c,hc⟩:=hhas p.1 c3;rcases lk with ⟨k,_⟩ | ⟨_,c',hc',z⟩
        · have k':X.env.scope.names.lookup p.1=some .local:=k;rw [c2] at k'; cases k'
        · have:c=c':=Option.some.inj ((hcl p.1 c hc).symm.trans hc');subst this;obtain ⟨o,ho,hd⟩:=z;exact ⟨c,hc,o,hk _ _ ho,hd⟩
  · obtain ⟨v,o,ho,hd⟩:=I.cell y c (hcl y c e);exact ⟨v,o,hk _ _ ho,hd⟩
  · have hp':p∈X.pn++pins:=by simpa using hp
    obtain ⟨a1,a2,a3,a4,a5⟩:=I.pin p hp';refine ⟨hk _ _ a1,a2,ne_of_lt (Heap.lt_size a1),fun z=>?_,a5⟩;rcases List.mem_cons.mp (I.stkSub p.1 z) with e | e
    · exact a3 e
    · exact a4 e
  · show (none::ZR caps σ).length=(x::caps.map (·.1)).length;simp [ZR]
theorem ZhG {elt iter:Expr} {x:Str} {px:Pos} {ifs:List Expr} {scope:Scope} {cl:List (Str×Addr)} {pos:Pos} {caps:List (Str×Nat)} {wi:TI} {tt:TT} {te:TE} (hc:X.calm=true)
    (hi:PI X (.Name x px) iter wi)
    (ht:∀ C s₀ H₀ fp pins,PIfs (X.comp scope cl C (x::caps.map (·.1)) s₀ H₀ fp pins) ifs tt) (he:∀ C s₀ H₀ fp pins,PE (X.comp scope cl C (x::caps.map (·.1)) s₀ H₀ fp pins) elt te)
    (hclos:closureFor scope X.env=pure cl) (hcell:∀ y∈scope.names,y.2 ≠ .cell) (hkind:scope.kind = .function) (hnames:∀ y∈scope.names,y.2 = .local→scope.names.lookup y.1=some .local) (hx:scope.names.lookup x=some .local)
    (hcl:∀ x c,cl.lookup x=some c→X.env.cells.lookup x=some c)
    (hhas:∀ x,((relabel scope X.env).names.lookup x=some .cell∨(relabel scope X.env).names.lookup x=some .free)→∃ c,cl.lookup x=some c)
    (hcap:∀ p∈caps,X.N[p.2]? = some p.1∧X.env.scope.names.lookup p.1=some .cell∧((relabel scope X.env).names.lookup p.1=some .cell∨(relabel scope X.env).names.lookup p.1=some .free))
    (hnd:(x::caps.map (·.1)).Nodup)
    (hs:∀ x,foldedSetIterable iter X.env x=pure x) {pins:List (Addr×Obj)} {s:Shared} {σ:St} {H:Hp} {Q:VK} {use:Option (Value→Sem Unit)} {QQ:Value→Shared→Prop} {pos2:Pos} (I:Inv X pins σ H s) (h:tLC caps wi tt te σ H Q)
    (fin:∀ D C H5 s6 r,Zer X pins H5 C→(∃ m,s6.heap.Ns C m)→Inv X pins σ H5 s6→Q (.ref D) H5→compPost (model X.prog X.w) X.A X.xe use QQ (.ref D) C (.ok r) s6) :
    wpAny (model X.prog X.w) X.A (comprehension (.ListComp elt [⟨.Name x px,iter,ifs,0⟩] scope pos) scope X.env pos2 (newList []) false (eval iter X.env) use) QQ X.xe s:=by
  refine wpAny_comprehension_free (use:=use) rfl hs hclos hkind hnames (thn (hi pins s σ H _ I h) fun v s1 h1=>thn h1 fun itv s2 h2=>?_);obtain ⟨it,fp,tn,J,H2,e,I2,T,st2,f2,q2⟩:=h2;subst e;refine wpAny_newObj_type ?_ (by show 0≤sizeLine; exact zero_le _);have fD:H2 s2.heap.objs.size=none:=I2.fresh;obtain ⟨W,⟨m0,w0⟩,turn⟩:=q2 s2.heap.objs.size fD;have I3:=I2.lnew (its:=[]) (ys:=[]) (t':=s2.toks) .nil (zero_le _);have lt2:∀ b∈fp,b<s2.heap.objs.size:=fun b hb=>by
    obtain ⟨o,ho,_⟩:=T.obj 0 _ st2 b hb;exact Heap.lt_size ho
  have neD:∀ b∈fp,b≠s2.heap.objs.size:=fun b hb=>ne_of_lt (lt2 b hb);have st3:tn 0 (s2.heap.push { cls := .type "list",data := .seq ([]:List Value).toArray }):=T.keep 0 _ _ st2 fun b _ o e=>Heap.get?_push_of_some _ e;have f3:∀ b∈fp,Zer X pins (upd H2 s2.heap.objs.size (.lst [])) b:=fun b hb=>⟨by rw [Zh (neD b hb)]; exact (f2 b hb).1,(f2 b hb).2⟩;generalize hs3:({ s2 with heap:=s2.heap.push { cls := .type "list",data := .seq ([]:List Value).toArray },toks:=s2.toks }:Shared)=s3 at I3;generalize hD:s2.heap.objs.size=D at *;have hs3h:s3.heap=s2.heap.push { cls := .type "list",data := .seq ([]:List Value).toArray }:=by rw [← hs3]
  have goal3:wpAny (model X.prog X.w) X.A (newFunctionEnv scope X.env.globals cl [] X.env.qual none .none (some X.env)) (fun cenv s₄ =>
      codeAny (model X.prog X.w) X.A (.compStart (.ListComp elt [⟨.Name x px,iter,ifs,0⟩] scope pos) 0 (.ref it) (.ref D) { cenv with scope:=relabel scope X.env })
        (compPost (model X.prog X.w) X.A X.xe use QQ (.ref D) cenv.locals) s₄) X.xe s3:=by
    have lt3:∀ b∈fp,b<s3.heap.objs.size:=fun b hb=>by
      rw [hs3h,Heap.size_push,hD];exact lt_succ_of_lt (lt2 b hb)
    refine wpAny_newFunctionEnv hcell (by intro y hy; simp at hy) (fun h₁ hns₁ hsb₁=>?_) hkind;have old:∀ b o,s3.heap.get? b=some o→h₁.get? b=some o:=fun b o e=>hsb₁.extBut b o (ne_of_lt (Heap.lt_size e)) (Heap.get?_push_of_some _ e);have I4:Inv (X.comp scope cl s3.heap.objs.size (x::caps.map (·.1)) s3 (upd H2 D (.lst [])) fp pins) [] (none::ZR caps σ) (upd H2 D (.lst [])) { s3 with heap:=h₁,toks:=s3.toks+0 }:=
      ZjT I3 f3 lt3 hkind hcl hhas hcap hns₁ old
    have st4:tn 0 h₁:=T.keep 0 _ _ (by rw [← hs3h] at st3; exact st3) fun b hb o e=>old b o e;have stat:∀ {H':Hp},(∀ b∈fp,H' b=none)→∀ b∈fp,Zer (X.comp scope cl s3.heap.objs.size (x::caps.map (·.1)) s3 (upd H2 D (.lst [])) fp pins) [] H' b:=fun hn b hb =>
      ⟨hn b hb,ne_of_lt (lt3 b hb),I4.ok.exfs b hb, .inl hb,fun y c e=>(f3 b hb).2.2.2.2.1 y c (hcl y c e),fun p hp=>(f3 b hb).2.2.2.2.2 p (by simpa using hp)⟩
    have loop:codeAny (model X.prog X.w) X.A (.compLoop (.ListComp elt [⟨.Name x px,iter,ifs,0⟩] scope pos) 0 (.ref it) (.ref D) (compEnvC scope cl s3.heap.objs.size X.env))
        (compPost (model X.prog X.w) X.A X.xe use QQ (.ref D) s3.heap.objs.size) { s3 with heap:=h₁,toks:=s3.toks+0 }:=by
      refine codeAny_compLoop_tests (fun n s'=>∃ i v H',Inv (X.comp scope cl s3.heap.objs.size (x::caps.map (·.1)) s3 (upd H2 D (.lst [])) fp pins) [] (v::ZR caps σ) H' s'∧tn i s'.heap∧(∀ b∈fp,H' b=none)∧W i n H') ?_ m0 ⟨0,none,_,I4,st4,fun b hb=>(f3 b hb).1,w0⟩;rintro n s5 ⟨i,v5,H5,I5,st5,fr5,w5⟩;rcases turn i n H5 w5 with ⟨stop,qn⟩ | ⟨go,step⟩
      · refine wpAny_noRaise (thn (T.done (X.comp scope cl s3.heap.objs.size (x::caps.map (·.1)) s3 (upd H2 D (.lst [])) fp pins) rfl rfl rfl hc i [] s5 _ H5 (fun _ _=>False) I5 (stat fr5) st5 stop) fun r s6 zz9=>?_);obtain ⟨hr,I6⟩:=zz9;subst hr;obtain ⟨m6,hn6,_⟩:=I6.loc;have fC:H5 s3.heap.objs.size=none:=I6.free;have u6:Un (frs X.stack) fp (upd H2 D (.lst [])) H5 s3.heap s6.heap:=I6.base;exact fin _ _ _ _ _ (I3.fpOk (le_refl _) fC) ⟨m6,hn6⟩ (I3.call' (ch:=fp) I6.os u6 I6.hok I6.bare fun b hb=>⟨(f3 b hb).2.2.2.1,(f3 b hb).2.1,(f3 b hb).2.2.2.2.1,(f3 b hb).2.2.2.2.2⟩) qn
      · refine wpAny_noRaise (thn (T.item (X.comp scope cl s3.heap.objs.size (x::caps.map (·.1)) s3 (upd H2 D (.lst [])) fp pins) rfl rfl rfl hc i [] s5 _ H5 (fun _ _=>False) I5 (stat fr5) st5 go) fun r s6 zz9=>?_);obtain ⟨u,hr,h6⟩:=zz9;subst hr;show wpAny _ _ (letOwnedTupleGo (.Name x px) (.ref it) u >>= fun _=>assign (.Name x px) (compEnvC scope cl s3.heap.objs.size X.env) u) _ _ _;refine wpAny_bind (wpAny_noRaise (thn h6 fun _ s6 zz9=>?_));obtain ⟨y,H6,I6,r6,y6,st6,fr6⟩:=zz9;have I6':=I6.pinned (stat fr6) (T.obj _ _ st6);refine wpAny_assign_Name (wpAny_noRaise (ZaD (i:=0) I6' hnd rfl (.inl (lookup_relabel_local hx)) r6 (fun s7 I7=>?_) (.inr (lookup_relabel_local hx))));have again:∀ {v8:Option V} {H8:Hp} {s8:Shared} {m':Nat},Inv (X.comp scope cl s3.heap.objs.size (x::caps.map (·.1)) s3 (upd H2 D (.lst [])) fp pins) ([]++ZdS fp s6.heap) (v8::ZR caps σ) H8 s8→W (i+1) m' H8 →
            ∃ i v H',Inv (X.comp scope cl s3.heap.objs.size (x::caps.map (·.1)) s3 (upd H2 D (.lst [])) fp pins) [] (v::ZR caps σ) H' s8∧tn i s8.heap∧(∀ b∈fp,H' b=none)∧W i m' H':=fun {v8 H8 s8 m'} I8 w8=>by
          refine ⟨i+1,v8,H8,I8.unpinned,T.keep _ _ _ st6 fun b hb o e=>(I8.pin (b,o) (mem_append_right _ (mem_append_right _ (Za2 hb e)))).1,fun b hb=>?_,w8⟩;obtain ⟨o,e,d⟩:=T.obj _ _ st6 b hb;exact (I8.pin (b,o) (mem_append_right _ (mem_append_right _ (Za2 hb e)))).2.1
        refine wpAny_noRaise (thn (ht _ _ _ _ _ _ s7 _ H6 _ I7 (step y H6 y6)) fun ok s8 zz9=>?_);obtain ⟨H8,I8,q8⟩:=zz9;cases ok with
        | false =>
          rw [if_neg Bool.false_ne_true] at q8 ⊢;obtain ⟨m',hm',w8⟩:=q8;exact ⟨m',hm',again I8 w8⟩
        | true =>
          rw [if_pos rfl] at q8 ⊢;refine wpAny_noRaise (thn (he _ _ _ _ _ _ s8 _ H8 _ I8 q8) fun z s9 zz9=>?_);obtain ⟨v9,H9,I9,r9,ys,m',hD9,hz9,hm9,w9⟩:=zz9;refine wpAny_noRaise (thn (Xi _ s9 _ H9 (.ref D) [v9] (.ref D) [z] (fun v H'=>v = .non∧H'=upd H9 D (.lst (ys++[v9]))) I9 rfl (.cons r9 .nil) ⟨D,ys,v9,rfl,rfl,hD9,hz9,rfl,rfl⟩) fun _ s10 zz9=>?_);obtain ⟨v10,H10,I10,_,_,eH⟩:=zz9;subst eH;exact ⟨m',hm9,again I10 w9⟩
    exact codeAny_compStart_list loop (T.self _ 0 _ _ _ st4 loop)
  subst hs3;subst hD;exact goal3
theorem ZaM {elt iter:Expr} {x:Str} {px:Pos} {ifs:List Expr} {scope:Scope} {cl:List (Str×Addr)} {pos:Pos} {caps:List (Str×Nat)} {wi:TI} {tt:TT} {te:TE} (hc:X.calm=true)
    (hi:PI X (.Name x px) iter wi)
    (ht:∀ C s₀ H₀ fp pins,PIfs (X.comp scope cl C (x::caps.map (·.1)) s₀ H₀ fp pins) ifs tt) (he:∀ C s₀ H₀ fp pins,PE (X.comp scope cl C (x::caps.map (·.1)) s₀ H₀ fp pins) elt te)
    (hclos:closureFor scope X.env=pure cl) (hcell:∀ y∈scope.names,y.2 ≠ .cell) (hkind:scope.kind = .function) (hnames:∀ y∈scope.names,y.2 = .local→scope.names.lookup y.1=some .local) (hx:scope.names.lookup x=some .local)
    (hcl:∀ x c,cl.lookup x=some c→X.env.cells.lookup x=some c)
    (hhas:∀ x,((relabel scope X.env).names.lookup x=some .cell∨(relabel scope X.env).names.lookup x=some .free)→∃ c,cl.lookup x=some c)
    (hcap:∀ p∈caps,X.N[p.2]? = some p.1∧X.env.scope.names.lookup p.1=some .cell∧((relabel scope X.env).names.lookup p.1=some .cell∨(relabel scope X.env).names.lookup p.1=some .free))
    (hnd:(x::caps.map (·.1)).Nodup)
    (hs:∀ x,foldedSetIterable iter X.env x=pure x:=by intro _; rfl) :
    PE X (.ListComp elt [⟨.Name x px,iter,ifs,0⟩] scope pos) (tLC caps wi tt te):=by
  intro pins s σ H Q I h;rw [eval_ListComp];refine ZhG hc hi ht he hclos hcell hkind hnames hx hcl hhas hcap hnd hs I h ?_;intro D C H5 s6 r fC ⟨m6,hn6⟩ I6 q;exact ⟨m6,hn6,fun h' hs'=>⟨.ref D,H5,I6.turned (fun b o n e=>(hs'.2 b n).trans e) fC.1 fC.2.1 fC.2.2.2.1 fC.2.2.2.2.1 fC.2.2.2.2.2,rfl,q⟩⟩
theorem ZaK {i:Nat} {y:Str} {py spos:Pos} {elt iter:Expr} {x:Str} {px:Pos} {ifs:List Expr} {scope:Scope} {cl:List (Str×Addr)} {pos:Pos} {caps:List (Str×Nat)} {wi:TI} {tt:TT} {te:TE} (hN:X.N.Nodup) (hi':X.N[i]? = some y) (hy:Loc X.env.scope y) (hc:X.calm=true)
    (hi:PI X (.Name x px) iter wi)
    (ht:∀ C s₀ H₀ fp pins,PIfs (X.comp scope cl C (x::caps.map (·.1)) s₀ H₀ fp pins) ifs tt) (he:∀ C s₀ H₀ fp pins,PE (X.comp scope cl C (x::caps.map (·.1)) s₀ H₀ fp pins) elt te)
    (hclos:closureFor scope X.env=pure cl) (hcell:∀ y∈scope.names,y.2 ≠ .cell) (hkind:scope.kind = .function) (hnames:∀ y∈scope.names,y.2 = .local→scope.names.lookup y.1=some .local) (hx:scope.names.lookup x=some .local)
    (hcl:∀ x c,cl.lookup x=some c→X.env.cells.lookup x=some c)
    (hhas:∀ x,((relabel scope X.env).names.lookup x=some .cell∨(relabel scope X.env).names.lookup x=some .free)→∃ c,cl.lookup x=some c)
    (hcap:∀ p∈caps,X.N[p.2]? = some p.1∧X.env.scope.names.lookup p.1=some .cell∧((relabel scope X.env).names.lookup p.1=some .cell∨(relabel scope X.env).names.lookup p.1=some .free))
    (hnd:(x::caps.map (·.1)).Nodup)
    (hs:∀ x,foldedSetIterable iter X.env x=pure x:=by intro _; rfl)
    (hsw:swapsWith (.ListComp elt [⟨.Name x px,iter,ifs,0⟩] scope pos) (some (.Name y py)) spos.line X.env=pure true:=by rfl)
    (hf:X.fn y=true∨X.env.scope.names.lookup y=some .local:=by first | exact .inl rfl | exact .inr rfl | assumption) :
    PS X (.Assign [.Name y py] (.ListComp elt [⟨.Name x px,iter,ifs,0⟩] scope pos) spos) (ZfX (tLC caps wi tt te) (Zc6 i)):=by
  intro pins s σ H D I h;rw [exec_Assign_Name_used _ _ _ _ hsw];refine wpAny_bind (wpAny_standAt (wpAny_bind ?_));refine wpAny_bind (thn (ZhG (use:=some (assign (.Name y py) X.env)) (QQ:=fun _ s'=>SP X pins D .next s') hc hi ht he hclos hcell hkind hnames hx hcl hhas hcap hnd hs I h ?_) fun _ s' hq=>wpAny_pure (wpAny_pure hq));intro D' C H5 s6 r fC ⟨m6,hn6⟩ I6 q;show wpAny _ X.A (assign (.Name y py) X.env (.ref D')) _ _ _;refine wpAny_assign_Name (ZeD I6 hN hi' hy (v := .ref D') rfl (fun s7 I7 zz9=>?_) hf);obtain ⟨a,sb,ha⟩:=zz9;have hne:C≠a:=by
    rcases ha with rfl | ha
    · exact fC.2.1
    · exact fun z=>fC.2.2.2.2.1 _ _ ha z.symm
  refine ⟨m6,hn6.sameBut sb hne,fun h' hs'=>?_⟩;exact ⟨_,H5,I7.turned (fun b o n e=>(hs'.2 b n).trans e) fC.1 fC.2.1 fC.2.2.2.1 fC.2.2.2.2.1 fC.2.2.2.2.2,q⟩
end
open PySem PySem.Spec PyProof.Rows
noncomputable def Fly (base:Heap) (l:List Env) (a T:Addr) (C:Value) (h:Heap):Prop:=
  base.StaysIn h∧base.get? a=none∧h.FunFrames base l∧∃ a0 oe vs oT ts,h.get? a=some oe∧(oe.cls=C∧vs[0]? = some a0)∧oe.data = .fields vs∧vs[1]? = some (.ref T)∧base.get? T=none∧T≠a∧h.get? T=some oT∧oT.data = .fields ts∧ts[3]? = some .none
noncomputable def CXR (P:Program) (w:World) (base:Heap):CXT:=fun outer H s E e s'=>∃ (a T:Addr) (C:Value) (H':Hp),e = .ref a∧s'.os=s.os∧AllBare s'.gens∧Un (frs outer) [] H H' s.heap s'.heap∧HOk P w H' s'.heap ∧
  Fly base outer a T C s'.heap∧H' a=none∧H' T=none∧s.heap.get? a=none∧s.heap.get? T=none∧E C none H'
theorem YJ.got {P:Program} {w:World} {H:Hp} {h:Heap} {a:Addr} {o:HO} (x:YJ P w H h a o):∃ ob,h.get? a=some ob:=by
  cases o with
  | lst xs=>obtain ⟨_,_,_,_,e⟩:=x; exact ⟨_,e⟩
  | tup xs=>obtain ⟨_,_,_,o,e,_⟩:=x; exact ⟨_,e⟩
  | dK kvs=>obtain ⟨_,_,_,_,o,_,_,e,_⟩:=x; exact ⟨_,e⟩
  | dT kvs=>obtain ⟨_,_,_,_,o,_,_,e,_⟩:=x; exact ⟨_,e⟩
  | set S n=>obtain ⟨o,_,_,_,e,_⟩:=x; exact ⟨_,e⟩
  | ins C dx fs=>obtain ⟨_,_,_,e,_⟩:=x; exact ⟨_,e⟩
  | own y=>obtain ⟨_,e⟩:=x; exact ⟨_,e⟩
  | xd fs=>obtain ⟨_,⟨_,_,_,e,_⟩,_⟩:=x; exact ⟨_,e⟩
  | rng lo hi=>obtain ⟨_,_,_,e⟩:=x; exact ⟨_,e⟩
  | frz ob u=>obtain ⟨e,_⟩:=x; exact ⟨_,e⟩
  | tbl ps=>exact ⟨_,(show h.get? a=some _ from x)⟩
  | met f y=>exact ⟨_,(show h.get? a=some _ from x)⟩
  | ext φ=>obtain ⟨_,⟨_,e⟩,_⟩:=x; exact ⟨_,e⟩
section
variable {X:Cx} {pins:List (Addr×Obj)} {σ:St} {H:Hp} {s:Shared}
theorem Inv.untr (I:Inv X pins σ H s) {b:Addr} (e:s.heap.get? b=none):H b=none:=by
  cases q:H b with
  | none=>rfl
  | some o =>
    obtain ⟨ob,z⟩:=(I.hok b o q).got;rw [e] at z; cases z
theorem Inv.stkNo (I:Inv X pins σ H s) {b:Addr} (h1:b≠X.env.locals) (h2:b∉X.fs):b∉frs X.stack:=fun z=>(List.mem_cons.mp (I.stkSub b z)).elim h1 h2
end
abbrev bmV:List Value:=[.type "ValueError", .type "Exception", .type "BaseException", .type "object"]
noncomputable def XCls (K:Frag) (C:Addr):Prop:=excIn K C bmV "ValueError.__new__"=true
theorem ZiK {K:Frag} {h:Heap} {C:Addr} (X:K.In h) (q:XCls K C):∃ bm N nm q bs hdct sn sub ab col dd k0 k1 k2 k3 k5 mN,h.get? C=some (excClassObj nm q C N bs bm hdct sn sub ab col dd k0 k1 k2 k3 k5 "ValueError.__new__")∧h.Ns N mN∧mN "__init__"=none∧OwnTail h bmV bm:=by
  unfold XCls excIn at q;split at q
  · rename_i dd cd sl ho;split at q
    · rename_i C' bm k0 k1 k2 k3 n k5 hm hs;simp only [and_eq_true,beq_iff_eq,Bool.not_eq_true'] at q;obtain ⟨⟨⟨⟨⟨rfl,rfl⟩,hdel⟩,ht⟩,hok⟩,hni⟩:=q;obtain ⟨nm,bs,mro,ns,qn,hd,sn,sub,ab,col,del⟩:=cd;dsimp only at hm hdel hok hni;subst hm hdel;have hsl:sl = #[k0,k1,k2,k3,some (.builtin "ValueError.__new__"),k5]:=by
        obtain ⟨l⟩:=sl;simp only at hs;rw [hs]
      subst hsl;exact ⟨bm,ns,nm,qn,bs,hd,sn,sub,ab,col,dd,k0,k1,k2,k3,k5,_,X _ _ ho, .of_isNs (PySem.W.isNs_of_in X hok),PySem.W.nsMap_none_of_in X hok hni,PySem.W.tail_of_in X ht⟩
    · cases q
  · cases q
section
variable {P:Program} {w:World} {K:Frag} {mg:Str→Option Value} {base:Heap} {N:List Str} {qual:Str} {scope:Scope} {f:Addr} {cd:Value} {A:Around} {outer:List Env} {s0:Shared} {H0:Hp} {E:XK}
theorem Xn {x:Str} {C:Addr} {e:Expr} {te:TE} {np cpos pos:Pos} (hE:XCls K C) (hm:mg x=some (.ref C)) (he:PE (X1 (CXR P w base) P w K mg base N qual scope f cd A outer s0 H0 E) e te)
    (hg:Gl (X1 (CXR P w base) P w K mg base N qual scope f cd A outer s0 H0 E) x:=by rfl)
    (hst:starEach [e] (X1 (CXR P w base) P w K mg base N qual scope f cd A outer s0 H0 E).env=[(false,eval e (X1 (CXR P w base) P w K mg base N qual scope f cd A outer s0 H0 E).env)]:=by rfl)
    (hd:(x == ("__debug__":Str))=false:=by decide) :
    PS (X1 (CXR P w base) P w K mg base N qual scope f cd A outer s0 H0 E) (.Raise (some (.Call (.Name x np) [e] [] cpos)) none pos) (fun _ σ H=>te σ H fun v H1=>([v]:List V).length=1∧E (.ref C) none H1):=by
  intro pins s σ H D I h;obtain ⟨bm,Na,nm,q,bs,hdct,sn,sub,ab,col,dd,k0,k1,k2,k3,k5,mN,hC,hN,hni,T⟩:=ZiK I.ok.mod.kin hE;refine wpAny_Raise_call_subU (C:=C) (nm:=nm) (q:=q) (N:=Na) (bs:=bs) (bm:=bm) (hdct:=hdct) (sn:=sn) (sub:=sub) (ab:=ab) (col:=col) (dd:=dd) (k0:=k0) (k1:=k1) (k2:=k2) (k3:=k3) (k5:=k5)
    PySem.F.excBase_ValueError rfl PySem.F.excBase_ValueError (mN:=mN) (T.hasType rfl) (I.ok.hd rfl) (by rw [hst]; rfl) hni (Zco I hg hm ⟨rfl,?_⟩ hd)
  have ha:=Za (X:=X1 (CXR P w base) P w K mg base N qual scope f cd A outer s0 H0 E) he Zc hst cpos pins s σ H (fun vs H1=>vs.length=1∧E (.ref C) none H1) I h;rw [hst] at ha ⊢;refine Calls.evalArgs_plain (wpAny_mono ha (fun us s2 ⟨vs,H2,I2,r2,hl2,q2⟩=>?_) fun _ _ z=>z);have hlu:us.length≤sizeLine:=by
    rw [← r2.length,hl2]
    decide
  refine ⟨rfl,hlu,I2.bk _ _ hC,hN.keeps I2.bk,T.keeps I2.bk,fun h' ex hx=>?_⟩;have hin:∀ env∈(envOfC qual scope s0.heap.objs.size f cd::outer),∀ b,env.frame=some b→b∈(envOfC qual scope s0.heap.objs.size f cd::outer).filterMap (·.frame):=fun env he b hb=>List.mem_filterMap.mpr ⟨env,he,hb⟩;have stk:s2.heap.FunFrames base (envOfC qual scope s0.heap.objs.size f cd::outer):=I2.stack;have notL:∀ b o,s0.heap.get? b=some o→b≠s0.heap.objs.size:=fun b o e=>ne_of_lt (Heap.lt_size e);have inB:∀ b o,s2.heap.get? b=some o→b∉frs (envOfC qual scope s0.heap.objs.size f cd::outer)→(hideAll s2.heap (frs (envOfC qual scope s0.heap.objs.size f cd::outer))).get? b=some o:=fun b o e n=>PySem.W.hideAll_get _ e n;show wpAny (model P w) (A.deeper (envOfC qual scope s0.heap.objs.size f cd)) (leaving (envOfC qual scope s0.heap.objs.size f cd) (.ref ex)) (fun _ s''=>CXR P w base outer H0 s0 E (.ref ex) s'') (fun e' s''=>CXR P w base outer H0 s0 E e' s'') { s2 with heap:=h' };refine wpAny_leaves_madeW (base:=hideAll s2.heap (frs (envOfC qual scope s0.heap.objs.size f cd::outer))) (h:=s2.heap) (L:=s0.heap.objs.size) I2.ok.frames rfl (fun b o z=>PySem.W.of_hideAll _ z) (PySem.W.funFrames_hide stk hin) hx fun h'' t fl tup ht U=>?_;obtain ⟨f1,f2,f3,oe,vs,Tr,oT,ts,g1,g2,g3,g4,g5,g6,g7,g8,g9⟩:=fl;have baseB:base.StaysIn (hideAll s2.heap (frs (envOfC qual scope s0.heap.objs.size f cd::outer))):=fun b o z=>inB b o (I2.bk b o z) fun hb=>by rw [(stk.mem hb).1] at z; cases z
  have U2:∀ b o,s2.heap.get? b=some o→(∀ vs,o.data ≠ .fields vs)→∃ sl,h''.get? b=some { o with slots:=sl }:=fun b o z n=>U b o (hx.keeps b o z) n;have noT:s2.heap.get? Tr=none:=by
    cases z:s2.heap.get? Tr with
    | none=>rfl
    | some o =>
      by_cases hb:Tr∈frs (envOfC qual scope s0.heap.objs.size f cd::outer)
      · obtain ⟨_,o',ho',d'⟩:=stk.mem hb;obtain ⟨sl,z2⟩:=U2 Tr o' ho' d';rw [g7] at z2;have z3:=congrArg (fun q:Option Obj=>q.map (·.data)) z2;simp only [map_some,g8] at z3;exact absurd (Option.some.inj z3).symm (d' ts)
      · rw [inB Tr o z hb] at g5;cases g5
  have up:∀ b o,s0.heap.get? b=some o→s2.heap.get? b≠none:=fun b o z n=>by
    obtain ⟨o',z'⟩:=I2.base.there b o z (fun q=>absurd (show b∈([]:List Addr) from q) (by simp));rw [n] at z'; cases z'
  have no0:∀ b,s2.heap.get? b=none→s0.heap.get? b=none:=fun b n=>by
    cases z:s0.heap.get? b with
    | none=>rfl
    | some o=>exact absurd n (up b o z)
  have nex:∀ b,b∉(X1 (CXR P w base) P w K mg base N qual scope f cd A outer s0 H0 E).ex:=fun b q=>absurd (show b∈([]:List Addr) from q) (by simp);have notIn:∀ b o,s0.heap.get? b=some o→b∉frs outer→b∉frs (envOfC qual scope s0.heap.objs.size f cd::outer):=fun b o z n=>I2.stkNo (notL b o z) n;refine ⟨ex,Tr, .ref C,H2,rfl,I2.os,I2.bare,⟨fun b o z n hb _=>?_,fun b o z n hb _=>?_,fun b o z n _=>I2.base.free b o z n (nex b),fun b o z _=>?_,I2.base.tups,I2.base.frzs,I2.base.tbls⟩,fun b u z=>?_,⟨fun b o z=>f1 b o (baseB b o z),?_,PySem.W.funFrames_base baseB f3, .ref t,oe,vs,oT,ts,g1,g2,g3,g4,?_,g6,g7,g8,g9⟩,I2.untr hx.new,I2.untr noT,no0 _ hx.new,no0 _ noT,q2⟩
  · exact f1 b o (inB b o (I2.base.keep b o z n hb (nex b)) (notIn b o z hb))
  · obtain ⟨sl,z1⟩:=I2.base.slot b o z n hb (nex b);obtain ⟨_,o',ho',d'⟩:=I2.ok.funs.mem hb;have:o'=o:=by rw [show (X1 (CXR P w base) P w K mg base N qual scope f cd A outer s0 H0 E).s₀.heap.get? b=some o from z] at ho'; exact (Option.some.inj ho').symm
    subst this;obtain ⟨sl',z2⟩:=U2 b _ z1 (fun vs=>d' vs);exact ⟨sl',z2⟩
  · by_cases hb:b∈frs (envOfC qual scope s0.heap.objs.size f cd::outer)
    · obtain ⟨_,o',ho',d'⟩:=stk.mem hb;obtain ⟨sl,z2⟩:=U2 b o' ho' d';exact ⟨_,z2⟩
    · obtain ⟨o',z'⟩:=I2.base.there b o z (nex b);exact ⟨o',f1 b o' (inB b o' z' hb)⟩
  · refine (I2.hok b u z).stay (fun c v hc q=>?_) (fun _ q=>q) fun _ _ q=>q;have tr:∀ c v,H2 c=some v→c∉frs (envOfC qual scope s0.heap.objs.size f cd::outer):=fun c v q n=>by rw [I2.stkFree c n] at q; cases q
    rcases hc with hc | hc
    · rw [hc] at q ⊢;exact f1 b v (inB b v q (tr b u z))
    · exact f1 c v (inB c v q (tr c _ hc))
  · cases z:base.get? ex with
    | none=>rfl
    | some o =>
      have:=I2.bk ex o z;rw [hx.new] at this; cases this
  · cases z:base.get? Tr with
    | none=>rfl
    | some o =>
      have:=I2.bk Tr o z;rw [noT] at this; cases this
end
open PySem PySem.Spec PyProof.Rows
noncomputable def XP (X:Cx) (pins:List (Addr×Obj)) (σ:St) (R:Value→Hp→Prop) (e:Value) (s':Shared):Prop:=∃ (a T:Addr) (C:Value) (H':Hp),e = .ref a∧Inv X pins σ H' s'∧Fly X.base X.stack a T C s'.heap∧H' a=none∧H' T=none ∧
  X.s₀.heap.get? a=none∧X.s₀.heap.get? T=none∧(∀ p∈X.pn++pins,p.1≠a∧p.1≠T)∧a≠X.env.locals∧R C H'
structure Dx (P:Program) (w:World) (K:Frag) (mg:Str→Option Value) (base:Heap) (k:Nat) (x:Str) (ps:List Str) (sp:Sp):Prop where
  ex:∃ f fd,FnOk P w K mg base (CXR P w base) k f fd ps sp∧mg x=some (.ref f)∧keepIn K (.ref f)=true∧Zav K fd ps []
section
variable {X:Cx} {k:Nat} {ps:List Str} {sp:Sp} {x:Str} {p pos:Pos} {e:Expr} {es:List Expr} {t:TA}
end
section
variable {X:Cx} {pins:List (Addr×Obj)} {σ:St} {H:Hp} {s:Shared}
end
open PySem PySem.Spec PyProof.Rows PySem.W
structure XAt (K:Frag) (C:Addr):Prop where
  x:XCls K C
  ga:findIn K (.ref C) "__getattribute__"=some (some (.builtin "BaseException.__getattribute__"))
  hk:findIn K (.ref C) "__getattr__"=some none
  ca:findIn K (.ref C) "__class__"=some (some (.builtin "object.__class__"))
  mo:subIn K (.ref C) (.type "object")=some true
  sb:subIn K (.ref C) (.type "BaseException")=some true
section
variable {prog:Program} {w:World} {A:Around} {E:Value→Shared→Prop} {h:Heap} {g:Array GenState} {d:Drawn} {t:Nat} {os:OsState} {a C:Addr} {oe:Obj} {K:Frag} {vs:Array Value}
end
open PySem PySem.Spec PyProof.Rows PySem.W
section
variable {X:Cx} {pins:List (Addr×Obj)} {σ:St} {H:Hp} {s:Shared}
end
theorem Fun.okX {P:Program} {w:World} {K:Frag} {mg:Str→Option Value} {base:Heap} {x qual:Str} {st:Stmt} {f:Addr} {fd:FuncData} {N ps:List Str} {k:Nat} {sp:Sp} (F:Fun K x qual st f fd) (S:FnScope N ps (Zb st)) (len:∀ vs H Q E,sp vs H Q E→vs.length=ps.length)
    (hbody:∀ (cdv:Value) (A:Around) (outer:List Env) (s:Shared) (H:Hp) (vs:List V) (Q:VK) (E:XK),Room k (A.deeper (envOfC qual (Zb st) s.heap.objs.size f cdv))→sp vs H Q E →
      ∃ t,PSs (X1 (CXR P w base) P w K mg base N qual (Zb st) f cdv A outer s H E) (Zk st) t∧t { nx:=fun _ H'=>Q .non H',rt:=Q } (Zca N vs) H):FnOk P w K mg base (CXR P w base) (k+1) f fd ps sp:=by
  obtain ⟨oc,od,kV,doc,pm,an,cdv,ct,osl,rfl,lk,hcd⟩:=F.ex;exact fn_of lk hcd S len fun A outer s H vs Q E hr hsp=>hbody cdv A outer s H vs Q E hr hsp
open PySem PySem.Spec PyProof.Rows
mutual
inductive Rds (K:Frag) (H:Hp):V→PyData→Prop
  | non:Rds K H .non .none
  | bl (b:Bool):Rds K H (.bl b) (.bool b)
  | int (i:Int):Rds K H (.int i) (.int i)
  | str (x:Str):Rds K H (.str x) (.str x)
  | list {a:Addr} {xs:List V} {ds:List PyData}:SqL K H a xs→RdsAll K H xs ds→Rds K H (.ref a) (.list ds)
  | tuple {a:Addr} {xs:List V} {ds:List PyData}:SqT K H a xs→RdsAll K H xs ds→Rds K H (.ref a) (.tuple ds)
inductive RdsAll (K:Frag) (H:Hp):List V→List PyData→Prop
  | nil:RdsAll K H [] []
  | cons {x:V} {xs:List V} {d:PyData} {ds:List PyData}:Rds K H x d→RdsAll K H xs ds→RdsAll K H (x::xs) (d::ds)
end
section
variable {X:Cx} {pins:List (Addr×Obj)} {σ:St} {H:Hp} {s:Shared}
mutual
theorem Rds.reads (I:Inv X pins σ H s):∀ {x:V} {d:PyData} {u:Value},Rds X.K H x d→ZG x u→∃ as,Reads s.heap u d as
  | _,_,_, .non,r=>by
    cases r;exact ⟨[], .none⟩
  | _,_,_, .bl b,r=>by
    cases r;exact ⟨[], .bool b⟩
  | _,_,_, .int i,r=>by
    obtain ⟨t,rfl⟩:=r;exact ⟨[], .int i t⟩
  | _,_,_, .str i,r=>by
    obtain ⟨t,rfl⟩:=r;exact ⟨[], .str i t⟩
  | _,_,_, .list (a:=a) h q,r=>by
    cases r;obtain ⟨its,r',pl,_⟩:=I.list h;obtain ⟨o,ho,hc,n,hd⟩:=pl.isList;obtain ⟨as,z⟩:=RdsAll.reads I q r';exact ⟨a::as, .list ho hc hd z⟩
  | _,_,_, .tuple (a:=a) h q,r=>by
    cases r;obtain ⟨its,r',pl,_⟩:=I.tuple h;obtain ⟨o,ho,hc,n,hd⟩:=pl;obtain ⟨as,z⟩:=RdsAll.reads I q r';exact ⟨as, .tuple ho hc hd z⟩
theorem RdsAll.reads (I:Inv X pins σ H s):∀ {xs:List V} {ds:List PyData} {us:List Value},RdsAll X.K H xs ds→ZF xs us→∃ as,ReadsAll s.heap us ds as
  | _,_,_, .nil, .nil=>⟨[], .nil⟩
  | _,_,_, .cons h t, .cons r rs=>by
    obtain ⟨as,z⟩:=Rds.reads I h r;obtain ⟨bs,y⟩:=RdsAll.reads I t rs;exact ⟨as++bs, .cons z y⟩
end
noncomputable def rEqD (K:Frag) (ng:Bool):R2:=fun x y H Q=>∃ da db,Rds K H x da∧Rds K H y db∧SeqAt.shaped da=true∧SeqAt.shaped db=true∧Q (.bl (if ng then !PyData.eqv da db else PyData.eqv da db)) H
theorem op_eqD {X:Cx} (hu:X.A.units+64<cLine):OpR X (compareOp .Eq) (rEqD X.K false):=by
  intro pins s σ H x y v u Q I rx ry h;obtain ⟨da,db,ha,hb,sa,sb,q⟩:=h;obtain ⟨as,z⟩:=ha.reads I rx;obtain ⟨bs,z'⟩:=hb.reads I ry;exact SeqAt.compareEq_shaped z z' sa sb hu ⟨.bl _,H,I,rfl,q⟩
theorem ZgU {ss:List Str} {us:List Value} (h1:us.length=ss.length) (h2:∀ (j:Nat) (u:Value),us[j]? = some u→∃ x t,ss[j]? = some x∧u = .str x t):StrsAre us ss:=by
  induction us generalizing ss with
  | nil =>
    cases ss with
    | nil=>exact .nil
    | cons _ _=>simp at h1
  | cons u us ih =>
    cases ss with
    | nil=>simp at h1
    | cons x ss =>
      obtain ⟨y,t,e,rfl⟩:=h2 0 u rfl;cases e;exact .cons _ _ (ih (by simpa using h1) fun j u e=>h2 (j+1) u (by simpa using e))
theorem ZhY {us:List Value} {ss:List Str} (h:StrsAre us ss):ZF (ss.map V.str) us:=by
  induction h with
  | nil=>exact .nil
  | cons y t _ ih=>exact .cons ⟨t,rfl⟩ ih
theorem Zjr:∀ {kvs:List (Key×V)} {vs:List (Key×Value)} {i:Nat} {k:Key} {x:Value},KV kvs vs→vs[i]? = some (k,x)→∃ y,kvs[i]? = some (k,y)
  | _,_,_,_,_, .nil,e=>by simp at e
  | _,_,0,_,_, .cons (a:=p) r _,e=>by
    obtain ⟨e1,_⟩:=r;simp only [List.getElem?_cons_zero,Option.some.injEq] at e ⊢;subst e;exact ⟨p.2,Prod.ext e1 rfl⟩
  | _,_,i+1,_,_, .cons _ t,e=>by
    simp only [List.getElem?_cons_succ] at e ⊢;exact Zjr t e
end
end L2
set_option Elab.async false
set_option linter.all false
set_option maxRecDepth 100000
namespace L2
open PySem PySem.Spec PyProof.Rows
section
variable {X:Cx} {pins:List (Addr×Obj)} {σ:List (Option V)} {H H':Hp} {s:Shared} {h':Heap}
end
section
variable {X:Cx}
end
end L2
set_option Elab.async false
set_option linter.all false
set_option maxRecDepth 100000
namespace L2
open PySem PySem.Spec PyProof.Rows
section
variable {X:Cx}
end
end L2
set_option Elab.async false
set_option linter.all false
set_option maxRecDepth 100000
namespace L2
open PySem PySem.Spec PyProof.Rows
section
variable {X:Cx}
theorem ZiY:SlR X (fun x lo hi H Q=>∃ z,x = .str z∧z.length≤sizeLine∧Q (.str (Txt.slice z lo hi)) H):=by
  intro pins s σ H x v vl vu lo hi sl Q I rx hs pl pu h;obtain ⟨z,rfl,hz,q⟩:=h;obtain ⟨t,rfl⟩:=rx;refine ⟨"str",_,F.slot_str_getitem.lookup,typeIs_str _ _ _,?_⟩;cases pl with
  | none =>
    cases pu with
    | none=>exact wpAny_getItem_str_slice (l:=none) (u:=none) (st:=none) hs rfl (post_val_or_str ⟨le_trans (Txt.slice_le z _ _) hz,fun t' k=>⟨.str _,H,I.tok _,⟨t',rfl⟩,q⟩⟩)
    | int j uj=>exact wpAny_getItem_str_slice (l:=none) (u:=some (j,uj)) (st:=none) hs rfl (post_val_or_str ⟨le_trans (Txt.slice_le z _ _) hz,fun t' k=>⟨.str _,H,I.tok _,⟨t',rfl⟩,q⟩⟩)
  | int i ui =>
    cases pu with
    | none=>exact wpAny_getItem_str_slice (l:=some (i,ui)) (u:=none) (st:=none) hs rfl (post_val_or_str ⟨le_trans (Txt.slice_le z _ _) hz,fun t' k=>⟨.str _,H,I.tok _,⟨t',rfl⟩,q⟩⟩)
    | int j uj=>exact wpAny_getItem_str_slice (l:=some (i,ui)) (u:=some (j,uj)) (st:=none) hs rfl (post_val_or_str ⟨le_trans (Txt.slice_le z _ _) hz,fun t' k=>⟨.str _,H,I.tok _,⟨t',rfl⟩,q⟩⟩)
end
end L2
set_option Elab.async false
set_option linter.all false
namespace Sh
noncomputable def G (a b:Int):Int:=(Nat.gcd a.toNat b.toNat:Int)
structure Low (n d q r:Int):Prop where
  q0:0≤q
  r0:0<r
  g:G q r=1
  eq:q * d=n * r
theorem G_pos {a b:Int} (hb:0<b):0<G a b:=by
  unfold G;have:=Nat.gcd_pos_of_pos_right a.toNat (show 0<b.toNat by omega);omega
theorem low {n d:Int} (hn:0≤n) (hd:0<d):Low n d (n / G n d) (d / G n d):=by
  have g0:=G_pos (a:=n) hd;have e1:n / G n d=((n.toNat / Nat.gcd n.toNat d.toNat:Nat):Int):=by
    conv=>lhs; rw [show n=(n.toNat:Int) by omega]
    unfold G;rw [toNat_natCast];rfl
  have e2:d / G n d=((d.toNat / Nat.gcd n.toNat d.toNat:Nat):Int):=by
    conv=>lhs; lhs; rw [show d=(d.toNat:Int) by omega]
    unfold G;rfl
  have p:0<Nat.gcd n.toNat d.toNat:=Nat.gcd_pos_of_pos_right n.toNat (show 0<d.toNat by omega);have dv1:=Nat.gcd_dvd_left n.toNat d.toNat;have dv2:=Nat.gcd_dvd_right n.toNat d.toNat;rw [e1,e2];refine ⟨Int.natCast_nonneg _,?_,?_,?_⟩
  · have:=Nat.div_pos (Nat.le_of_dvd (show 0<d.toNat by omega) dv2) p;omega
  · unfold G;rw [toNat_natCast,toNat_natCast,Nat.gcd_div dv1 dv2,Nat.div_self p];rfl
  · have:n.toNat / Nat.gcd n.toNat d.toNat * d.toNat=n.toNat * (d.toNat / Nat.gcd n.toNat d.toNat):=by
      obtain ⟨x,hx⟩:=dv1;obtain ⟨y,hy⟩:=dv2;have x1:n.toNat / Nat.gcd n.toNat d.toNat=x:=by
        conv=>lhs; lhs; rw [hx]
        exact Nat.mul_div_cancel_left x p
      have y1:d.toNat / Nat.gcd n.toNat d.toNat=y:=by
        conv=>lhs; lhs; rw [hy]
        exact Nat.mul_div_cancel_left y p
      rw [x1,y1]
      conv=>lhs; rw [hy]
      conv=>rhs; rw [hx]
      rw [Nat.mul_left_comm,Nat.mul_assoc]
    have h:=congrArg (fun z:Nat=>(z:Int)) this;have h1:(n.toNat:Int)=n:=by omega
    have h2:(d.toNat:Int)=d:=by omega
    simp only [Int.natCast_mul,h1,h2] at h;exact h
end Sh
namespace Sh
end Sh
namespace L2
open PySem PySem.Spec PyProof.Rows
noncomputable def ltS (a b:Str):Prop:=a.cps.toList<b.cps.toList
instance (a b:Str):Decidable (ltS a b):=inferInstanceAs (Decidable (a.cps.toList<b.cps.toList))
theorem Zhb (a:Str):¬ ltS a a:=List.lt_irrefl _
theorem Zio {a b c:Str} (h:ltS a b) (h':ltS b c):ltS a c:=List.lt_trans h h'
theorem JK {a b:Str} (h:a.cps.toList=b.cps.toList):a=b:=by
  cases a; cases b;simp at h;rw [h]
theorem Zir {a b c:Str} (h:¬ ltS b a) (h':¬ ltS c b):¬ ltS c a:=by
  have q:a.cps.toList≤b.cps.toList:=h;have q':b.cps.toList≤c.cps.toList:=h';exact List.le_trans q q'
theorem ltS_of {a b:Str} (h:¬ ltS b a) (hne:a≠b):ltS a b:=by
  by_cases z:ltS a b
  · exact z
  · have q:a.cps.toList≤b.cps.toList:=h;have q':b.cps.toList≤a.cps.toList:=z;exact absurd (JK (List.le_antisymm q q')) hne
theorem rise {p:Str} {l:List Str} (h:risingS p l=true):(p::l).Pairwise (fun a b=>¬ ltS b a):=by
  induction l generalizing p with
  | nil=>simp
  | cons x r ih =>
    have h':(!ltCps x.cps.toList p.cps.toList && risingS x r)=true:=h;rw [and_eq_true] at h';have h1:¬ ltS x p:=by
      have:=h'.1;rw [ltCps_eq] at this;simpa [ltS] using this
    have q:=ih h'.2;refine List.pairwise_cons.mpr ⟨fun y hy=>?_,q⟩;rcases List.mem_cons.mp hy with rfl | hy
    · exact h1
    · exact Zir h1 ((List.pairwise_cons.mp q).1 y hy)
theorem Zf8 {l:List Str} (h:sortedS l=true) (nd:l.Nodup):l.Pairwise ltS:=by
  have q:l.Pairwise (fun a b=>¬ ltS b a):=by
    cases l with
    | nil=>exact .nil
    | cons x r=>exact rise h
  exact (q.and nd).imp fun z=>ltS_of z.1 z.2
noncomputable abbrev En:=Str×Int×Int
noncomputable abbrev Ws:=List (En×Addr)
noncomputable def keys (es:List En):List Str:=es.map (·.1)
noncomputable def LedW (H:Hp) (l:Addr) (ws:Ws):Prop:=H l=some (.lst (ws.map fun w=>V.ref w.2))∧∀ w∈ws,H w.2=some (.tup [.str w.1.1, .int w.1.2.1, .int w.1.2.2])
noncomputable def Led (H:Hp) (l:Addr) (es:List En):Prop:=∃ ws:Ws,ws.map (·.1)=es∧LedW H l ws
noncomputable def DicW (K:Frag) (H:Hp) (d:Addr) (ws:Ws):Prop:=H d=some (.dK (ws.map fun w=>((Sum.inr w.1.1:Key),V.ref w.2)))∧∀ w∈ws,SqT K H w.2 [.int w.1.2.1, .int w.1.2.2]
noncomputable def Dic (K:Frag) (H:Hp) (d:Addr) (es:List En):Prop:=∃ ws:Ws,ws.map (·.1)=es∧DicW K H d ws
noncomputable def fnd (es:List En) (k:Str):Option En:=es.find? fun e=>decide (e.1=k)
noncomputable def look (es:List En) (k:Str):Int×Int:=match fnd es k with | some e=>e.2 | none=>(0,1)
noncomputable def putE (es:List En) (k:Str) (n d:Int):List En:=if (es.any fun e=>decide (e.1=k))=true then es.map (fun e=>if e.1=k then (k,n,d) else e) else es++[(k,n,d)]
noncomputable def putW (ws:Ws) (k:Str) (w':En×Addr):Ws:=if (ws.any fun w=>decide (w.1.1=k))=true then ws.map (fun w=>if w.1.1=k then w' else w) else ws++[w']
noncomputable def Can (es es':List En):Prop:=es'.Pairwise (fun a b=>ltS a.1 b.1)∧(∀ e,e∈es'↔e∈es∧e.2.1≠0)∧es'.length≤es.length
end L2
set_option Elab.async false
set_option linter.all false
set_option maxRecDepth 100000
namespace L2
open PySem PySem.Spec PyProof.Rows
theorem ZcD {α:Type} {l:List α} {i:Nat} (hi:i<l.length):l.take i++[l[i]]=l.take (i+1):=by
  rw [take_succ,getElem?_eq_getElem hi];rfl
theorem ZX {G H:Hp} {D:Addr} {u:HO} (sm:Zj G H) (hD:G D=none):Zj G (upd H D u):=fun b x e=>by
  rw [Zh (ZB e hD)];exact sm b x e
end L2
set_option Elab.async false
set_option linter.all false
set_option maxRecDepth 100000
namespace L2
open PySem PySem.Spec PyProof.Rows
section
variable {P:Program} {w:World} {K:Frag} {mg:Str→Option Value} {base:Heap} {N:List Str} {qual:Str} {scope:Scope} {f:Addr} {cd:Value} {A:Around} {outer:List Env} {s0:Shared} {H0:Hp} {E:XK}
theorem XY:Xw (CXR P w base) (X1 (CXR P w base) P w K mg base N qual scope f cd A outer s0 H0 E) E:=by
  intro pins σ H s e s2 I h;obtain ⟨ex,T0,C,H2,rfl,os,bare,un,hok,fly,Ha,HT,ha,hT,q2⟩:=h;have I2:Inv (X1 (CXR P w base) P w K mg base N qual scope f cd A outer s0 H0 E) pins σ H2 s2:=I.call' (ch:=[]) os un hok bare fun b z=>absurd z (by simp);obtain ⟨y1,y2,y3,a0,oe0,vs0,oT0,ts0,z1,z2,z3,z4,z5,z6,z7,z8,z9⟩:=fly
  let fr:=frs (envOfC qual scope s0.heap.objs.size f cd::outer)
  let B:=hideAll s2.heap (ex::T0::fr)
  have hin:∀ env∈(envOfC qual scope s0.heap.objs.size f cd::outer),∀ b,env.frame=some b→b∈ex::T0::fr:=fun env he b hb=>mem_cons_of_mem _ (mem_cons_of_mem _ (List.mem_filterMap.mpr ⟨env,he,hb⟩));have stk:s2.heap.FunFrames base (envOfC qual scope s0.heap.objs.size f cd::outer):=I2.stack;have notL:∀ b o,s0.heap.get? b=some o→b≠s0.heap.objs.size:=fun b o e=>ne_of_lt (Heap.lt_size e);have inB:∀ b o,s2.heap.get? b=some o→b∉ex::T0::fr→B.get? b=some o:=fun b o e n=>PySem.W.hideAll_get _ e n;have hid:∀ b,b∈ex::T0::fr→B.get? b=none:=fun b hb=>PySem.W.hideAll_none _ hb;have up:∀ b o,s0.heap.get? b=some o→∃ o',s.heap.get? b=some o':=fun b o z=>I.base.there b o z (fun q=>absurd (show b∈([]:List Addr) from q) (by simp));have no0:∀ b,s.heap.get? b=none→s0.heap.get? b=none:=fun b n=>by
    cases z:s0.heap.get? b with
    | none=>rfl
    | some o =>
      obtain ⟨o',z'⟩:=up b o z;rw [n] at z'; cases z'
  have no2:∀ b,s2.heap.get? b=none→s0.heap.get? b=none:=fun b n=>by
    cases z:s0.heap.get? b with
    | none=>rfl
    | some o =>
      obtain ⟨o',z'⟩:=I2.base.there b o z (fun q=>absurd (show b∈([]:List Addr) from q) (by simp));rw [n] at z'; cases z'
  have nex:∀ b,b∉(X1 (CXR P w base) P w K mg base N qual scope f cd A outer s0 H0 E).ex:=fun b q=>absurd (show b∈([]:List Addr) from q) (by simp);have notIn:∀ b o,s0.heap.get? b=some o→b∉frs outer→b∉ex::T0::fr:=fun b o z n hb=>by
    rcases List.mem_cons.mp hb with r | hb
    · rw [r,no0 _ ha] at z; cases z
    · rcases List.mem_cons.mp hb with r | hb
      · rw [r,no0 _ hT] at z; cases z
      · exact I2.stkNo (notL b o z) n hb
  show wpAny (model P w) (A.deeper (envOfC qual scope s0.heap.objs.size f cd)) (leaving (envOfC qual scope s0.heap.objs.size f cd) (.ref ex)) (fun _ s''=>CXR P w base outer H0 s0 E (.ref ex) s'') (fun e' s''=>CXR P w base outer H0 s0 E e' s'') s2;refine wpAny_leaves_onW (base:=B) (L:=s0.heap.objs.size) (cls:=C) (a0:=a0) I2.ok.frames rfl ⟨fun b o z=>PySem.W.of_hideAll _ z,hid ex (mem_cons_self ..),PySem.W.funFrames_hide stk hin,oe0,vs0,T0,oT0,ts0,z1,z2,z3,z4,hid T0 (mem_cons_of_mem _ (mem_cons_self ..)),z6,z7,z8,z9⟩ fun h'' fl U=>?_;obtain ⟨f1,f2,f3,oe,vs,Tr,oT,ts,g1,g2,g3,g4,g5,g6,g7,g8,g9⟩:=fl;have U2:∀ b o,s2.heap.get? b=some o→(∀ vs,o.data ≠ .fields vs)→∃ sl,h''.get? b=some { o with slots:=sl }:=fun b o z n=>U b o z n;have baseB:base.StaysIn B:=fun b o z=>inB b o (I2.bk b o z) fun hb=>by
    rcases List.mem_cons.mp hb with r | hb
    · rw [r,y2] at z; cases z
    · rcases List.mem_cons.mp hb with r | hb
      · rw [r,z5] at z; cases z
      · rw [(stk.mem hb).1] at z; cases z
  have trN:H2 Tr=none∧s0.heap.get? Tr=none:=by
    cases z:s2.heap.get? Tr with
    | none=>exact ⟨I2.untr z,no2 _ z⟩
    | some o =>
      by_cases hb:Tr∈ex::T0::fr
      · rcases List.mem_cons.mp hb with r | hb
        · exact absurd r g6
        · rcases List.mem_cons.mp hb with r | hb
          · rw [r]; exact ⟨HT,no0 _ hT⟩
          · obtain ⟨_,o',ho',d'⟩:=stk.mem hb;obtain ⟨sl,z2'⟩:=U2 Tr o' ho' d';rw [g7] at z2';have z3':=congrArg (fun q:Option Obj=>q.map (·.data)) z2';simp only [map_some,g8] at z3';exact absurd (Option.some.inj z3').symm (d' ts)
      · rw [inB Tr o z hb] at g5;cases g5
  refine ⟨ex,Tr,C,H2,rfl,I2.os,I2.bare,⟨fun b o z n hb _=>?_,fun b o z n hb _=>?_,fun b o z n _=>I2.base.free b o z n (nex b),fun b o z _=>?_,I2.base.tups,I2.base.frzs,I2.base.tbls⟩,fun b u z=>?_,⟨fun b o z=>f1 b o (baseB b o z),y2,PySem.W.funFrames_base baseB f3,a0,oe,vs,oT,ts,g1,g2,g3,g4,?_,g6,g7,g8,g9⟩,Ha,trN.1,no0 _ ha,trN.2,q2⟩
  · exact f1 b o (inB b o (I2.base.keep b o z n hb (nex b)) (notIn b o z hb))
  · obtain ⟨sl,w1⟩:=I2.base.slot b o z n hb (nex b);obtain ⟨_,o',ho',d'⟩:=I2.ok.funs.mem hb;have:o'=o:=by rw [show (X1 (CXR P w base) P w K mg base N qual scope f cd A outer s0 H0 E).s₀.heap.get? b=some o from z] at ho'; exact (Option.some.inj ho').symm
    subst this;obtain ⟨sl',w2⟩:=U2 b _ w1 (fun vs=>d' vs);exact ⟨sl',w2⟩
  · by_cases hb:b∈fr
    · obtain ⟨_,o',ho',d'⟩:=stk.mem hb;obtain ⟨sl,w2⟩:=U2 b o' ho' d';exact ⟨_,w2⟩
    · obtain ⟨o',z'⟩:=I2.base.there b o z (nex b);refine ⟨o',f1 b o' (inB b o' z' fun hb'=>?_)⟩;rcases List.mem_cons.mp hb' with r | hb'
      · rw [r,no0 _ ha] at z; cases z
      · rcases List.mem_cons.mp hb' with r | hb'
        · rw [r,no0 _ hT] at z; cases z
        · exact hb hb'
  · refine (I2.hok b u z).stay (fun c v hc q=>?_) (fun _ q=>q) fun _ _ q=>q;have tr:∀ c v,H2 c=some v→c∉ex::T0::fr:=fun c v q n=>by
      rcases List.mem_cons.mp n with r | n
      · rw [r,Ha] at q; cases q
      · rcases List.mem_cons.mp n with r | n
        · rw [r,HT] at q; cases q
        · rw [I2.stkFree c n] at q; cases q
    rcases hc with hc | hc
    · rw [hc] at q ⊢;exact f1 b v (inB b v q (tr b u z))
    · exact f1 c v (inB c v q (tr c _ hc))
  · cases z:base.get? Tr with
    | none=>rfl
    | some o =>
      rw [baseB Tr o z] at g5;cases g5
end
noncomputable def tFnX (sp:Sp) (E:XK) (t:TA):TE:=fun σ H Q=>t σ H fun vs H1=>sp vs H1 Q E
theorem JI {X:Cx} {k:Nat} {x:Str} {ps:List Str} {sp:Sp} {E:XK} {p pos:Pos} {e:Expr} {es:List Expr} {t:TA} (hx:Xw (CXR X.prog X.w X.base) X E) (D:Dx X.prog X.w X.K X.mg X.base k x ps sp) (hr:Room k X.A) (ha:PA X (e::es) t) (hg:Gl X x:=by rfl) (hdb:(x == ("__debug__":Str))=false:=by decide)
    (he:starEach (e::es) X.env=(false,eval e X.env)::starEach es X.env:=by rfl) (hpl:(backTo pos (starEach es X.env)).any (·.1)=false:=by rfl) :
    PE X (.Call (.Name x p) (e::es) [] pos) (tFnX sp E t):=by
  obtain ⟨f,fd,F,hm,hk,hb⟩:=D.ex;have q:=ZhB (p:=p) (pos:=pos) F hr hg hm hk hb .nil hx ha hdb he hpl;have e:ZiV sp [] E t=tFnX sp E t:=by
    funext σ H Q;show t σ H (fun vs H1=>sp (vs++[]) H1 Q E)=t σ H fun vs H1=>sp vs H1 Q E;simp only [append_nil]
  rw [← e];exact q
end L2
set_option Elab.async false
set_option linter.all false
set_option maxRecDepth 100000
namespace L2
open PySem PySem.Spec PyProof.Rows
theorem relK {k:Key} {u:Value} (h:Zc5 k u=true):ZG (kV k) u:=by
  rcases Z7 h with ⟨i,t,e,rfl⟩ | ⟨x,t,e,rfl⟩
  · subst e; exact ⟨t,rfl⟩
  · subst e; exact ⟨t,rfl⟩
theorem ZjF {X:Cx} {pins:List (Addr×Obj)} {σ:St} {H:Hp} {s:Shared} {d:Addr} {o:Obj} {kvs:List (Key×V)} {es:Array DictEntry} {ep:Nat} (I:Inv X pins σ H s) (h:H d=some (.frz o (.dK kvs))) (ho:o.data = .dict es ep) :
    ∃ vs,KV kvs vs∧s.heap.DictAt (ZJ X.prog X.w) d vs ep:=by
  obtain ⟨g,_,_,vs,rel,dd⟩:=(show YJ X.prog X.w H s.heap d (.frz o (.dK kvs)) from I.hok d _ h);obtain ⟨ep',hat⟩:=dd.dictAt;obtain ⟨o',es',h1,h2,h3,h4⟩:=id hat;rw [g] at h1;cases h1;rw [ho] at h3;cases h3;exact ⟨vs,rel,hat⟩
noncomputable def Itd (d:Addr) (o:Obj) (kvs:List (Key×V)):It:=
  ⟨fun i H=>H d=some (.frz o (.dK kvs))∧i<kvs.length,fun i H x H'=>H'=H∧∃ k v,kvs[i]? = some (k,v)∧x=kV k,fun i H=>H d=some (.frz o (.dK kvs))∧kvs.length≤i⟩
theorem Zh0 {P:Program} {w:World} {K:Frag} {tg:Expr} (d it:Addr) (o:Obj) (kvs:List (Key×V)) (es:Array DictEntry) (ep:Nat) (ho:o.data = .dict es ep):Turn P w K tg (Itd d o kvs) [it] it (fun i h=>h.IsKeyIter it d i kvs.length ep) where
  mem:=by simp
  obj:=fun i h st b hb=>by
    have e:b=it:=by simpa using hb
    subst e;obtain ⟨o,e,c,d⟩:=st;exact ⟨o,e,fun v z=>by rw [d] at z; cases z⟩
  keep:=fun i h h' st k=>st.at fun o e=>k it (by simp) o e
  item:=by
    intro X hP hw hK hc i pins s σ H E I hf st hg;subst hP hw hK;obtain ⟨hfr,hi⟩:=hg;obtain ⟨vs,rel,hat⟩:=ZjF I hfr ho;have hl:kvs.length=vs.length:=rel.length;obtain ⟨⟨k,x⟩,hx⟩:∃ p,vs[i]? = some p:=⟨vs[i]'(by omega),getElem?_eq_getElem (by omega)⟩;obtain ⟨y,hy⟩:=Zjr rel hx;obtain ⟨f0,f1,f2,f3,f4,f5⟩:=hf it (by simp);rw [hl] at st;refine wpAny_pyNext_dict_item st hat hx fun key h' hkey st' sb=>?_;have I1:Inv X pins σ H { s with heap:=h' }:=I.turned (t':=s.toks) (fun b o hb e=>(sb.2 b hb).trans e) f0 f1 f3 f4 f5;rw [← hl] at st';obtain ⟨o2,e,c,d2⟩:=id st';exact ⟨key,rfl,ZhL (s:={ s with heap:=h' }) e c d2 (by decide) ⟨kV k,H,I1,relK hkey,⟨rfl,k,y,hy,rfl⟩,st',fun b hb=>(hf b hb).1⟩⟩
  done:=by
    intro X hP hw hK hc i pins s σ H E I hf st hg;subst hP hw hK;obtain ⟨hfr,hi⟩:=hg;obtain ⟨vs,rel,hat⟩:=ZjF I hfr ho;have hl:kvs.length=vs.length:=rel.length;obtain ⟨f0,f1,f2,f3,f4,f5⟩:=hf it (by simp);rw [hl] at st;exact wpAny_pyNext_dict_end (I.ok.hd hc) st hat (by simp; omega) fun h' eb=>⟨rfl,I.turned (t':=s.toks) (fun b o hb e=>eb b o hb e) f0 f1 f3 f4 f5⟩
  self:=fun _ _ _ _ _ st h=>wpAny_pyIter_keyiter st h
noncomputable def iDict (tl:TE):TI:=fun σ H R=>tl σ H fun x H1=>∃ d kvs,x = .ref d∧H1 d=some (.dK kvs)∧∀ o,R (Itd d o kvs) (upd H1 d (.frz o (.dK kvs)))
theorem Zfh {X:Cx} {tg l:Expr} {tl:TE} (hl:PE X l tl):PI X tg l (iDict tl):=by
  intro pins s σ H R I h;refine thn (hl pins s σ H _ I h) fun v s1 zz9=>?_;obtain ⟨x,H1,I1,r1,q1⟩:=zz9;obtain ⟨d,kvs,e,hd,q⟩:=q1;subst e;cases r1;obtain ⟨z,lo,vs,rel,dd⟩:=dk_of I1.hok hd;obtain ⟨ep,hat⟩:=dd.dictAt;obtain ⟨o,es,h1,h2,h3,h4⟩:=id hat;have hl:kvs.length=vs.length:=rel.length;have I2:Inv X pins σ (upd H1 d (.frz o (.dK kvs))) s1:=I1.write (t':=s1.toks) (h':=s1.heap) (x:=d) (e:=d) (by rw [hd]; exact True.intro) (.inl rfl) (fun b u _ q=>q) ⟨o,h1⟩ ⟨h1,z,lo,vs,rel,dd⟩;refine wpAny_pyIter_dict lo hat ?_;refine ⟨s1.heap.objs.size,[s1.heap.objs.size],_,_,_,rfl,I2.kept (t':=s1.toks) fun b o e=>Heap.get?_push_of_some _ e,Zh0 d _ o kvs es ep h3,⟨_,Heap.get?_push_size _ rfl,rfl,by rw [hl]; rfl⟩,fun b hb=>?_,q o⟩;have e:b=s1.heap.objs.size:=by simpa using hb
  subst e;exact I2.fpOk (le_refl _) (I2.hok.fresh (le_refl _))
end L2
set_option Elab.async false
set_option linter.all false
set_option maxRecDepth 100000
namespace L2
open PySem PySem.Spec PyProof.Rows
end L2
set_option Elab.async false
set_option linter.all false
namespace L2
open PySem PySem.Spec PyProof.Rows
noncomputable def vl (n d:Int):Rat:=(n:Rat) / (d:Rat)
end L2
set_option Elab.async false
set_option linter.all false
set_option maxRecDepth 100000
namespace L2
open PySem PySem.Spec PyProof.Rows
theorem Zhp:∀ (l:List (Str×Tok)),ZF ((l.map (·.1)).map V.str) (strValues l)
  | [] => .nil
  | (x,t)::r => .cons ⟨t,rfl⟩ (Zhp r)
section
variable {X:Cx}
theorem Zif:OpR X (compareOp .Gt) (fun x y H Q=>∃ i j,x = .str i∧y = .str j∧Q (.bl (decide (j.cps.toList<i.cps.toList))) H):=by
  intro pins s σ H x y v u Q I rx ry h;obtain ⟨i,j,rfl,rfl,q⟩:=h;obtain ⟨t,rfl⟩:=rx;obtain ⟨t',rfl⟩:=ry;exact PySem.P.gt_str (ZN I q rfl)
theorem ZeB:Jz X (.type "int") (fun xs H Q=>∃ z n,xs=[.str z]∧PySem.intText? z=some n∧z.length≤640∧Q (.int n) H):=by
  intro pins s σ H xs us Q I r h;obtain ⟨z,n,rfl,hn,hl,q⟩:=h;obtain ⟨u,rfl,t,rfl⟩:=ZaC r;exact PySem.W.KIN.call_text hn hl ⟨.int n,H,I.tok _,⟨_,rfl⟩,q⟩
noncomputable def rSplit:V→List V→Hp→VK→Prop:=fun x xs H Q=>∃ z y,x = .str z∧xs=[.str y]∧(y.length == 0)=false∧z.length≤sizeLine∧(Builtin.Str.partsBetween z (Builtin.Str.occurrences z y 0 z.length (z.length+1)) y.length).length≤sizeLine ∧
  ∀ l,H l=none→Q (.ref l) (upd H l (.lst ((Txt.split z y).map V.str)))
theorem Zgy:MtR X "str.split" rSplit:=by
  intro pins s σ H x xs v us Q I rx rv h;obtain ⟨z,y,rfl,rfl,hy,hz,hz2,q⟩:=h;obtain ⟨t,rfl⟩:=rx;obtain ⟨u,rfl,t',rfl⟩:=ZaC rv;have fin:∀ (l:List (Str×Tok)) (tk:Nat),l.map (·.1)=Txt.split z y→l.length≤sizeLine→EP X pins σ Q (.ref s.heap.objs.size) { s with heap:=s.heap.push { cls := .type "list",data := .seq (strValues l).toArray },toks:=tk }:=fun l tk e hl =>
    ⟨.ref s.heap.objs.size,_,I.laid (t':=tk) (o := .lst ((Txt.split z y).map V.str)) (fun _ _ w=>Heap.get?_push_of_some _ w) (le_refl _) ⟨by rw [length_map,← e,length_map]; exact hl,strValues l,0,by rw [← e]; exact Zhp l,Heap.get?_push_size _ rfl⟩,rfl,q _ I.fresh⟩
  cases h1:(decide (z.length<y.length) || decide (Builtin.Str.strKind z<Builtin.Str.strKind y))
  · cases hf:(Builtin.Str.occurrences z y 0 z.length (z.length+1)).isEmpty
    · refine call_meets F.slot_str_split (typeIs_str _ _ _) F.entry_str_split (F.args_str_split_2 _ _) (meets_str_split_sep z y t t' h1 hy hf hz hz2) ?_;have w:=fin (numbered s.toks (Builtin.Str.partsBetween z (Builtin.Str.occurrences z y 0 z.length (z.length+1)) y.length)) (s.toks+(Builtin.Str.partsBetween z (Builtin.Str.occurrences z y 0 z.length (z.length+1)) y.length).length) ((numbered_texts _ _).trans (by unfold Txt.split; rw [h1,hf]; rfl)) (by rw [← length_map (f:=(·.1)),numbered_texts]; exact hz2);rw [← strsFrom_eq] at w;exact w
    · exact call_meets F.slot_str_split (typeIs_str _ _ _) F.entry_str_split (F.args_str_split_2 _ _) (meets_str_split_not_found z y t t' h1 hy hf) (fin [(z,t)] s.toks (by unfold Txt.split; rw [h1,hf]; rfl) (by show 1≤sizeLine; decide))
  · exact call_meets F.slot_str_split (typeIs_str _ _ _) F.entry_str_split (F.args_str_split_2 _ _) (meets_str_split_cannot_occur z y t t' h1) (fin [(z,t)] s.toks (by unfold Txt.split; rw [h1]; rfl) (by show 1≤sizeLine; decide))
noncomputable def rRpart:V→List V→Hp→VK→Prop:=fun x xs H Q=>∃ z y,x = .str z∧xs=[.str y]∧(y.length == 0)=false∧z.length≤sizeLine ∧
  ∀ l,H l=none→Q (.ref l) (upd H l (.tup (match Builtin.Str.lastOccurrence z y 0 z.length with | some i=>[V.str (Builtin.Str.strSub z 0 i),V.str y,V.str (Builtin.Str.strSub z (i+y.length) z.length)] | none=>[V.str Str.empty,V.str Str.empty,V.str z])))
theorem Zjj:MtR X "str.rpartition" rRpart:=by
  intro pins s σ H x xs v us Q I rx rv h;obtain ⟨z,y,rfl,rfl,hy,hz,q⟩:=h;obtain ⟨t,rfl⟩:=rx;obtain ⟨u,rfl,t',rfl⟩:=ZaC rv;refine call_meets F.slot_str_rpartition (typeIs_str _ _ _) F.entry_str_rpartition (F.args_str_rpartition_2 _ _) (meets_str_rpartition z y t t' hy hz) ?_;revert q;cases Builtin.Str.lastOccurrence z y 0 z.length with
  | some i =>
    intro q;exact ⟨.ref s.heap.objs.size,_,I.laid (t':=s.toks+1+1) (o := .tup [V.str (Builtin.Str.strSub z 0 i),V.str y,V.str (Builtin.Str.strSub z (i+y.length) z.length)]) (fun _ _ w=>Heap.get?_push_of_some _ w) (le_refl _) ⟨by show 3≤sizeLine; decide,_, .cons ⟨_,rfl⟩ (.cons ⟨_,rfl⟩ (.cons ⟨_,rfl⟩ .nil)),IsTup.new _ _⟩,rfl,q _ I.fresh⟩
  | none =>
    intro q;exact ⟨.ref s.heap.objs.size,_,I.laid (t':=s.toks+1) (o := .tup [V.str Str.empty,V.str Str.empty,V.str z]) (fun _ _ w=>Heap.get?_push_of_some _ w) (le_refl _) ⟨by show 3≤sizeLine; decide,_, .cons ⟨_,rfl⟩ (.cons ⟨_,rfl⟩ (.cons ⟨_,rfl⟩ .nil)),IsTup.new _ _⟩,rfl,q _ I.fresh⟩
noncomputable def rRfind:V→List V→Hp→VK→Prop:=fun x xs H Q=>∃ z y,x = .str z∧xs=[.str y]∧Q (.int (match Builtin.Str.lastOccurrence z y 0 z.length with | some i=>(i:Int) | none => -1)) H
theorem Zjk:MtR X "str.rfind" rRfind:=by
  intro pins s σ H x xs v us Q I rx rv h;obtain ⟨z,y,rfl,rfl,q⟩:=h;obtain ⟨t,rfl⟩:=rx;obtain ⟨u,rfl,t',rfl⟩:=ZaC rv;refine call_meets F.slot_str_rfind (typeIs_str _ _ _) F.entry_str_rfind (F.args_str_rfind_2 _ _) (gives_str_rfind z y t t').meets ?_;exact ⟨.int _,H,I.tok _,⟨_,rfl⟩,q⟩
noncomputable def Its (x:Str):It:=⟨fun i _=>i<x.cps.size,fun i H v H'=>H'=H∧∃ c,x.cps[i]? = some c∧v = .str ⟨#[c]⟩,fun i _=>x.cps.size≤i⟩
theorem ZiN {prog:Program} {w:World} {A:Around} (hh:A.handled=none) (it:Addr) (x:Str) (t:Tok):Walks prog w A it [it] [it] x.cps.size (SignAt x) (fun i h=>h.IsStrIter it (strIterType x) x t i):=by
  cases ha:x.cps.all (· < 128) with
  | true =>
    have e:strIterType x="str_ascii_iterator":=by unfold strIterType; rw [ha]; rfl
    rw [e];exact Walks.strAscii hh it x t
  | false =>
    have e:strIterType x="str_iterator":=by unfold strIterType; rw [ha]; rfl
    rw [e];exact Walks.strWide hh it x t
theorem ZiQ {P:Program} {w:World} {K:Frag} {tg:Expr} (it:Addr) (x:Str) (t:Tok):Turn P w K tg (Its x) [it] it (fun i h=>h.IsStrIter it (strIterType x) x t i) where
  mem:=by simp
  obj:=fun i h st b hb=>by
    have e:b=it:=by simpa using hb
    subst e;obtain ⟨o,e,c,d⟩:=st;exact ⟨o,e,fun v z=>by rw [d] at z; cases z⟩
  keep:=fun i h h' st k=>by
    obtain ⟨o,e,r⟩:=st;exact ⟨o,k it (by simp) o e,r⟩
  item:=by
    intro X hP hw hK hc i pins s σ H E I hf st hg;subst hP hw hK;obtain ⟨f0,f1,f2,f3,f4,f5⟩:=hf it (by simp);refine (ZiN (prog:=X.prog) (w:=X.w) (I.ok.hd hc) it x t).item i s _ _ hg st fun v h' tk hv st' kk=>?_;obtain ⟨c,u,hc',rfl⟩:=hv;have I1:Inv X pins σ H { s with heap:=h',toks:=tk }:=I.turned (fun b o hb e=>kk b o (by simpa using hb) e) f0 f1 f3 f4 f5;obtain ⟨o2,e,cl,d2⟩:=id st';refine ⟨_,rfl,ZhL (s:={ s with heap:=h',toks:=tk }) e cl d2 ?_ ⟨.str ⟨#[c]⟩,H,I1,⟨u,rfl⟩,⟨rfl,c,hc',rfl⟩,st',fun b hb=>(hf b hb).1⟩⟩;unfold strIterType;cases x.cps.all (· < 128) <;> decide
  done:=by
    intro X hP hw hK hc i pins s σ H E I hf st hg;subst hP hw hK;obtain ⟨f0,f1,f2,f3,f4,f5⟩:=hf it (by simp);have hn:x.cps[i]? = none:=Array.getElem?_eq_none hg;have fin:∀ h',Heap.ExtBut it s.heap h'→(none:Option Value)=none∧Inv X pins σ H { s with heap:=h' }:=fun h' eb=>⟨rfl,I.turned (t':=s.toks) (fun b o hb e=>eb b o hb e) f0 f1 f3 f4 f5⟩;cases ha:x.cps.all (· < 128) with
    | true =>
      rw [show strIterType x="str_ascii_iterator" by unfold strIterType; rw [ha]; rfl] at st;exact wpAny_pyNext_ascii_end (I.ok.hd hc) st hn fin
    | false =>
      rw [show strIterType x="str_iterator" by unfold strIterType; rw [ha]; rfl] at st;exact wpAny_pyNext_wide_end (I.ok.hd hc) st hn fin
  self:=fun _ i s _ _ st h=>by
    cases ha:x.cps.all (· < 128) with
    | true =>
      rw [show strIterType x="str_ascii_iterator" by unfold strIterType; rw [ha]; rfl] at st;exact wpAny_pyIter_striter_ascii st h
    | false =>
      rw [show strIterType x="str_iterator" by unfold strIterType; rw [ha]; rfl] at st;exact wpAny_pyIter_striter_wide st h
noncomputable def iStr (tl:TE):TI:=fun σ H R=>tl σ H fun x H1=>∃ z,x = .str z∧R (Its z) H1
theorem pi_str {tg l:Expr} {tl:TE} (hl:PE X l tl):PI X tg l (iStr tl):=by
  intro pins s σ H R I h;refine thn (hl pins s σ H _ I h) fun v s1 zz9=>?_;obtain ⟨x,H1,I1,r1,q1⟩:=zz9;obtain ⟨z,e,q⟩:=q1;subst e;obtain ⟨t,rfl⟩:=r1;refine wpAny_pyIter_strU ?_;refine ⟨s1.heap.objs.size,[s1.heap.objs.size],_,_,H1,rfl,I1.kept (t':=s1.toks) fun b o e=>Heap.get?_push_of_some _ e,ZiQ _ z t,⟨_,Heap.get?_push_size _ rfl,rfl,rfl⟩,fun b hb=>?_,q⟩;have e:b=s1.heap.objs.size:=by simpa using hb
  subst e;exact I1.fpOk (le_refl _) (I1.hok.fresh (le_refl _))
noncomputable def gStar (K:Frag) (t:TGs):TG:=fun v σ H Q=>∃ l x xs,v = .ref l∧SqL K H l (x::xs)∧xs.length≤10000∧∀ D,H D=none→t [x, .ref D] σ (upd H D (.lst xs)) Q
theorem Zkc {a b:Expr} {k:Nat} {sp pos:Pos} {t:TGs} (hc:X.calm=true) (h:PGs X [a,b] t)
    (hn:(assignEach [a, .Starred b sp] X.env).length=2:=by rfl) (hst:(assignEach [a, .Starred b sp] X.env).findIdx? (·.1)=some 1:=by rfl) (hm:(assignEach [a, .Starred b sp] X.env).map (·.2)=(assignEach [a,b] X.env).map (·.2):=by rfl):PG X (.Tuple [a, .Starred b sp] k pos) (gStar X.K t):=by
  intro pins s σ H v u Q I r hw;obtain ⟨l,x,xs,e1,hq,hl,hw⟩:=hw;subst e1;cases r;obtain ⟨its,rv,pl,hz⟩:=I.list hq;have hL:=pl.isList;obtain ⟨vx,its',rfl,rx,rr⟩:∃ vx its',its=vx::its'∧ZG x vx∧ZF xs its':=by
    cases rv with
    | cons p q=>exact ⟨_,_,rfl,p,q⟩
  have hll:l<s.heap.objs.size:=by obtain ⟨_,z,_⟩:=hL; exact Heap.lt_size z
  have hne:l≠s.heap.objs.size:=ne_of_lt hll;have hsz:(vx::its').toArray.size=its'.length+1:=by simp
  have hil:its'.length=xs.length:=rr.length.symm;rw [assign_Tuple];refine wpAny_bind (wpAny_standAt ?_);unfold unpack;rw [hn,hst,hm];refine wpAny_bind (wpAny_holding ?_);unfold unpackItems notIterableAtAll;refine wpAny_bind (wpAny_bind (wpAny_specialOf hL.typeIs slot_list_iter.lookup (wpAny_pure ?_)));simp only [false_eq_true,if_false];refine wpAny_bind (wpAny_holding (wpAny_pyIter_list hL ?_));refine wpAny_bind (wpAny_holding (PySem.W.kun_draw hne 1 0 _ _ ⟨_,Heap.get?_push_size _ rfl,rfl,rfl⟩ (hL.push _) (by rw [hsz]; omega) fun g1 hit1 sb1=>?_));have hL1:g1.IsList l (vx::its').toArray:=(hL.push _).extBut sb1.extBut hne;obtain ⟨oi,hoi,_⟩:=id hit1;obtain ⟨ol,hol,_⟩:=id hL1;have tk1:(((vx::its').toArray.toList.drop 0).take 1)=[vx]:=rfl;rw [tk1];rw [if_neg (show ¬ ([vx].length<1) by simp)];refine wpAny_bind (wpAny_holding (PySem.W.kun_collect (s:={ s with heap:=g1 }) (T:="list_iterator") (.inr (.inr (.inl rfl))) (Walks.list (A:=X.A.in1) (I.ok.hd hc) s.heap.objs.size l hne (vx::its').toArray) (fun j w st=>st.1.typeIs) (k:=1) (by rw [hsz]; omega) ⟨hit1,hL1⟩ (Heap.lt_size hoi) (Heap.lt_size hol) (fun g2 tk kp=>?_) (by rw [hsz,sizeLine_eq]; omega)));have dr:(vx::its').toArray.toList.drop 1=its':=rfl;rw [dr];show wpAny _ _ (if its'.length<2 - 1 - 1 then _ else _) _ _ _;rw [if_neg (by omega)];show wpAny _ _ (newList (its'.take (its'.length - (2 - 1 - 1))) >>= fun d=>pure ([vx]++[d]++its'.drop (its'.length - (2 - 1 - 1)))) _ _ _;rw [show its'.length - (2 - 1 - 1)=its'.length by omega,take_length,List.drop_length];have keep:∀ b o,s.heap.get? b=some o→g2.get? b=some o:=fun b o e=>kp b o (ne_of_lt (Heap.lt_size e)) (sb1.extBut b o (ne_of_lt (Heap.lt_size e)) (Heap.get?_push_of_some _ e));have I1:Inv X pins σ H { s with heap:=g2,toks:=tk }:=I.kept keep;refine wpAny_bind (wpAny_newList ?_ (by rw [sizeLine_eq]; omega));refine wpAny_pure ?_;have I2:=Inv.laid (s:={ s with heap:=g2,toks:=tk }) (h':=g2.push { cls := .type "list",data := .seq its'.toArray }) (t':=tk) (o := .lst xs) I1 (fun _ _ w=>Heap.get?_push_of_some _ w) (le_refl _) ⟨by rw [sizeLine_eq]; omega,its',0,rr,Heap.get?_push_size _ rfl⟩;exact h pins _ σ _ [x, .ref g2.objs.size] [vx, .ref g2.objs.size] Q I2 (.cons rx (.cons rfl .nil)) (hw _ I1.fresh)
end
end L2
set_option Elab.async false
set_option linter.all false
namespace L2
open PySem PySem.Spec PyProof.Rows PySem.StrLaws
noncomputable def dot:Str:="."
noncomputable def inR (a b c:Nat):Bool:=decide (a≤c) && decide (c≤b)
noncomputable def gw (x:Str):Bool:=decide (1≤x.length) && decide (x.length≤8) && x.cps.toList.all (inR 97 122) && !(decide (x="crown") || decide (x="kids"))
noncomputable def gn (x:Str):Bool:=decide (1≤x.length) && decide (x.length≤2) && x.cps.toList.all (inR 48 57) && !decide (x.cps.toList.head? = some 48)
noncomputable def iv (x:Str):Int:=(PySem.intText? x).getD 0
theorem Zjz:(∀ c∈List.range 9,PySem.intText? ⟨#[49+c]⟩=some (iv ⟨#[49+c]⟩)∧1≤iv ⟨#[49+c]⟩)∧∀ c∈List.range 9,∀ d∈List.range 10,PySem.intText? ⟨#[49+c,48+d]⟩=some (iv ⟨#[49+c,48+d]⟩)∧1≤iv ⟨#[49+c,48+d]⟩:=by decide +kernel
theorem iv_gn {x:Str} (h:gn x=true):PySem.intText? x=some (iv x)∧1≤iv x:=by
  unfold gn at h;simp only [and_eq_true,decide_eq_true_eq,Bool.not_eq_true',decide_eq_false_iff_not] at h;obtain ⟨⟨⟨h1,h2⟩,h3⟩,h4⟩:=h;obtain ⟨⟨l⟩⟩:=x;have h1':1≤l.length:=h1;have h2':l.length≤2:=h2
  match l,h1',h2',h3,h4 with
  | [c],_,_,h3,h4 =>
    simp [inR] at h3 h4;have e:c=49+(c - 49):=by omega
    rw [e];exact Zjz.1 (c - 49) (List.mem_range.mpr (by omega))
  | [c,d],_,_,h3,h4 =>
    simp [inR] at h3 h4;have e:c=49+(c - 49):=by omega
    have e':d=48+(d - 48):=by omega
    rw [e,e'];exact Zjz.2 (c - 49) (List.mem_range.mpr (by omega)) (d - 48) (List.mem_range.mpr (by omega))
noncomputable def pcs (x:Str):List Str:=Txt.split x dot
noncomputable def wd (x:Str):Str:=(pcs x).headD ""
noncomputable def nms (x:Str):List Str:=(pcs x).tail
theorem XX (x:Str):pcs x=wd x::nms x:=by
  have h:1≤(pcs x).length:=split_pos x dot;unfold wd nms;cases e:pcs x with
  | nil=>rw [e] at h; simp at h
  | cons a r=>rfl
theorem Zki (x:Str):(nms x).length≤x.length+1:=by
  have h:(pcs x).length≤x.length+2:=split_le x dot;rw [XX,length_cons] at h;omega
theorem Zja {x p:Str} (h:p∈pcs x):p.length≤x.length:=by
  unfold pcs Txt.split at h;split at h
  · rw [List.mem_singleton.mp h]; exact le_refl _
  · split at h
    · rw [List.mem_singleton.mp h]; exact le_refl _
    · unfold Builtin.Str.partsBetween at h;obtain ⟨q,_,rfl⟩:=List.mem_map.mp h;exact le_strSub x q.1 q.2
noncomputable def pok (x:Str):Bool:=gw (wd x) && decide ((nms x).length≤5) && (nms x).all gn
noncomputable def pvl (x:Str):List V := .str (wd x)::(nms x).map fun p=>V.int (iv p)
noncomputable def dat (x:Str):PyData := .list (.str (wd x)::(nms x).map fun p=>PyData.int (iv p))
theorem gw_ok {x:Str} (h:gw x=true):PyData.strOk x=true:=by
  unfold gw at h;simp only [and_eq_true] at h;unfold PyData.strOk;rw [Array.all_eq_true_iff_forall_mem];intro c hc;have z:=List.all_eq_true.mp h.1.2 c (by simpa using hc);simp [inR] at z;simp;omega
noncomputable def up (x:Str):Str:=match Builtin.Str.lastOccurrence x dot 0 x.length with | some i=>Builtin.Str.strSub x 0 i | none=>Str.empty
theorem Zb7:dot=⟨#[46]⟩:=by decide +kernel
theorem at_iff (x:Str) (i:Nat):At x dot x.length i↔x.cps.toList[i]? = some 46:=by
  rw [Zb7];exact subAt_one x 46 i
theorem Zix (l:List Str):∀ (a:Array Nat),46∈a.toList→46∈(l.foldl (fun acc p=>acc++dot.cps++p.cps) a).toList:=by
  induction l with
  | nil=>intro a h; exact h
  | cons p r ih =>
    intro a h;rw [foldl_cons];exact ih _ (by simp only [Array.toList_append,mem_append]; exact .inl (.inl h))
theorem dot_in {x:Str} (h:nms x≠[]):46∈x.cps.toList:=by
  have e:pcs x=wd x::nms x:=XX x;unfold pcs Txt.split at e;split at e
  · injection e with _ e; exact absurd e.symm h
  · split at e
    · injection e with _ e; exact absurd e.symm h
    · have g:=glued_between_self x dot (x.length+1);rw [e] at g;rw [← g];unfold Builtin.Str.glued;show 46∈((nms x).foldl (fun acc p=>acc++dot.cps++p.cps) (wd x).cps).toList;cases hn:nms x with
      | nil=>exact absurd hn h
      | cons p r =>
        rw [foldl_cons];refine Zix r _ ?_;rw [Zb7];simp
theorem Zj3 {x:Str} (h:nms x≠[]):∃ i:Nat,Builtin.Str.lastOccurrence x dot 0 x.length=some i∧Txt.slice x none (some (i:Int))=up x:=by
  obtain ⟨j,hj⟩:=List.mem_iff_getElem?.mp (dot_in h);rcases last_spec x dot with ⟨_,z⟩ | ⟨i,e,z,_⟩
  · exact absurd ((at_iff x j).mpr hj) (z j)
  · refine ⟨i,e,?_⟩;have hi:i<x.cps.toList.length:=(List.getElem?_eq_some_iff.mp ((at_iff x i).mp z)).1;have s:Txt.slice x none (some (i:Int))=⟨((x.cps.toList.drop 0).take ((i:Int) - 0).toNat).toArray⟩:=by
      have q:=sliceText_to (x:=x) (j:=(i:Int)) ⟨by omega,by omega⟩;unfold sliceText at q;unfold Txt.slice;exact q
    have u:up x=Builtin.Str.strSub x 0 i:=by unfold up; rw [e]
    rw [u];refine s.trans ?_;refine JK ?_;rw [strSub_toList];simp
theorem ZfA (c a:Nat):((⟨#[c]⟩:Str).cps.toList<(⟨#[a]⟩:Str).cps.toList)↔c<a:=by
  show [c]<[a]↔c<a;have:=StrLaws.lt_cons_cons c a [] [];rw [StrLaws.lt_nil_nil,Bool.and_false,Bool.or_false] at this;simpa using this
theorem Zku {x:Str} {g:TG} {tb:TS} {D:Ends} {σ:St} {H:Hp} (Pv:Nat→St→Hp→Prop) (h0:Pv 0 σ H)
    (hs:∀ i c σ H,x.cps.toList[i]? = some c→Pv i σ H→g (.str ⟨#[c]⟩) σ H fun σ2 H2=>tb { D with nx:=Pv (i+1),ct:=Pv (i+1),bk:=D.nx } σ2 H2) (hd:∀ σ H,Pv x.cps.toList.length σ H→D.nx σ H) :
    ∃ W:Nat→Nat→St→Hp→Prop,(∃ m,W 0 m σ H)∧∀ i m σ H,W i m σ H →
      ((Its x).stop i H∧D.nx σ H)∨((Its x).go i H∧∃ N:St→Hp→Prop,(∀ σ' H',N σ' H'→∃ m',m'<m∧W (i+1) m' σ' H')∧∀ v H',(Its x).yld i H v H'→g v σ H' fun σ2 H2=>tb { D with nx:=N,ct:=N,bk:=D.nx } σ2 H2):=by
  have hl:x.cps.toList.length=x.cps.size:=length_toList;refine ⟨fun i m σ H=>m=x.cps.size - i∧i≤x.cps.size∧Pv i σ H,⟨x.cps.size,by simp,zero_le _,h0⟩,?_⟩;rintro i m σ H ⟨rfl,hi,p⟩
  by_cases hlt:i<x.cps.size
  · refine .inr ⟨hlt,Pv (i+1),fun σ' H' p'=>⟨x.cps.size - (i+1),by omega,rfl,hlt,p'⟩,fun v H' y=>?_⟩;obtain ⟨rfl,c,hc,rfl⟩:=y;exact hs i c σ _ (by rw [getElem?_toList]; exact hc) p
  · have e:i=x.cps.toList.length:=by omega
    subst e;exact .inl ⟨by show x.cps.size≤_; omega,hd σ H p⟩
theorem ZjX {l:List Nat} {f:Nat→Bool} {i c:Nat} (h:(l.take i).all f=true) (hc:l[i]? = some c) (hf:f c=true):(l.take (i+1)).all f=true:=by
  rw [take_succ,hc,all_append,h];simp [hf]
theorem ZhW {l:List Nat} {f:Nat→Bool} {i c:Nat} (hc:l[i]? = some c) (hf:f c=false):l.all f=false:=by
  cases e:l.all f with
  | false=>rfl
  | true =>
    have:=List.all_eq_true.mp e c (mem_of_getElem? hc);rw [hf] at this;cases this
end L2
set_option Elab.async false
set_option linter.all false
set_option maxRecDepth 100000
namespace L2
open PySem PySem.Spec PyProof.Rows
section
variable {X:Cx}
noncomputable def rCount:V→List V→Hp→VK→Prop:=fun x xs H Q=>∃ z y,x = .str z∧xs=[.str y]∧Q (.int (Builtin.Str.occurrences z y 0 z.length (z.length+1)).length) H
theorem ZaO:MtR X "str.count" rCount:=by
  intro pins s σ H x xs v us Q I rx rv h;obtain ⟨z,y,rfl,rfl,q⟩:=h;obtain ⟨t,rfl⟩:=rx;obtain ⟨u,rfl,t',rfl⟩:=ZaC rv;refine call_meets F.slot_str_count (typeIs_str _ _ _) F.entry_str_count (F.args_str_count_2 _ _) (gives_str_count z y t t').meets ?_;exact ⟨.int _,H,I.tok _,⟨_,rfl⟩,q⟩
theorem Zhq:∀ {xs:List V} {us:List Value},xs.length=us.length→(∀ (j:Nat) (x:V) (u:Value),xs[j]? = some x→us[j]? = some u→ZG x u)→ZF xs us
  | [],[],_,_ => .nil
  | x::xs,u::us,h,k => .cons (k 0 x u rfl rfl) (Zhq (Nat.succ.inj h) fun j y w e1 e2=>k (j+1) y w e1 e2)
noncomputable def rListD:List V→Hp→VK→Prop:=fun xs H Q=>∃ (d:Addr) (kvs:List (Key×V)),xs=[.ref d]∧Rd H d (.dK kvs)∧∀ l,H l=none→Q (.ref l) (upd H l (.lst (kvs.map fun p=>kV p.1)))
theorem Zeq {X:Cx} (hc:X.calm=true):Jz X (.type "list") rListD:=by
  intro pins s σ H xs us Q I r h;obtain ⟨d,kvs,rfl,hd,q⟩:=h;obtain ⟨u,rfl,rx⟩:=ZaC r;cases rx;obtain ⟨z,lo,vs,rel,dd⟩:=Zcx I.hok hd;obtain ⟨ep,hat⟩:=dd.dictAt;have hln:kvs.length=vs.length:=rel.length;refine PySem.W.kdl_call (PySem.W.kdl_dict (knd:=ZJ X.prog X.w) (kvs:=vs) (ep:=ep) lo) (I.ok.hd hc) hat (by omega) fun h' tk acc c' hk hS hacc=>?_;have hl:acc.toList.length=vs.length:=by rw [length_toList]; exact hacc.1
  have hV:ZF (kvs.map fun p=>kV p.1) acc.toList:=by
    refine Zhq (by rw [length_map,hln,hl]) fun j x u e1 e2=>?_;obtain ⟨k,w,e3,e4⟩:=hacc.2 j u (by rw [← getElem?_toList]; exact e2);obtain ⟨y,e5⟩:=Zjr rel e3;rw [getElem?_map,e5] at e1;cases e1;exact relK e4
  refine ⟨.ref s.heap.objs.size,_,I.laid (t':=tk) hk (le_refl _) (show YJ X.prog X.w _ h' _ (.lst _) from ⟨by rw [length_map]; exact z,acc.toList,c',hV,by rw [Array.toArray_toList]; exact hS⟩),rfl,q _ (I.hok.fresh (le_refl _))⟩
theorem ZhO (z:Str):Str.empty++z=z:=by
  refine JK ?_;show (Str.empty.cps++z.cps).toList=z.cps.toList;simp [Str.empty]
noncomputable def tFs (ta tb:TE) (sep:Str):TE:=fun σ H Q=>ta σ H fun x H1=>∃ z:Str,x = .str z∧z.length≤sizeLine∧(z++sep).length≤sizeLine∧tb σ H1 fun y H2=>∃ n:Int,y = .int n∧n.natAbs.log2<1920∧(z++sep++toString n:Str).length≤sizeLine∧Q (.str (z++sep++toString n)) H2
theorem pe_fs {X:Cx} {a b:Expr} {ta tb:TE} {sep:Str} {j} {p1 p2 p3 p4:Pos} (ha:PE X a ta) (hb:PE X b tb):PE X (.JoinedStr [.FormattedValue a (-1) none p1, .Constant (.str sep) j p2, .FormattedValue b (-1) none p3] p4) (tFs ta tb sep):=by
  intro pins s σ H Q I h;refine JoinedStr_many (joinParts_cons (FormattedValue_plain (thn (ha pins s σ H _ I h) fun u s1 zz9=>?_)));obtain ⟨x,H1,I1,rx,z,ex,h1,h2,q1⟩:=zz9;subst ex;obtain ⟨t,rfl⟩:=rx;refine formatField_str (fun t' tk=>?_) h1;refine ⟨by rw [ZhO]; exact h1,?_⟩;rw [ZhO];refine joinParts_cons (Calls.Constant_str ⟨h2,?_⟩);have I2:Inv X pins σ H1 { s1 with toks:=tk+1 }:=I1.tok _;refine joinParts_cons (FormattedValue_plain (thn (hb pins _ σ H1 _ I2 q1) fun u s2 zz9=>?_));obtain ⟨y,H2,I3,ry,n,ey,h3,h4,q2⟩:=zz9;subst ey;obtain ⟨t2,rfl⟩:=ry;refine formatField_int_small h3 ⟨h4,joinParts_nil ?_ h4⟩;exact ⟨.str _,H2,I3.tok _,⟨_,rfl⟩,q2⟩
structure Dm (P:Program) (w:World) (K:Frag) (mg:Str→Option Value) (base:Heap) (CX:CXT) (C:Addr) (k:Nat) (m:Str) (ps:List Str) (sp:Sp):Prop where
  cls:Cls K C
  ex:∃ f fd,FnOk P w K mg base CX k f fd ps sp∧Meth K C m f∧Zav K fd ps []
noncomputable def tMt (C:Addr) (m:Str) (sp:Sp) (E:XK) (ta:TE) (t:TA):TE:=fun σ H Q=>ta σ H fun x H1=>∃ a dx fs,x = .ref a∧H1 a=some (.ins C dx fs)∧fs.lookup m=none∧t σ H1 fun vs H2=>sp (x::vs) H2 Q E
theorem ZiT {C:Addr} {m:Str} {sp:Sp} {E:XK} {ta:TE} {t:TA}:Zht C m sp [] E ta t=tMt C m sp E ta t:=by
  funext σ H Q;unfold Zht tMt;simp only [append_nil]
theorem ZL {X:Cx} {CX:CXT} {k:Nat} {C:Addr} {m:Str} {ps:List Str} {sp:Sp} {E:XK} {o e:Expr} {es:List Expr} {apos pos:Pos} {ta:TE} {t:TA} {pl:Sem Bool} (hx:Xw CX X E) (D:Dm X.prog X.w X.K X.mg X.base CX C k m ps sp) (hr:Room k X.A) (he:PE X o ta) (ha:PA X (e::es) t)
    (hst:starEach (e::es) X.env=(false,eval e X.env)::starEach es X.env:=by rfl) (hpl:(backTo pos (starEach es X.env)).any (·.1)=false:=by rfl)
    (ht:eval (.Call (.Attribute o m apos) (e::es) [] pos) X.env=(do
      let ov ← eval o X.env
      standAt apos.atName
      let (f,first) ← holding [ov] (getMethod ov m pl)
      callWith pos f first (backTo pos (starEach (e::es) X.env)) (backToKw pos (keywordEach [] X.env))):=by rfl) :
    PE X (.Call (.Attribute o m apos) (e::es) [] pos) (tMt C m sp E ta t):=by
  obtain ⟨f,fd,F,hm,hb⟩:=D.ex;rw [← ZiT];exact Zkd (pl:=pl) he D.cls hm F hr hb .nil hx ha hst hpl ht
theorem pe_mt0 {X:Cx} {CX:CXT} {k:Nat} {C:Addr} {m:Str} {ps:List Str} {sp:Sp} {E:XK} {o:Expr} {apos pos:Pos} {ta:TE} {pl:Sem Bool} (hx:Xw CX X E) (D:Dm X.prog X.w X.K X.mg X.base CX C k m ps sp) (hr:Room k X.A) (he:PE X o ta)
    (ht:eval (.Call (.Attribute o m apos) [] [] pos) X.env=(do
      let ov ← eval o X.env
      standAt apos.atName
      let (f,first) ← holding [ov] (getMethod ov m pl)
      callWith pos f first (backTo pos (starEach [] X.env)) (backToKw pos (keywordEach [] X.env))):=by rfl) :
    PE X (.Call (.Attribute o m apos) [] [] pos) (tMt C m sp E ta tNil):=by
  obtain ⟨f,fd,F,hm,hb⟩:=D.ex;rw [← ZiT];exact Zi7 (pl:=pl) he D.cls hm F hr hb .nil hx ht
end
end L2
set_option Elab.async false
set_option linter.all false
set_option maxRecDepth 100000
namespace L2
open PySem PySem.Spec
noncomputable def yrs (bs:List (Str×Int)):List (Key×V):=bs.map fun p=>((Sum.inr p.1:Key),V.int p.2)
noncomputable def yr (bs:List (Str×Int)) (n:Str):Option Int:=(bs.find? fun p=>decide (p.1=n)).map (·.2)
noncomputable def has (bs:List (Str×Int)) (n:Str):Bool:=(yr bs n).isSome
noncomputable def kid (n:Str) (i:Nat):Str:=n++dot++(toString ((i:Int)+1):Str)
noncomputable def YH (n:Str) (c:Nat):List V:=(List.range c).map fun i=>V.str (kid n i)
noncomputable def brs (ws:List (Str×Addr×Nat)):List (Key×V):=ws.map fun p=>((Sum.inr p.1:Key),V.ref p.2.1)
structure Book (C:Addr) (H:Hp) (b d1 d2 d3:Addr) (bs ds:List (Str×Int)) (ws:List (Str×Addr×Nat)):Prop where
  obj:∃ dx,H b=some (.ins C dx [("births", .ref d1),("deaths", .ref d2),("broods", .ref d3)])
  h1:H d1=some (.dK (yrs bs))
  h2:H d2=some (.dK (yrs ds))
  h3:H d3=some (.dK (brs ws))
  n12:d1≠d2
  n13:d1≠d3
  n23:d2≠d3
  kids:∀ p∈ws,H p.2.1=some (.lst (YH p.1 p.2.2))
  nod:(ws.map fun p=>p.2.1).Nodup
theorem XL (bs:List (Str×Int)) (n:Str):Xc (yrs bs) (Sum.inr n:Key)=(yr bs n).map V.int:=by
  induction bs with
  | nil=>rfl
  | cons p r ih =>
    by_cases h:p.1=n
    · rw [show yrs (p::r)=((Sum.inr p.1:Key),V.int p.2)::yrs r from rfl,Zba (by rw [h])];unfold yr;simp [find?_cons,h]
    · rw [show yrs (p::r)=((Sum.inr p.1:Key),V.int p.2)::yrs r from rfl,Zbb (by simpa using h),ih];unfold yr;simp [find?_cons,h]
theorem Z4 (bs:List (Str×Int)) (n:Str):(Xc (yrs bs) (Sum.inr n:Key)).isSome=has bs n:=by
  rw [XL];unfold has;cases yr bs n <;> rfl
theorem Book.births {C:Addr} {H:Hp} {b d1 d2 d3:Addr} {bs ds:List (Str×Int)} {ws:List (Str×Addr×Nat)} (B:Book C H b d1 d2 d3 bs ds ws) (n:Str):Yx H d1 (.str n) (Xc (yrs bs) (Sum.inr n:Key)):=Yx.k (k:=Sum.inr n) B.h1
theorem Book.deaths {C:Addr} {H:Hp} {b d1 d2 d3:Addr} {bs ds:List (Str×Int)} {ws:List (Str×Addr×Nat)} (B:Book C H b d1 d2 d3 bs ds ws) (n:Str):Yx H d2 (.str n) (Xc (yrs ds) (Sum.inr n:Key)):=Yx.k (k:=Sum.inr n) B.h2
noncomputable def Z3 (xs:List Addr) (H H':Hp):Prop:=(∀ a o,a∉xs→H a=some o→H' a=some o)∧∀ a,H' a=none→H a=none
theorem ZI {H:Hp} {a b:Addr} {o u:HO} (h:H a=some o) (h':H b=some u) (n:o≠u):a≠b:=fun e=>by
  subst e;rw [h] at h';exact n (Option.some.inj h')
theorem Book.bne {C:Addr} {H:Hp} {b d1 d2 d3:Addr} {bs ds:List (Str×Int)} {ws:List (Str×Addr×Nat)} (B:Book C H b d1 d2 d3 bs ds ws):b≠d1∧b≠d2∧b≠d3:=by
  obtain ⟨dx,hb⟩:=B.obj;exact ⟨ZI hb B.h1 (fun z=>by cases z),ZI hb B.h2 (fun z=>by cases z),ZI hb B.h3 (fun z=>by cases z)⟩
theorem Book.entered {C:Addr} {H:Hp} {b d1 d2 d3 l:Addr} {bs ds:List (Str×Int)} {ws:List (Str×Addr×Nat)} {n:Str} {y:Int} {o1 o3:HO} (B:Book C H b d1 d2 d3 bs ds ws) (hl:upd H d1 o1 l=none)
    (e1:o1 = .dK (yrs (bs++[(n,y)]))) (e3:o3 = .dK (brs (ws++[(n,l,0)]))) :
    Book C (upd (upd (upd H d1 o1) l (.lst [])) d3 o3) b d1 d2 d3 (bs++[(n,y)]) ds (ws++[(n,l,0)])∧Z3 [d1,d3] H (upd (upd (upd H d1 o1) l (.lst [])) d3 o3):=by
  obtain ⟨nb1,nb2,nb3⟩:=B.bne;have l1:d1≠l:=fun e=>by rw [← e,Zd] at hl; cases hl
  have hl0:H l=none:=by rw [← hl,Zh (Ne.symm l1)]
  have l3:d3≠l:=fun e=>by rw [← e,B.h3] at hl0; cases hl0
  have kp:∀ a o,a≠d1→a≠d3→H a=some o→upd (upd (upd H d1 o1) l (.lst [])) d3 o3 a=some o:=fun a o n1 n3 e=>by
    have nl:a≠l:=fun z=>by rw [z,hl0] at e; cases e
    rw [Zh n3,Zh nl,Zh n1];exact e
  obtain ⟨dx,hb⟩:=B.obj;refine ⟨⟨⟨dx,kp _ _ nb1 nb3 hb⟩,?_,kp _ _ (Ne.symm B.n12) B.n23 B.h2,?_,B.n12,B.n13,B.n23,?_,?_⟩,fun a o hn e=>kp a o (fun z=>hn (by simp [z])) (fun z=>hn (by simp [z])) e,fun a e=>?_⟩
  · rw [Zh B.n13,Zh l1,Zd,e1]
  · rw [Zd,e3]
  · intro p hp;rcases List.mem_append.mp hp with hp | hp
    · have hk:=B.kids p hp;exact kp _ _ (ZI hk B.h1 (fun z=>by cases z)) (ZI hk B.h3 (fun z=>by cases z)) hk
    · rw [List.mem_singleton.mp hp];show upd (upd (upd H d1 o1) l (.lst [])) d3 o3 l=some (.lst (YH n 0));rw [Zh (Ne.symm l3),Zd];rfl
  · rw [map_append,nodup_append];refine ⟨B.nod,by simp,fun a ha c hc e=>?_⟩;rw [map_cons,map_nil,mem_singleton] at hc;obtain ⟨p,hp,rfl⟩:=List.mem_map.mp ha;have hk:=B.kids p hp;rw [show p.2.1=l from e.trans hc] at hk;rw [hl0] at hk;cases hk
  · by_cases h3:a=d3
    · rw [h3,Zd] at e;cases e
    · rw [Zh h3] at e
      by_cases hL:a=l
      · rw [hL,Zd] at e;cases e
      · rw [Zh hL] at e
        by_cases h1:a=d1
        · rw [h1,Zd] at e;cases e
        · rw [Zh h1] at e;exact e
theorem Book.died {C:Addr} {H:Hp} {b d1 d2 d3:Addr} {bs ds ds':List (Str×Int)} {ws:List (Str×Addr×Nat)} (B:Book C H b d1 d2 d3 bs ds ws):Book C (upd H d2 (.dK (yrs ds'))) b d1 d2 d3 bs ds' ws∧Z3 [d2] H (upd H d2 (.dK (yrs ds'))):=by
  obtain ⟨nb1,nb2,nb3⟩:=B.bne;obtain ⟨dx,hb⟩:=B.obj;refine ⟨⟨⟨dx,by rw [Zh nb2]; exact hb⟩,by rw [Zh B.n12]; exact B.h1,Zd,by rw [Zh (Ne.symm B.n23)]; exact B.h3,B.n12,B.n13,B.n23,fun p hp=>?_,B.nod⟩,fun a o hn e=>?_,fun a e=>?_⟩
  · have hk:=B.kids p hp;rw [Zh (ZI hk B.h2 (fun z=>by cases z))];exact hk
  · rw [Zh (fun z=>hn (by simp [z]))];exact e
  · by_cases h2:a=d2
    · rw [h2,Zd] at e;cases e
    · rw [Zh h2] at e;exact e
theorem ZbG {bs:List (Str×Int)} {n:Str} (h:has bs n=false):Xc (yrs bs) (Sum.inr n:Key)=none:=by
  have z:=Z4 bs n;rw [h] at z;cases e:Xc (yrs bs) (Sum.inr n:Key) with
  | none=>rfl
  | some v=>rw [e] at z; cases z
theorem Zbx (bs:List (Str×Int)) (n:Str) (y:Int):yrs bs++[((Sum.inr n:Key),V.int y)]=yrs (bs++[(n,y)]):=by unfold yrs; rw [map_append]; rfl
noncomputable def bro (ws:List (Str×Addr×Nat)) (n:Str):Option (Addr×Nat):=(ws.find? fun p=>decide (p.1=n)).map (·.2)
theorem Zdz (ws:List (Str×Addr×Nat)) (n:Str):Xc (brs ws) (Sum.inr n:Key)=(bro ws n).map fun p=>V.ref p.1:=by
  induction ws with
  | nil=>rfl
  | cons p r ih =>
    by_cases h:p.1=n
    · rw [show brs (p::r)=((Sum.inr p.1:Key),V.ref p.2.1)::brs r from rfl,Zba (by rw [h])];unfold bro;simp [find?_cons,h]
    · rw [show brs (p::r)=((Sum.inr p.1:Key),V.ref p.2.1)::brs r from rfl,Zbb (by simpa using h),ih];unfold bro;simp [find?_cons,h]
theorem Zdw {ws:List (Str×Addr×Nat)} {n:Str} {a:Addr} {c:Nat} (h:bro ws n=some (a,c)):(n,a,c)∈ws:=by
  unfold bro at h;obtain ⟨p,hp,e⟩:=Option.map_eq_some_iff.mp h;have h1:=List.mem_of_find?_eq_some hp;have h2:=List.find?_some hp;rw [← of_decide_eq_true h2,← e];exact h1
noncomputable def bump (ws:List (Str×Addr×Nat)) (n:Str):List (Str×Addr×Nat):=ws.map fun p=>if p.1=n then (p.1,p.2.1,p.2.2+1) else p
theorem ZeI (n:Str) (c:Nat):YH n c++[V.str (kid n c)]=YH n (c+1):=by
  unfold YH;rw [List.range_succ,map_append];rfl
theorem ZgL (ws:List (Str×Addr×Nat)) (n:Str):brs (bump ws n)=brs ws:=by
  unfold brs bump;rw [map_map];refine map_congr_left fun p _=>?_;show ((Sum.inr (if p.1=n then (p.1,p.2.1,p.2.2+1) else p).1:Key),V.ref (if p.1=n then (p.1,p.2.1,p.2.2+1) else p).2.1)=_;split <;> rfl
theorem ZgN (ws:List (Str×Addr×Nat)) (n:Str):(bump ws n).map (fun p=>p.2.1)=ws.map fun p=>p.2.1:=by
  unfold bump;rw [map_map];refine map_congr_left fun p _=>?_;show (if p.1=n then (p.1,p.2.1,p.2.2+1) else p).2.1=_;split <;> rfl
theorem ZeP {ws:List (Str×Addr×Nat)} {α:Type} {f:Str×Addr×Nat→α} (h:(ws.map f).Nodup) {p q:Str×Addr×Nat} (hp:p∈ws) (hq:q∈ws) (e:f p=f q):p=q:=by
  induction ws with
  | nil=>cases hp
  | cons x r ih =>
    rw [map_cons,List.nodup_cons] at h;rcases List.mem_cons.mp hp with rfl | hp' <;> rcases List.mem_cons.mp hq with rfl | hq'
    · rfl
    · exact absurd (List.mem_map.mpr ⟨q,hq',e.symm⟩) h.1
    · exact absurd (List.mem_map.mpr ⟨p,hp',e⟩) h.1
    · exact ih h.2 hp' hq'
theorem Book.grown {C:Addr} {H:Hp} {b d1 d2 d3 a:Addr} {bs ds:List (Str×Int)} {ws:List (Str×Addr×Nat)} {n:Str} {c:Nat} (B:Book C H b d1 d2 d3 bs ds ws) (hk:(ws.map fun p=>p.1).Nodup) (hw:(n,a,c)∈ws) :
    Book C (upd H a (.lst (YH n (c+1)))) b d1 d2 d3 bs ds (bump ws n):=by
  obtain ⟨dx,hb⟩:=B.obj;have ha:H a=some (.lst (YH n c)):=B.kids _ hw;refine ⟨⟨dx,by rw [Zh (ZI hb ha (fun z=>by cases z))]; exact hb⟩,by rw [Zh (ZI B.h1 ha (fun z=>by cases z))]; exact B.h1,by rw [Zh (ZI B.h2 ha (fun z=>by cases z))]; exact B.h2,by rw [Zh (ZI B.h3 ha (fun z=>by cases z)),ZgL]; exact B.h3,B.n12,B.n13,B.n23,fun p hp=>?_,by rw [ZgN]; exact B.nod⟩;obtain ⟨q,hq,rfl⟩:=List.mem_map.mp hp
  by_cases e:q.1=n
  · have z:q=(n,a,c):=ZeP hk hq hw e;subst z;rw [if_pos rfl];exact Zd
  · rw [if_neg e];have na:q.2.1≠a:=fun z=>e (by rw [ZeP B.nod hq hw z]);rw [Zh na];exact B.kids q hq
end L2
set_option Elab.async false
set_option linter.all false
set_option maxRecDepth 100000
namespace L2
open PySem PySem.Spec
theorem Inv.thaw {X:Cx} {pins:List (Addr×Obj)} {σ:St} {H:Hp} {s:Shared} {d:Addr} {o:Obj} {u:HO} (I:Inv X pins σ H s) (h:H d=some (.frz o u)) (hn:∀ o' u',X.H₀ d≠some (.frz o' u')):Inv X pins σ (upd H d u) s:=by
  have nn:∀ b,H b=none→b≠d:=fun b e z=>by rw [z,h] at e; cases e
  have kp:∀ b,b≠d→upd H d u b=H b:=fun b z=>Zh z;have nt:∀ b xs,H b=some (.tup xs)→b≠d:=fun b xs e z=>by rw [z,h] at e; cases e
  have no:∀ b a,H b=some (.own a)→b≠d:=fun b a e z=>by rw [z,h] at e; cases e
  refine ⟨I.ok,I.os,I.bare,⟨I.base.keep,I.base.slot,fun b ob q n hx=>?_,I.base.there,fun b xs q=>?_,fun b ob v q=>?_,fun b ps q=>?_⟩,I.loc,I.cell,?_,fun x c e=>?_,fun p hp=>?_,fun a ob e=>?_,I.len⟩
  · have z:=I.base.free b ob q n hx;rw [kp b (nn b z)];exact z
  · have z:=I.base.tups b xs q;rw [kp b (nt b xs z)];exact z
  · have z:=I.base.frzs b ob v q;rw [kp b (fun e=>hn ob v (by rw [← e]; exact q))];exact z
  · obtain ⟨more,z⟩:=I.base.tbls b ps q;exact ⟨more,by rw [kp b (fun e=>by rw [e,h] at z; cases z)]; exact z⟩
  · rw [kp _ (nn _ I.free)];exact I.free
  · have z:=I.freeC x c e;rw [kp _ (nn _ z)];exact z
  · obtain ⟨z1,z2,z3⟩:=I.pin p hp;exact ⟨z1,by rw [kp _ (nn _ z2)]; exact z2,z3⟩
  · by_cases ha:a=d
    · subst ha;rw [Zd] at e;cases e;obtain ⟨_,q⟩:=(show YJ X.prog X.w H s.heap a (.frz o u) from I.hok a _ h);exact q.stay (fun _ _ _ q=>q) (fun b e=>by rw [kp b (no b _ e)]; exact e) fun b xs e=>by rw [kp b (nt b xs e)]; exact e
    · rw [kp a ha] at e;exact (I.hok a ob e).stay (fun _ _ _ q=>q) (fun b e=>by rw [kp b (no b _ e)]; exact e) fun b xs e=>by rw [kp b (nt b xs e)]; exact e
noncomputable def tThaw (d:Addr) (kvs:List (Key×V)) (t:TE):TE:=fun σ H Q=>H d=some (.dK kvs)∧t σ H fun v H2=>∃ o,H2 d=some (.frz o (.dK kvs))∧Q v (upd H2 d (.dK kvs))
theorem ZhA {X:Cx} {e:Expr} {t:TE} {d:Addr} {kvs:List (Key×V)} (he:PE X e t):PE X e (tThaw d kvs t):=by
  rintro pins s σ H Q I ⟨hd,h⟩;have hn:∀ o' u',X.H₀ d≠some (.frz o' u'):=fun o' u' z=>by
    have q:=I.base.frzs d o' u' z;rw [hd] at q;cases q
  exact thn (he pins s σ H _ I h) fun u s' ⟨v,H2,I2,r,o,h2,q⟩=>⟨v,_,I2.thaw h2 hn,r,q⟩
end L2
set_option Elab.async false
set_option linter.all false
set_option maxRecDepth 100000
namespace L2
open PySem PySem.Spec
structure Mdl (H:Hp) (m c e1 e2 e3:Addr) (y:Int) (bs ds cs:List (Str×Int)):Prop where
  tup:H m=some (.tup [.ref c, .ref e1, .ref e2, .ref e3])
  clk:H c=some (.lst [.int y])
  h1:H e1=some (.dK (yrs bs))
  h2:H e2=some (.dK (yrs ds))
  h3:H e3=some (.dK (yrs cs))
  n12:e1≠e2
  n13:e1≠e3
  n23:e2≠e3
theorem Mdl.keep {H H':Hp} {m c e1 e2 e3:Addr} {y:Int} {bs ds cs:List (Str×Int)} (M:Mdl H m c e1 e2 e3 y bs ds cs) (s:Zj H H'):Mdl H' m c e1 e2 e3 y bs ds cs:=
  ⟨s _ _ M.tup,s _ _ M.clk,s _ _ M.h1,s _ _ M.h2,s _ _ M.h3,M.n12,M.n13,M.n23⟩
end L2
set_option Elab.async false
set_option linter.all false
set_option maxRecDepth 100000
namespace L2
open PySem PySem.Spec PyProof.Rows PySem.StrLaws
theorem ZjS {a b s t:List Nat} (h:a++46::s=b++46::t) (hs:46∉s) (ht:46∉t):a=b∧s=t:=by
  rcases List.append_eq_append_iff.mp h with ⟨c,e1,e2⟩ | ⟨c,e1,e2⟩
  · cases c with
    | nil=>simp at e1 e2; exact ⟨e1.symm,e2⟩
    | cons x r =>
      simp at e2;exact absurd (show 46∈s by rw [e2.2]; simp) hs
  · cases c with
    | nil=>simp at e1 e2; exact ⟨e1,e2.symm⟩
    | cons x r =>
      simp at e2;exact absurd (show 46∈t by rw [e2.2]; simp) ht
theorem ZgE:dot.cps.toList=[46]:=by rw [Zb7]
theorem JR (a b:Str):(a++b).cps.toList=a.cps.toList++b.cps.toList:=cps_toList_append a b
theorem XS (a b:Str):(a++b).length=a.length+b.length:=by
  show (a.cps++b.cps).size=_;rw [Array.size_append];rfl
theorem ZfK {a b s t:Str} (h:a++dot++s=b++dot++t) (hs:46∉s.cps.toList) (ht:46∉t.cps.toList):a=b∧s=t:=by
  have z:=congrArg (fun x:Str=>x.cps.toList) h;simp only [JR,ZgE] at z;rw [append_assoc,append_assoc] at z;obtain ⟨e1,e2⟩:=ZjS z hs ht;exact ⟨JK e1,JK e2⟩
noncomputable abbrev ts (i:Nat):Str:=(toString ((i:Nat):Int):Str)
theorem Zbz (i:Int):46∉(toString i:Str).cps.toList:=int_text_free' 46 ⟨by decide,by decide⟩ i
theorem ts_inj {i j:Int} (h0:0≤i) (h1:i<10 ^ 10) (g0:0≤j) (g1:j<10 ^ 10) (h:(toString i:Str)=(toString j:Str)):i=j:=by
  have a:=PySem.W.KIN.num_reads h0 h1;have b:=PySem.W.KIN.num_reads g0 g1;rw [show PySem.Str.ofString (toString i)=PySem.Str.ofString (toString j) from h,b] at a;exact (Option.some.inj a).symm
theorem ZhH {n m:Str} {i j:Nat} (hi:i<10 ^ 9) (hj:j<10 ^ 9) (h:kid n i=kid m j):n=m∧i=j:=by
  obtain ⟨e1,e2⟩:=ZfK h (Zbz _) (Zbz _);exact ⟨e1,by have:=ts_inj (by omega) (by omega) (by omega) (by omega) e2; omega⟩
theorem Zjs {n m:Str} {i j:Nat} (h:kid n i=kid m j):n=m:=(ZfK h (Zbz _) (Zbz _)).1
theorem JY (s:Str):∀ (l:List Str) (_:l≠[]),Str.join dot (l++[s])=Str.join dot l++dot++s
  | [a],_=>rfl
  | a::b::r,_=>by
    show a++dot++Str.join dot ((b::r)++[s])=(a++dot++Str.join dot (b::r))++dot++s;rw [JY s (b::r) (by simp)];refine JK ?_;simp only [JR,append_assoc]
theorem Zei:∀ (l m:List Str),l≠[]→m≠[]→(∀ p∈l,46∉p.cps.toList)→(∀ p∈m,46∉p.cps.toList)→Str.join dot l=Str.join dot m→l=m:=by
  have key:∀ (n:Nat) (l m:List Str),l.length=n→l≠[]→m≠[]→(∀ p∈l,46∉p.cps.toList)→(∀ p∈m,46∉p.cps.toList)→Str.join dot l=Str.join dot m→l=m:=by
    intro n
    induction n with
    | zero=>intro l m h hl; exact absurd (List.length_eq_zero_iff.mp h) hl
    | succ n ih =>
      intro l m h hl hm fl fm e;rcases eq_nil_or_concat l with rfl | ⟨l',a,rfl⟩
      · exact absurd rfl hl
      rcases eq_nil_or_concat m with rfl | ⟨m',b,rfl⟩
      · exact absurd rfl hm
      simp only [List.concat_eq_append] at h hl hm fl fm e ⊢;have noDot:∀ x:Str,46∉x.cps.toList→∀ (k:List Str) (y:Str),k≠[]→x≠Str.join dot (k++[y]):=fun x hx k y hk z=>by
        apply hx;rw [z,JY y k hk,JR,JR,ZgE];simp
      by_cases h1:l'=[]
      · subst h1
        by_cases h2:m'=[]
        · subst h2;have:a=b:=e;rw [this]
        · exact absurd e (noDot a (fl a (by simp)) m' b h2)
      · by_cases h2:m'=[]
        · subst h2;exact absurd e.symm (noDot b (fm b (by simp)) l' a h1)
        · rw [JY a l' h1,JY b m' h2] at e;obtain ⟨e1,e2⟩:=ZfK e (fl a (by simp)) (fm b (by simp));rw [e2,ih l' m' (by simp at h; omega) h1 h2 (fun p hp=>fl p (by simp [hp])) (fun p hp=>fm p (by simp [hp])) e1]
  exact fun l m=>key l.length l m rfl
theorem Zaj {x p:Str} (h:p∈pcs x):46∉p.cps.toList:=split_free x 46 p (by have z:p∈Txt.split x dot:=h; rw [Zb7] at z; exact z)
theorem Y9 (x:Str):Str.join dot (pcs x)=x:=join_split x dot
theorem Zb0 (x:Str):pcs x≠[]:=by rw [XX]; simp
theorem Zfi (n:Str) (i:Nat):pcs (kid n i)=pcs n++[(toString ((i:Int)+1):Str)]:=by
  refine Zei _ _ (Zb0 _) (by simp) (fun p hp=>Zaj hp) (fun p hp=>?_) ?_
  · rcases List.mem_append.mp hp with h | h
    · exact Zaj h
    · rw [List.mem_singleton.mp h];exact Zbz _
  · rw [Y9,JY _ _ (Zb0 n),Y9];rfl
theorem ZhC {x:Str} (h:46∉x.cps.toList):pcs x=[x]:=by
  refine Zei _ _ (Zb0 _) (by simp) (fun p hp=>Zaj hp) (fun p hp=>?_) ?_
  · rw [List.mem_singleton.mp hp]; exact h
  · rw [Y9]; rfl
theorem Zdu {x:Str} (h:gw x=true):46∉x.cps.toList:=fun hm=>by
  unfold gw at h;simp only [and_eq_true] at h;have z:=List.all_eq_true.mp h.1.2 46 hm;revert z
  decide
theorem ZfE {x:Str} (h:gw x=true):1≤x.length∧x.length≤8:=by
  unfold gw at h;simp only [and_eq_true,decide_eq_true_eq] at h;exact ⟨h.1.1.1,h.1.1.2⟩
theorem ZhI (n:Str) (i:Nat):46∈(kid n i).cps.toList:=by
  unfold kid;rw [JR,JR,ZgE];simp
theorem Zhf {x n:Str} {i:Nat} (h:gw x=true):x≠kid n i:=fun e=>Zdu h (e▸ZhI n i)
theorem ZiL (n:Str) (i:Nat):wd (kid n i)=wd n:=by
  unfold wd;rw [Zfi];cases e:pcs n with
  | nil=>exact absurd e (Zb0 n)
  | cons a r=>rfl
theorem Zfw (n:Str) (i:Nat):nms (kid n i)=nms n++[(toString ((i:Int)+1):Str)]:=by
  unfold nms;rw [Zfi];cases e:pcs n with
  | nil=>exact absurd e (Zb0 n)
  | cons a r=>rfl
theorem wd_gw {x:Str} (h:gw x=true):wd x=x:=by unfold wd; rw [ZhC (Zdu h)]; rfl
theorem Zjg {x:Str} (h:gw x=true):nms x=[]:=by unfold nms; rw [ZhC (Zdu h)]; rfl
theorem Zfg {x:Str} (h:gw x=true):pok x=true:=by
  unfold pok;rw [wd_gw h,Zjg h,h];rfl
theorem gn_tab:∀ k∈List.range 99,gn (ts (k+1))=true∧(ts (k+1)).length≤2:=by decide +kernel
theorem gn_ts {i:Nat} (h:i<99):gn (toString ((i:Int)+1):Str)=true∧(toString ((i:Int)+1):Str).length≤2:=gn_tab i (List.mem_range.mpr h)
noncomputable def Xv (x:Str):Nat:=(Builtin.Str.occurrences x dot 0 x.length (x.length+1)).length
theorem ZjN (x:Str):(Xv x:Int)=cnt 46 x.cps.toList:=by
  have h:=count_is x 46;unfold Xv;rw [Zb7];exact h
theorem Za3 (x:Str):Xv x=(nms x).length:=by
  have h:=cnt_join dot 46 (by rw [ZgE]; rfl) (pcs x) (fun t ht=>Zaj ht);rw [Y9,← ZjN,XX] at h;simp at h;omega
theorem ZjM (n:Str) (i:Nat):Xv (kid n i)=Xv n+1:=by rw [Za3,Za3,Zfw]; simp
theorem Zhy {n:Str} {i:Nat} (h:pok n=true) (hd:Xv n<5) (hi:i<99):pok (kid n i)=true:=by
  unfold pok at h ⊢;simp only [and_eq_true,decide_eq_true_eq] at h ⊢;rw [ZiL,Zfw];rw [Za3] at hd;refine ⟨⟨h.1.1,by simp; omega⟩,?_⟩;rw [all_append,h.2];have z:=(gn_ts hi).1;simp only [List.all_cons,List.all_nil,Bool.and_true,Bool.true_and];exact z
theorem Zjx (B:Nat) (n:Nat):∀ (l:List Str),l.length=n→l≠[]→(∀ p∈l.tail,p.length≤B)→(Str.join dot l).length+B+1≤(l.headD Str.empty).length+l.length * (B+1):=by
  induction n with
  | zero=>intro l h hl; exact absurd (List.length_eq_zero_iff.mp h) hl
  | succ n ih =>
    intro l hn hl hB;rcases eq_nil_or_concat l with rfl | ⟨l,s,rfl⟩
    · exact absurd rfl hl
    simp only [List.concat_eq_append] at hn hl hB ⊢
    by_cases h:l=[]
    · subst h;show s.length+B+1≤s.length+1 * (B+1);omega
    · have z:=ih l (by simp at hn; omega) h (fun p hp=>hB p (by cases l with | nil=>exact absurd rfl h | cons a r=>simp at hp ⊢; exact .inl hp));have zs:s.length≤B:=hB s (by cases l with | nil=>exact absurd rfl h | cons a r=>simp);rw [JY s l h,XS,XS];have hd:(l++[s]).headD Str.empty=l.headD Str.empty:=by cases l with | nil=>exact absurd rfl h | cons a r=>rfl
      have d1:dot.length=1:=by rw [Zb7]; rfl
      rw [hd,d1,length_append,length_singleton,Nat.add_mul];omega
theorem Xh {x:Str} (h:pok x=true):x.length≤23:=by
  unfold pok at h;simp only [and_eq_true,decide_eq_true_eq] at h;have hl:=Zjx 2 _ (pcs x) rfl (Zb0 x) (fun p hp=>by
    have z:=List.all_eq_true.mp h.2 p hp;unfold gn at z;simp only [and_eq_true,decide_eq_true_eq] at z;exact z.1.1.2)
  rw [Y9] at hl;have hw:=(ZfE h.1.1).2;have e:(pcs x).headD Str.empty=wd x:=by rw [XX]; rfl
  have e2:(pcs x).length=(nms x).length+1:=by rw [XX]; simp
  rw [e,e2] at hl;omega
end L2
set_option Elab.async false
set_option linter.all false
set_option maxRecDepth 100000
namespace L2
open PySem PySem.Spec PyProof.Rows
theorem ZiJ (bs:List (Str×Int)) (m:Str) (y:Int) (n:Str):yr (bs++[(m,y)]) n=(yr bs n).or (if m=n then some y else none):=by
  unfold yr;rw [List.find?_append];cases e:bs.find? (fun p=>decide (p.1=n)) with
  | some p=>rfl
  | none =>
    by_cases h:m=n
    · simp [h,find?_cons]
    · simp [h,find?_cons]
theorem Ye (bs:List (Str×Int)) (m:Str) (y:Int) (n:Str):has (bs++[(m,y)]) n=(has bs n || decide (m=n)):=by
  unfold has;rw [ZiJ];cases yr bs n with
  | some v=>rfl
  | none=>by_cases h:m=n <;> simp [h]
theorem ZbH (bs:List (Str×Int)) (n:Str):has bs n=true↔n∈bs.map (·.1):=by
  unfold has yr;rw [isSome_map,List.find?_isSome,mem_map];constructor
  · rintro ⟨p,hp,e⟩; exact ⟨p,hp,of_decide_eq_true e⟩
  · rintro ⟨p,hp,e⟩; exact ⟨p,hp,decide_eq_true e⟩
theorem ZfD (bs:List (Str×Int)) (n:Str):has bs n=false↔n∉bs.map (·.1):=by
  rw [← ZbH]; cases has bs n <;> simp
theorem Zkr (n:Str):has [] n=false:=rfl
noncomputable def nk (bs:List (Str×Int)) (n:Str):Nat:=(List.range 1000).findIdx fun i => !has bs (kid n i)
theorem Zjh {bs:List (Str×Int)} {n:Str} {k:Nat} (hk:k<1000) (h1:∀ i,i<k→has bs (kid n i)=true) (h2:has bs (kid n k)=false):nk bs n=k:=by
  unfold nk;refine (List.findIdx_eq (by rw [length_range]; exact hk)).mpr ⟨?_,fun j hj=>?_⟩
  · rw [List.getElem_range,h2]; rfl
  · rw [List.getElem_range,h1 j hj]; rfl
theorem Zgx {bs bs':List (Str×Int)} {n:Str} (h:∀ i,has bs (kid n i)=has bs' (kid n i)):nk bs n=nk bs' n:=by
  unfold nk;congr 1;funext i;rw [h i]
structure Wf (bs ds:List (Str×Int)):Prop where
  nod:(bs.map (·.1)).Nodup
  sub:∀ n,has ds n=true→has bs n=true
  wrt:∀ n,has bs n=true→pok n=true
  par:∀ n i,has bs (kid n i)=true→has bs n=true
  cnt:∀ n i,i<1000→(has bs (kid n i)=true↔i<nk bs n)
  lim:bs.length<1000
  few:∀ n,nk bs n≤bs.length
theorem Wf.nil:Wf [] [] where
  nod:=by simp
  sub:=fun n h=>by cases h
  wrt:=fun n h=>by cases h
  par:=fun n i h=>by cases h
  cnt:=fun n i _=>by rw [Zjh (k:=0) (by decide) (fun i h=>by omega) rfl]; simp [Zkr]
  lim:=by decide
  few:=fun n=>by rw [Zjh (k:=0) (by decide) (fun i h=>by omega) rfl]; exact zero_le _
theorem Wf.no_kid {bs ds:List (Str×Int)} (W:Wf bs ds) (n:Str):has bs (kid n (nk bs n))=false:=by
  cases e:has bs (kid n (nk bs n)) with
  | false=>rfl
  | true=>exact absurd ((W.cnt n _ (by have:=W.few n; have:=W.lim; omega)).mp e) (lt_irrefl _)
theorem Wf.nk_none {bs ds:List (Str×Int)} (W:Wf bs ds) {n:Str} (h:has bs n=false):nk bs n=0:=by
  cases e:nk bs n with
  | zero=>rfl
  | succ k =>
    have z:=W.par n 0 ((W.cnt n 0 (by omega)).mpr (by omega));rw [h] at z;cases z
theorem Zfx {bs:List (Str×Int)} {w:Str} {y:Int} (hw:gw w=true) (n:Str):nk (bs++[(w,y)]) n=nk bs n:=Zgx fun i=>by
  rw [Ye,decide_eq_false (Zhf hw),Bool.or_false]
theorem Zfv {bs:List (Str×Int)} {m:Str} {y:Int} (h:(bs.map (·.1)).Nodup) (hm:has bs m=false):((bs++[(m,y)]).map (·.1)).Nodup:=by
  rw [map_append,nodup_append];refine ⟨h,by simp,fun a ha b hb e=>?_⟩;rw [map_cons,map_nil,mem_singleton] at hb;have hb':b=m:=hb;exact (ZfD bs m).mp hm (by rw [← hb',← e]; exact ha)
theorem Wf.arrive {bs ds:List (Str×Int)} {w:Str} {y:Int} (W:Wf bs ds) (hw:gw w=true) (h:has bs w=false) (hl:bs.length<900):Wf (bs++[(w,y)]) ds where
  nod:=Zfv W.nod h
  sub:=fun n hn=>by rw [Ye,W.sub n hn]; rfl
  wrt:=fun n hn=>by
    rw [Ye,or_eq_true] at hn;rcases hn with e | e
    · exact W.wrt n e
    · rw [← of_decide_eq_true e]; exact Zfg hw
  par:=fun n i hn=>by
    rw [Ye,decide_eq_false (Zhf hw),Bool.or_false] at hn;rw [Ye,W.par n i hn]; rfl
  cnt:=fun n i hi=>by rw [Zfx hw,Ye,decide_eq_false (Zhf hw),Bool.or_false]; exact W.cnt n i hi
  lim:=by rw [length_append,length_singleton]; omega
  few:=fun n=>by rw [Zfx hw,length_append]; have:=W.few n; omega
theorem Zjt {n m:Str} {i j:Nat} (h:n≠m):kid n i≠kid m j:=fun e=>h (Zjs e)
theorem Zfy {bs ds:List (Str×Int)} (W:Wf bs ds) {n:Str} {y:Int} (hl:bs.length<900) (m:Str):nk (bs++[(kid n (nk bs n),y)]) m=if m=n then nk bs n+1 else nk bs m:=by
  have hf:=W.few n
  by_cases h:m=n
  · subst h;rw [if_pos rfl];refine Zjh (by omega) (fun i hi=>?_) ?_
    · rw [Ye]
      by_cases e:i<nk bs m
      · rw [(W.cnt m i (by omega)).mpr e]; rfl
      · rw [show i=nk bs m by omega]; simp
    · rw [Ye];have z:has bs (kid m (nk bs m+1))=false:=by
        cases e:has bs (kid m (nk bs m+1)) with
        | false=>rfl
        | true=>have:=(W.cnt m _ (by omega)).mp e; omega
      rw [z,decide_eq_false (fun e=>by have:=(ZhH (by omega) (by omega) e).2; omega)];rfl
  · rw [if_neg h];exact Zgx fun i=>by rw [Ye,decide_eq_false (Zjt (Ne.symm h)),Bool.or_false]
theorem Wf.birth {bs ds:List (Str×Int)} {n:Str} {y:Int} (W:Wf bs ds) (hn:has bs n=true) (hd:Xv n<5) (hl:bs.length<900) (h99:nk bs n<99):Wf (bs++[(kid n (nk bs n),y)]) ds where
  nod:=Zfv W.nod (W.no_kid n)
  sub:=fun m h=>by rw [Ye,W.sub m h]; rfl
  wrt:=fun m h=>by
    rw [Ye,or_eq_true] at h;rcases h with e | e
    · exact W.wrt m e
    · rw [← of_decide_eq_true e]; exact Zhy (W.wrt n hn) hd h99
  par:=fun m i h=>by
    rw [Ye,or_eq_true] at h;rcases h with e | e
    · rw [Ye,W.par m i e]; rfl
    · rw [← Zjs (of_decide_eq_true e),Ye,hn]; rfl
  cnt:=fun m i hi=>by
    rw [Zfy W hl,Ye]
    by_cases h:m=n
    · subst h;rw [if_pos rfl]
      by_cases e:i=nk bs m
      · subst e; simp
      · have hf:=W.few m;rw [decide_eq_false (fun z=>e (ZhH (by omega) (by omega) z).2.symm),Bool.or_false,W.cnt m i hi];omega
    · rw [if_neg h,decide_eq_false (Zjt (Ne.symm h)),Bool.or_false]; exact W.cnt m i hi
  lim:=by rw [length_append,length_singleton]; omega
  few:=fun m=>by
    rw [Zfy W hl,length_append,length_singleton];have a:=W.few m;have b:=W.few n;split <;> omega
theorem Wf.death {bs ds:List (Str×Int)} {n:Str} {y:Int} (W:Wf bs ds) (hn:has bs n=true):Wf bs (ds++[(n,y)]) where
  nod:=W.nod
  sub:=fun m h=>by
    rw [Ye,or_eq_true] at h;rcases h with e | e
    · exact W.sub m e
    · rw [← of_decide_eq_true e]; exact hn
  wrt:=W.wrt
  par:=W.par
  cnt:=W.cnt
  lim:=W.lim
  few:=W.few
theorem Zj.kp {H H':Hp} (s:Zj H H'):Z3 [] H H':=⟨fun a o _ e=>s a o e,fun a e=>s.free e⟩
theorem Z3.refl (X:List Addr) (H:Hp):Z3 X H H:=⟨fun _ _ _ e=>e,fun _ e=>e⟩
theorem Z3.tr {X Y:List Addr} {H1 H2 H3:Hp} (k:Z3 X H1 H2) (q:Z3 Y H2 H3) (h:∀ a∈Y,a∈X∨H1 a=none):Z3 X H1 H3:=
  ⟨fun a o hn e=>q.1 a o (fun hy=>(h a hy).elim hn fun z=>by rw [z] at e; cases e) (k.1 a o hn e),fun a e=>k.2 a (q.2 a e)⟩
theorem Z3.same {X:List Addr} {H1 H2 H3:Hp} (k:Z3 X H1 H2) (q:Zj H2 H3):Z3 X H1 H3:=k.tr q.kp (fun a h=>nomatch h)
theorem Zj.keep {Y:List Addr} {H1 H2 H3:Hp} (k:Zj H1 H2) (q:Z3 Y H2 H3) (h:∀ a∈Y,H1 a=none):Zj H1 H3:=fun b o e=>(k.kp.tr q (fun a ha => .inr (h a ha))).1 b o (fun h=>nomatch h) e
noncomputable def ZaB (H:Hp) (R R':List Addr):Prop:=∀ a∈R',a∈R∨H a=none
theorem ZaB.refl (H:Hp) (R:List Addr):ZaB H R R:=fun _ h => .inl h
noncomputable def ZfQ (H:Hp) (R:List Addr):Prop:=∀ a∈R,∃ o,H a=some o
noncomputable def Dj (R S:List Addr):Prop:=∀ a∈R,a∉S
theorem Dj.symm {R S:List Addr} (h:Dj R S):Dj S R:=fun a ha hb=>h a hb ha
theorem Dj.grow {H:Hp} {R S S':List Addr} (h:Dj R S) (l:ZfQ H R) (g:ZaB H S S'):Dj R S':=fun a ha hb=>(g a hb).elim (h a ha) fun z=>by
  obtain ⟨o,e⟩:=l a ha;rw [z] at e;cases e
theorem ZfQ.dj {H:Hp} {R S:List Addr} (l:ZfQ H R) (h:∀ a∈S,H a=none):Dj R S:=fun a ha hb=>by
  obtain ⟨o,e⟩:=l a ha;rw [h a hb] at e;cases e
noncomputable def Zbu (b d1 d2 d3:Addr) (ws:List (Str×Addr×Nat)):List Addr:=b::d1::d2::d3::ws.map (·.2.1)
structure LivesAt (C:Addr) (H:Hp) (b:Addr) (bs ds:List (Str×Int)) (R:List Addr):Prop where
  ex:∃ d1 d2 d3 ws,Book C H b d1 d2 d3 bs ds ws∧ws.map (·.1)=bs.map (·.1)∧(∀ p∈ws,p.2.2=nk bs p.1)∧R=Zbu b d1 d2 d3 ws
  wf:Wf bs ds
theorem LivesAt.live {C:Addr} {H:Hp} {b:Addr} {bs ds:List (Str×Int)} {R:List Addr} (L:LivesAt C H b bs ds R):ZfQ H R:=by
  obtain ⟨d1,d2,d3,ws,B,_,_,rfl⟩:=L.ex;obtain ⟨dx,hb⟩:=B.obj;intro a ha;rcases List.mem_cons.mp ha with rfl | ha
  · exact ⟨_,hb⟩
  rcases List.mem_cons.mp ha with rfl | ha
  · exact ⟨_,B.h1⟩
  rcases List.mem_cons.mp ha with rfl | ha
  · exact ⟨_,B.h2⟩
  rcases List.mem_cons.mp ha with rfl | ha
  · exact ⟨_,B.h3⟩
  obtain ⟨p,hp,rfl⟩:=List.mem_map.mp ha;exact ⟨_,B.kids p hp⟩
theorem LivesAt.mv {C:Addr} {H H':Hp} {b:Addr} {bs ds:List (Str×Int)} {R:List Addr} (L:LivesAt C H b bs ds R) (h:∀ a∈R,∀ o,H a=some o→H' a=some o):LivesAt C H' b bs ds R:=by
  obtain ⟨d1,d2,d3,ws,B,k1,k2,rfl⟩:=L.ex;obtain ⟨dx,hb⟩:=B.obj;refine ⟨⟨d1,d2,d3,ws,⟨⟨dx,h _ ?_ _ hb⟩,h _ ?_ _ B.h1,h _ ?_ _ B.h2,h _ ?_ _ B.h3,B.n12,B.n13,B.n23,fun p hp=>h _ ?_ _ (B.kids p hp),B.nod⟩,k1,k2,rfl⟩,L.wf⟩
  all_goals unfold Zbu
  · simp
  · simp
  · simp
  · simp
  · exact mem_cons_of_mem _ (mem_cons_of_mem _ (mem_cons_of_mem _ (mem_cons_of_mem _ (List.mem_map.mpr ⟨p,hp,rfl⟩))))
theorem LivesAt.same {C:Addr} {H H':Hp} {b:Addr} {bs ds:List (Str×Int)} {R:List Addr} (L:LivesAt C H b bs ds R) (s:Zj H H'):LivesAt C H' b bs ds R:=L.mv fun a _ o e=>s a o e
noncomputable def Zak (m c e1 e2 e3:Addr):List Addr:=[m,c,e1,e2,e3]
structure MdlAt (H:Hp) (m:Addr) (y:Int) (bs ds cs:List (Str×Int)) (R:List Addr):Prop where
  ex:∃ c e1 e2 e3,Mdl H m c e1 e2 e3 y bs ds cs∧R=Zak m c e1 e2 e3
theorem MdlAt.live {H:Hp} {m:Addr} {y:Int} {bs ds cs:List (Str×Int)} {R:List Addr} (L:MdlAt H m y bs ds cs R):ZfQ H R:=by
  obtain ⟨c,e1,e2,e3,B,rfl⟩:=L.ex;intro a ha;rcases List.mem_cons.mp ha with rfl | ha
  · exact ⟨_,B.tup⟩
  rcases List.mem_cons.mp ha with rfl | ha
  · exact ⟨_,B.clk⟩
  rcases List.mem_cons.mp ha with rfl | ha
  · exact ⟨_,B.h1⟩
  rcases List.mem_cons.mp ha with rfl | ha
  · exact ⟨_,B.h2⟩
  rw [List.mem_singleton.mp ha];exact ⟨_,B.h3⟩
theorem MdlAt.mv {H H':Hp} {m:Addr} {y:Int} {bs ds cs:List (Str×Int)} {R:List Addr} (L:MdlAt H m y bs ds cs R) (h:∀ a∈R,∀ o,H a=some o→H' a=some o):MdlAt H' m y bs ds cs R:=by
  obtain ⟨c,e1,e2,e3,B,rfl⟩:=L.ex;exact ⟨c,e1,e2,e3,⟨h _ (by simp [Zak]) _ B.tup,h _ (by simp [Zak]) _ B.clk,h _ (by simp [Zak]) _ B.h1,h _ (by simp [Zak]) _ B.h2,h _ (by simp [Zak]) _ B.h3,B.n12,B.n13,B.n23⟩,rfl⟩
theorem MdlAt.same {H H':Hp} {m:Addr} {y:Int} {bs ds cs:List (Str×Int)} {R:List Addr} (L:MdlAt H m y bs ds cs R) (s:Zj H H'):MdlAt H' m y bs ds cs R:=L.mv fun a _ o e=>s a o e
theorem MdlAt.keep {H H':Hp} {m:Addr} {y:Int} {bs ds cs:List (Str×Int)} {R X:List Addr} (L:MdlAt H m y bs ds cs R) (k:Z3 X H H') (d:Dj R X):MdlAt H' m y bs ds cs R:=L.mv fun a ha o e=>k.1 a o (d a ha) e
end L2
set_option Elab.async false
set_option linter.all false
namespace L2
open PySem PySem.Spec
set_option genInjectivity false in
set_option genSizeOfSpec false in
structure Ga where
  LandError:Addr:=0
  NoText:Addr:=0
  OutOfBound:Addr:=0
  Taken:Addr:=0
  NoPerson:Addr:=0
  Gone:Addr:=0
  TooDeep:Addr:=0
  Lives:Addr:=0
  World:Addr:=0
  BARRED:Addr:=0
  ABOUT_PEOPLE:Addr:=0
  LONGEST_WORD:Tok:=0
  LONGEST_NUMBER:Tok:=0
  MOST_NUMBERS:Tok:=0
  LAST_FIRST_YEAR:Tok:=0
  MOST_YEARS:Tok:=0
  OLDEST:Tok:=0
  MET:Tok:=0
  FAILED:Tok:=0
  HANGS:Tok:=0
  LATE:Tok:=0
  SURE:Tok:=0
theorem Xr {X:Cx}:Xw (CXR X.prog X.w X.base) X (fun _ _ _=>False):=fun _ _ _ _ _ _ _ h=>by
  obtain ⟨_,_,_,_,_,_,_,_,_,_,_,_,_,_,q⟩:=h;exact q.elim
structure Dk (P:Program) (w:World) (K:Frag) (mg:Str→Option Value) (base:Heap) (CX:CXT) (C:Addr) (k:Nat) (x:Str) (ps:List Str) (sp:Sp):Prop where
  mgx:mg x=some (.ref C)
  ex:∃ f fd,FnOk P w K mg base CX k f fd ps sp∧Mk K C f∧Zav K fd ps []
noncomputable def tMk (C:Addr) (sp:Sp) (E:XK) (t:TA):TE:=fun σ H Q=>t σ H fun vs H1=>∀ x dx,H1 x=none→H1 dx=none→dx≠x →
  sp (.ref x::vs) (upd (upd H1 dx (.own x)) x (.ins C dx [])) (fun v H2=>v = .non∧Q (.ref x) H2) E
theorem ZiU {C:Addr} {sp:Sp} {E:XK} {t:TA}:Zhu C sp [] E t=tMk C sp E t:=by
  funext σ H Q;unfold Zhu tMk;simp only [append_nil]
theorem pe_mk {X:Cx} {CX:CXT} {k:Nat} {C:Addr} {x:Str} {ps:List Str} {sp:Sp} {E:XK} {e:Expr} {es:List Expr} {p pos:Pos} {t:TA} (hx:Xw CX X E) (D:Dk X.prog X.w X.K X.mg X.base CX C k x ps sp) (hr:Room (k+1) X.A) (hg:Gl X x) (ha:PA X (e::es) t)
    (hdb:(x == ("__debug__":Str))=false:=by decide) (he:starEach (e::es) X.env=(false,eval e X.env)::starEach es X.env:=by rfl) (hpl:(backTo pos (starEach es X.env)).any (·.1)=false:=by rfl) :
    PE X (.Call (.Name x p) (e::es) [] pos) (tMk C sp E t):=by
  obtain ⟨f,fd,F,M,hb⟩:=D.ex;rw [← ZiU];exact Zke M F hr hg D.mgx hb .nil hx ha hdb he hpl
theorem pe_mk0 {X:Cx} {CX:CXT} {k:Nat} {C:Addr} {x:Str} {ps:List Str} {sp:Sp} {E:XK} {p pos:Pos} (hx:Xw CX X E) (D:Dk X.prog X.w X.K X.mg X.base CX C k x ps sp) (hr:Room (k+1) X.A) (hg:Gl X x)
    (hdb:(x == ("__debug__":Str))=false:=by decide):PE X (.Call (.Name x p) [] [] pos) (tMk C sp E tNil):=by
  obtain ⟨f,fd,F,M,hb⟩:=D.ex;rw [← ZiU];exact Zi8 M F hr hg D.mgx hb .nil hx hdb
end L2
set_option Elab.async false
set_option linter.all false
set_option maxRecDepth 100000
namespace L2
open PySem PySem.Spec PyProof.Rows
section
variable {X:Cx}
noncomputable def Zfd (K:Frag):List V→Hp→VK→Prop:=fun xs H Q=>∃ p ys,xs=[.ref p]∧(SqL K H p ys∨SqT K H p ys)∧∀ l,H l=none→Q (.ref l) (upd H l (.lst ys))
theorem Zb8:Jz X (.type "list") (Zfd X.K):=ZfM
end
end L2
set_option Elab.async false
set_option linter.all false
set_option maxRecDepth 100000
namespace L2
open PySem PySem.Spec PyProof.Rows
theorem Zjm (ws:List (Str×Addr×Nat)) (n:Str):(bump ws n).map (·.1)=ws.map (·.1):=by
  unfold bump;rw [map_map];refine map_congr_left fun p _=>?_;show (if p.1=n then (p.1,p.2.1,p.2.2+1) else p).1=p.1;split <;> rfl
theorem ZjV {ws:List (Str×Addr×Nat)} {bs:List (Str×Int)} {n:Str} (k1:ws.map (·.1)=bs.map (·.1)) (k2:∀ p∈ws,p.2.2=nk bs p.1) (h:has bs n=true):∃ a,bro ws n=some (a,nk bs n):=by
  have hm:n∈ws.map (·.1):=by rw [k1]; exact (ZbH bs n).mp h
  unfold bro;obtain ⟨p,hp,e⟩:=List.mem_map.mp hm;have z:(ws.find? fun p=>decide (p.1=n)).isSome=true:=List.find?_isSome.mpr ⟨p,hp,decide_eq_true e⟩;cases q:ws.find? (fun p=>decide (p.1=n)) with
  | none=>rw [q] at z; cases z
  | some r =>
    have r0:decide (r.1=n)=true:=List.find?_some (p:=fun p:Str×Addr×Nat=>decide (p.1=n)) q;have r1:=of_decide_eq_true r0;have r2:=k2 r (List.mem_of_find?_eq_some q);refine ⟨r.2.1,?_⟩;rw [← r1,← r2];rfl
theorem Zjf {ws:List (Str×Addr×Nat)} {bs:List (Str×Int)} {n:Str} (k1:ws.map (·.1)=bs.map (·.1)) (h:has bs n=false):Xc (brs ws) (Sum.inr n:Key)=none:=by
  rw [Zdz];unfold bro;have z:ws.find? (fun p=>decide (p.1=n))=none:=by
    rw [List.find?_eq_none];intro p hp e;exact (ZfD bs n).mp h (by rw [← k1]; exact List.mem_map.mpr ⟨p,hp,of_decide_eq_true e⟩)
  rw [z];rfl
theorem ZgH {ws:List (Str×Addr×Nat)} {bs ds:List (Str×Int)} {w:Str} {y:Int} {l:Addr} (W:Wf bs ds) (k1:ws.map (·.1)=bs.map (·.1)) (k2:∀ p∈ws,p.2.2=nk bs p.1) (hw:gw w=true) (h:has bs w=false) :
    (ws++[(w,l,0)]:List (Str×Addr×Nat)).map (fun p=>p.1)=(bs++[(w,y)]).map (fun p=>p.1)∧∀ p∈ws++[(w,l,0)],p.2.2=nk (bs++[(w,y)]) p.1:=by
  refine ⟨by rw [map_append,map_append,k1]; rfl,fun p hp=>?_⟩;rw [Zfx hw];rcases List.mem_append.mp hp with hp | hp
  · exact k2 p hp
  · rw [List.mem_singleton.mp hp];exact (W.nk_none h).symm
theorem ZgI {ws:List (Str×Addr×Nat)} {bs ds:List (Str×Int)} {n:Str} {y:Int} {l:Addr} (W:Wf bs ds) (k1:ws.map (·.1)=bs.map (·.1)) (k2:∀ p∈ws,p.2.2=nk bs p.1) (hn:has bs n=true) (hl:bs.length<900) :
    (bump ws n++[(kid n (nk bs n),l,0)]:List (Str×Addr×Nat)).map (fun p=>p.1)=(bs++[(kid n (nk bs n),y)]).map (fun p=>p.1)∧∀ p∈bump ws n++[(kid n (nk bs n),l,0)],p.2.2=nk (bs++[(kid n (nk bs n),y)]) p.1:=by
  refine ⟨by rw [map_append,map_append,Zjm,k1]; rfl,fun p hp=>?_⟩;rw [Zfy W hl];rcases List.mem_append.mp hp with hp | hp
  · unfold bump at hp;obtain ⟨q,hq,rfl⟩:=List.mem_map.mp hp;have z:=k2 q hq
    by_cases e:q.1=n
    · rw [if_pos e,if_pos e];show q.2.2+1=_;rw [z,e]
    · rw [if_neg e,if_neg e];exact z
  · rw [List.mem_singleton.mp hp];have ne:¬ kid n (nk bs n)=n:=fun e=>by
      have z:=W.no_kid n;rw [e,hn] at z;cases z
    rw [if_neg ne];exact (W.nk_none (W.no_kid n)).symm
theorem ZbJ {b d1 d2 d3:Addr} {ws:List (Str×Addr×Nat)}:b∈Zbu b d1 d2 d3 ws∧d1∈Zbu b d1 d2 d3 ws∧d2∈Zbu b d1 d2 d3 ws∧d3∈Zbu b d1 d2 d3 ws∧∀ p∈ws,p.2.1∈Zbu b d1 d2 d3 ws:=
  ⟨by simp [Zbu],by simp [Zbu],by simp [Zbu],by simp [Zbu],fun p hp=>mem_cons_of_mem _ (mem_cons_of_mem _ (mem_cons_of_mem _ (mem_cons_of_mem _ (List.mem_map.mpr ⟨p,hp,rfl⟩))))⟩
theorem ZeL {H:Hp} {b d1 d2 d3 l:Addr} {ws ws':List (Str×Addr×Nat)} {x:Str} (h:ws'.map (·.2.1)=ws.map (·.2.1)) (hl:H l=none):ZaB H (Zbu b d1 d2 d3 ws) (Zbu b d1 d2 d3 (ws'++[(x,l,0)])):=by
  intro a ha;unfold Zbu at ha ⊢;rw [map_append,h] at ha;simp only [mem_cons,mem_append,map_cons,map_nil,not_mem_nil,or_false] at ha ⊢;rcases ha with rfl | rfl | rfl | rfl | ha | rfl
  · exact .inl (.inl rfl)
  · exact .inl (.inr (.inl rfl))
  · exact .inl (.inr (.inr (.inl rfl)))
  · exact .inl (.inr (.inr (.inr (.inl rfl))))
  · exact .inl (.inr (.inr (.inr (.inr ha))))
  · exact .inr hl
theorem Z3.wide {X Y:List Addr} {H H':Hp} (k:Z3 X H H') (h:∀ a∈X,a∈Y):Z3 Y H H':=⟨fun a o hn e=>k.1 a o (fun z=>hn (h a z)) e,k.2⟩
theorem X0 {H:Hp} {a:Addr} {o:HO}:Z3 [a] H (upd H a o):=⟨fun b u hn e=>by rw [Zh (fun z=>hn (by simp [z]))]; exact e,fun b e=>by
  by_cases z:b=a
  · rw [z,Zd] at e; cases e
  · rw [Zh z] at e; exact e⟩
noncomputable def al (bs ds:List (Str×Int)) (n:Str):Bool:=has bs n && !has ds n
end L2
set_option Elab.async false
set_option linter.all false
set_option maxRecDepth 100000
set_option maxHeartbeats 0
namespace L2
open PySem PySem.Spec
theorem YL {names:List (Str×NameKind)} {cl:List (Str×Addr)} (h:names.all (fun p => !(p.2 == .cell || p.2 == .free) || (cl.map (·.1)).contains p.1)=true):∀ x,(names.lookup x=some .cell∨names.lookup x=some .free)→∃ c,cl.lookup x=some c:=by
  intro x hx;have key:∀ k,names.lookup x=some k→(k == NameKind.cell || k == NameKind.free)=true→∃ c,cl.lookup x=some c:=fun k e hk=>by
    have m:=PySem.mem_of_lookup e;have q:=List.all_eq_true.mp h _ m;simp only [hk,Bool.not_true,Bool.false_or] at q;have q':x∈cl.map (·.1):=by simpa using q
    clear q h m e
    induction cl with
    | nil=>simp at q'
    | cons p r ih =>
      obtain ⟨y,c⟩:=p;rw [List.lookup_cons];cases z:x == y with
      | true=>exact ⟨c,rfl⟩
      | false =>
        refine ih ?_;rcases List.mem_cons.mp (show x∈y::r.map (·.1) from q') with e | e
        · rw [e] at z;simp at z
        · exact e
  rcases hx with e | e
  · exact key _ e rfl
  · exact key _ e rfl
theorem tAll_T {σ:St} {H:Hp} {A B:Hp→Prop} (h:A H):tAll σ H (fun b H3=>if b=true then A H3 else B H3):=by
  show if true=true then A H else B H
  exact Yw h
noncomputable def abc:Str:="abcdefghijklmnopqrstuvwxyz"
theorem Zje {a b:Str} (ha:PyData.strOk a=true) (hb:PyData.strOk b=true):PyData.strOk (a++b)=true:=by
  unfold PyData.strOk at *;show (a.cps++b.cps).all _=true;rw [Array.all_append,ha,hb];rfl
theorem Zkm (a b:Str):(a++b).length=a.length+b.length:=by
  show (a.cps++b.cps).size=_;rw [Array.size_append];rfl
theorem Jw {X:Cx} {st:List Stmt} {t t':TS} (h:PSs X st t) (i:∀ D σ H,t' D σ H→t D σ H):PSs X st t':=fun pins s σ H D I q=>h pins s σ H D I (i D σ H q)
theorem ZhU (a x:Str):(a == x)=decide (x=a):=by
  by_cases h:x=a
  · subst h;rw [decide_eq_true rfl];exact beq_self_eq_true x
  · rw [decide_eq_false h];exact beq_eq_false_iff_ne.mpr fun z=>h z.symm
theorem ZE {n:Nat} (h:n≤500):n≤sizeLine:=le_of_lt (ZC (by omega))
theorem ts_tab:∀ k∈List.range 131,(Str.ofString (toString ((k:Nat):Int))).length≤4:=by decide +kernel
theorem Ze1 {i:Int} (h0:0≤i) (h1:i<131):(Str.ofString (toString i)).length≤4:=by
  have:=ts_tab i.toNat (List.mem_range.mpr (by omega));rw [show ((i.toNat:Nat):Int)=i by omega] at this;exact this
theorem ZaP {i:Int} (h0:0≤i) (h1:i<131):i.natAbs.log2<1920:=by
  have:i.natAbs.log2≤i.natAbs:=Nat.log2_le_self _;omega
open PySem PySem.Spec
theorem abc_in {i:Int} (h0:0≤i) (h1:i<26):∃ c:Nat,atI abc.cps.toList i=some c∧inR 97 122 c=true:=by
  have hl:abc.cps.toList.length=26:=by decide +kernel
  have hi:i.toNat<abc.cps.toList.length:=by omega
  have e:atI abc.cps.toList ((i.toNat:Nat):Int)=some (abc.cps.toList[i.toNat]):=Za4 (getElem?_eq_getElem hi);rw [show ((i.toNat:Nat):Int)=i by omega] at e;refine ⟨_,e,?_⟩;have a:abc.cps.toList.all (inR 97 122)=true:=by decide +kernel
  exact List.all_eq_true.mp a _ (getElem_mem hi)
end L2
set_option Elab.async false
set_option linter.all false
set_option maxRecDepth 100000
namespace L2
open PySem PySem.Spec
inductive Deed where
  | arrive (w:Str) (a:Int)
  | birth (n:Str)
  | death (n:Str)
  | comes (w:Str)
  | years (k:Int)
noncomputable def Deed.vals:Deed→List V
  | .arrive w a=>[.str "arrive", .str w, .int a]
  | .birth n=>[.str "birth", .str n]
  | .death n=>[.str "death", .str n]
  | .comes w=>[.str "comes", .str w]
  | .years k=>[.str "years", .int k]
structure Mo where
  y:Int
  bs:List (Str×Int)
  ds:List (Str×Int)
  cs:List (Str×Int)
noncomputable def Mo.step (S:Mo):Deed→Mo
  | .arrive w a=>{ S with bs:=S.bs++[(w,S.y - a)] }
  | .birth n=>{ S with bs:=S.bs++[(kid n (nk S.bs n),S.y)] }
  | .death n=>{ S with ds:=S.ds++[(n,S.y)] }
  | .comes w=>{ S with cs:=S.cs++[(w,S.y)] }
  | .years k=>{ S with y:=S.y+k }
noncomputable def Mo.good (S:Mo) (far:Int):Deed→Prop
  | .arrive w a=>gw w=true∧has S.bs w=false∧0≤a∧a≤120
  | .birth n=>has S.bs n=true∧has S.ds n=false∧Xv n<5
  | .death n=>has S.bs n=true∧has S.ds n=false
  | .comes w=>gw w=true∧has S.cs w=false
  | .years k=>1≤k∧k≤far
structure Mo.Ok (S:Mo) (k:Nat):Prop where
  wf:Wf S.bs S.ds
  cw:∀ w,has S.cs w=true→gw w=true
  lb:S.bs.length≤k
  ld:S.ds.length≤k
  lc:S.cs.length≤k
noncomputable def Jr (H:Hp) (m:Addr) (S:Mo) (R:List Addr):Prop:=MdlAt H m S.y S.bs S.ds S.cs R
theorem Jr.live {H:Hp} {m:Addr} {S:Mo} {R:List Addr} (L:Jr H m S R):ZfQ H R:=MdlAt.live L
theorem Jr.same {H H':Hp} {m:Addr} {S:Mo} {R:List Addr} (L:Jr H m S R) (s:Zj H H'):Jr H' m S R:=MdlAt.same L s
theorem Jr.keep {H H':Hp} {m:Addr} {S:Mo} {R X:List Addr} (L:Jr H m S R) (k:Z3 X H H') (d:Dj R X):Jr H' m S R:=MdlAt.keep L k d
noncomputable def mo0 (y:Int):Mo:=⟨y,[],[],[]⟩
theorem Mo.Ok.zero (y:Int):(mo0 y).Ok 0:=⟨Wf.nil,(fun _ h=>Bool.noConfusion h),le_refl _,le_refl _,le_refl _⟩
theorem Mo.Ok.step {S:Mo} {k:Nat} {far:Int} {d:Deed} (O:S.Ok k) (h:S.good far d) (hk:k<98):(S.step d).Ok (k+1):=by
  have a:=O.lb;have b:=O.ld;have c:=O.lc;cases d with
  | arrive w a0=>exact ⟨O.wf.arrive h.1 h.2.1 (by omega),O.cw,by show (S.bs++[_]).length≤_; rw [length_append,length_singleton]; omega,by show S.ds.length≤_; omega,by show S.cs.length≤_; omega⟩
  | birth n=>exact ⟨O.wf.birth h.1 h.2.2 (by omega) (by have:=O.wf.few n; omega),O.cw,by show (S.bs++[_]).length≤_; rw [length_append,length_singleton]; omega,by show S.ds.length≤_; omega,by show S.cs.length≤_; omega⟩
  | death n=>exact ⟨O.wf.death h.1,O.cw,by show S.bs.length≤_; omega,by show (S.ds++[_]).length≤_; rw [length_append,length_singleton]; omega,by show S.cs.length≤_; omega⟩
  | comes w=>exact ⟨O.wf,fun x hx=>by
      rw [show (S.step (.comes w)).cs=S.cs++[(w,S.y)] from rfl,Ye,or_eq_true] at hx;rcases hx with e | e
      · exact O.cw x e
      · rw [← of_decide_eq_true e]; exact h.1,by show S.bs.length≤_; omega,by show S.ds.length≤_; omega,by show (S.cs++[_]).length≤_; rw [length_append,length_singleton]; omega⟩
  | years k0=>exact ⟨O.wf,O.cw,by show S.bs.length≤_; omega,by show S.ds.length≤_; omega,by show S.cs.length≤_; omega⟩
theorem Zcs {a:V} {A B:Prop} (k:A):if decide (a=a)=true then A else B:=by rw [if_pos (decide_eq_true rfl)]; exact k
theorem YI {a b:Str} {A B:Prop} (h:(a == b)=false) (k:B):if decide (V.str a=V.str b)=true then A else B:=by
  rw [if_neg]
  · exact k
  · intro e;have e':a=b:=by injection (of_decide_eq_true e)
    rw [e'] at h;simp at h
theorem ZhK {a b:Str} {A B:Prop} (h:(a == b)=false) (k:A):if (!decide (V.str a=V.str b))=true then A else B:=by
  have:decide (V.str a=V.str b)=false:=by
    rw [decide_eq_false_iff_not];intro e;have e':a=b:=by injection e
    rw [e'] at h;simp at h
  rw [this]; exact k
noncomputable def Zef (bs ds:List (Str×Int)):List V:=(bs.filter fun p => !has ds p.1).map fun p=>V.str p.1
theorem Zkk {bs ds:List (Str×Int)} {i:Int} {v:V} (h:atI (Zef bs ds) i=some v):∃ n,v = .str n∧has bs n=true∧has ds n=false:=by
  have hm:v∈Zef bs ds:=by
    unfold atI at h;obtain ⟨j,_,e⟩:=Option.bind_eq_some_iff.mp h;exact mem_of_getElem? e
  unfold Zef at hm;obtain ⟨p,hp,rfl⟩:=List.mem_map.mp hm;obtain ⟨h1,h2⟩:=List.mem_filter.mp hp;exact ⟨p.1,rfl,(ZbH bs p.1).mpr (List.mem_map.mpr ⟨p,h1,rfl⟩),by simpa using h2⟩
structure DeedsAt (H:Hp) (l:Addr) (ds:List Deed) (ps:List Addr):Prop where
  lst:H l=some (.lst (ps.map V.ref))
  len:ps.length=ds.length
  at_:∀ (i:Nat) (p:Addr) (d:Deed),ps[i]? = some p→ds[i]? = some d→H p=some (.tup d.vals)
theorem DeedsAt.mv {H H':Hp} {l:Addr} {ds:List Deed} {ps:List Addr} (D:DeedsAt H l ds ps) (h:∀ a∈l::ps,∀ o,H a=some o→H' a=some o):DeedsAt H' l ds ps:=
  ⟨h _ (by simp) _ D.lst,D.len,fun i p d e1 e2=>h _ (mem_cons_of_mem _ (mem_of_getElem? e1)) _ (D.at_ i p d e1 e2)⟩
theorem DeedsAt.same {H H':Hp} {l:Addr} {ds:List Deed} {ps:List Addr} (D:DeedsAt H l ds ps) (s:Zj H H'):DeedsAt H' l ds ps:=D.mv fun a _ o e=>s a o e
theorem DeedsAt.keep {H H':Hp} {l:Addr} {ds:List Deed} {ps X:List Addr} (D:DeedsAt H l ds ps) (k:Z3 X H H') (d:Dj (l::ps) X):DeedsAt H' l ds ps:=D.mv fun a ha o e=>k.1 a o (d a ha) e
theorem DeedsAt.live {H:Hp} {l:Addr} {ds:List Deed} {ps:List Addr} (D:DeedsAt H l ds ps):ZfQ H (l::ps):=fun a ha=>by
  rcases List.mem_cons.mp ha with rfl | ha
  · exact ⟨_,D.lst⟩
  · obtain ⟨i,hi⟩:=List.mem_iff_getElem?.mp ha;have:i<ds.length:=by rw [← D.len]; exact (List.getElem?_eq_some_iff.mp hi).1
    exact ⟨_,D.at_ i a _ hi (getElem?_eq_getElem this)⟩
open PySem PySem.Spec
section
variable {H:Hp} {m c e1 e2 e3 p:Addr} {y:Int} {bs ds cs:List (Str×Int)} {R:List Addr} {xs:List V}
theorem Mdl.put1 {bs':List (Str×Int)} (B:Mdl H m c e1 e2 e3 y bs ds cs) (eR:R=Zak m c e1 e2 e3) (hp:H p=some (.tup xs)) :
    upd H e1 (.dK (yrs bs')) p=some (.tup xs)∧Z3 R H (upd H e1 (.dK (yrs bs')))∧MdlAt (upd H e1 (.dK (yrs bs'))) m y bs' ds cs R:=
  ⟨by rw [Zh (ZI hp B.h1 (fun z=>by cases z))]; exact hp,X0.wide (fun a ha=>by rw [List.mem_singleton.mp ha,eR]; simp [Zak]),⟨c,e1,e2,e3,⟨by rw [Zh (ZI B.tup B.h1 (fun z=>by cases z))]; exact B.tup,by rw [Zh (ZI B.clk B.h1 (fun z=>by cases z))]; exact B.clk,Zd,by rw [Zh (Ne.symm B.n12)]; exact B.h2,by rw [Zh (Ne.symm B.n13)]; exact B.h3,B.n12,B.n13,B.n23⟩,eR⟩⟩
theorem Mdl.put2 {ds':List (Str×Int)} (B:Mdl H m c e1 e2 e3 y bs ds cs) (eR:R=Zak m c e1 e2 e3) (hp:H p=some (.tup xs)) :
    upd H e2 (.dK (yrs ds')) p=some (.tup xs)∧Z3 R H (upd H e2 (.dK (yrs ds')))∧MdlAt (upd H e2 (.dK (yrs ds'))) m y bs ds' cs R:=
  ⟨by rw [Zh (ZI hp B.h2 (fun z=>by cases z))]; exact hp,X0.wide (fun a ha=>by rw [List.mem_singleton.mp ha,eR]; simp [Zak]),⟨c,e1,e2,e3,⟨by rw [Zh (ZI B.tup B.h2 (fun z=>by cases z))]; exact B.tup,by rw [Zh (ZI B.clk B.h2 (fun z=>by cases z))]; exact B.clk,by rw [Zh B.n12]; exact B.h1,Zd,by rw [Zh (Ne.symm B.n23)]; exact B.h3,B.n12,B.n13,B.n23⟩,eR⟩⟩
theorem Mdl.put3 {cs':List (Str×Int)} (B:Mdl H m c e1 e2 e3 y bs ds cs) (eR:R=Zak m c e1 e2 e3) (hp:H p=some (.tup xs)) :
    upd H e3 (.dK (yrs cs')) p=some (.tup xs)∧Z3 R H (upd H e3 (.dK (yrs cs')))∧MdlAt (upd H e3 (.dK (yrs cs'))) m y bs ds cs' R:=
  ⟨by rw [Zh (ZI hp B.h3 (fun z=>by cases z))]; exact hp,X0.wide (fun a ha=>by rw [List.mem_singleton.mp ha,eR]; simp [Zak]),⟨c,e1,e2,e3,⟨by rw [Zh (ZI B.tup B.h3 (fun z=>by cases z))]; exact B.tup,by rw [Zh (ZI B.clk B.h3 (fun z=>by cases z))]; exact B.clk,by rw [Zh B.n13]; exact B.h1,by rw [Zh B.n23]; exact B.h2,Zd,B.n12,B.n13,B.n23⟩,eR⟩⟩
end
end L2
set_option Elab.async false
set_option linter.all false
set_option maxRecDepth 100000
namespace L2
open PySem PySem.Spec
noncomputable def strD (l:List Str):PyData := .list (l.map PyData.str)
theorem Zi3 {K:Frag} {H:Hp} (l:List Str):RdsAll K H (l.map V.str) (l.map PyData.str):=by
  induction l with
  | nil=>exact .nil
  | cons p r ih=>exact .cons (.str _) ih
theorem Zf9 {K:Frag} {H:Hp} {a:Addr} {l:List Str} (h:SqL K H a (l.map V.str)):Rds K H (.ref a) (strD l) := .list h (Zi3 l)
theorem ZiW {l:List Str} (h:∀ p∈l,PyData.strOk p=true):PyData.canLayAll0 (l.map PyData.str)=true∧PyData.depthAll (l.map PyData.str)=0:=by
  induction l with
  | nil=>exact ⟨rfl,rfl⟩
  | cons p r ih =>
    have ih:=ih (fun q hq=>h q (mem_cons_of_mem _ hq));refine ⟨?_,?_⟩
    · simp only [map_cons,PyData.canLayAll0,PyData.canLay0];rw [h p (by simp),ih.1];rfl
    · simp only [map_cons,PyData.depthAll,PyData.depth];rw [ih.2];rfl
theorem ZcY {l:List Str} (h:∀ p∈l,PyData.strOk p=true):SeqAt.shaped (strD l)=true:=by
  obtain ⟨h1,h2⟩:=ZiW h;unfold SeqAt.shaped;rw [and_eq_true];refine ⟨h1,decide_eq_true ?_⟩;show PyData.depthAll (l.map PyData.str)+1≤64;rw [h2]
  decide
theorem ZjK {l:List Str} (h:∀ p∈l,PyData.strOk p=true):PyData.eqv (strD l) (strD l)=true:=SeqAt.eqv_refl _ (SeqAt.canLay_of_shaped (ZcY h))
theorem pok_ok {x:Str} (h:pok x=true):PyData.strOk x=true:=by
  have hp:∀ p∈pcs x,PyData.strOk p=true:=fun p hp=>by
    unfold pok at h;simp only [and_eq_true] at h;rw [XX] at hp;rcases List.mem_cons.mp hp with rfl | hp
    · exact gw_ok h.1.1
    · have z:=List.all_eq_true.mp h.2 p hp;unfold gn at z;simp only [and_eq_true] at z;unfold PyData.strOk;rw [Array.all_eq_true_iff_forall_mem];intro c hc;have z2:=List.all_eq_true.mp z.1.2 c (by simpa using hc);simp [inR] at z2;simp;omega
  have key:∀ l:List Str,(∀ p∈l,PyData.strOk p=true)→PyData.strOk (Str.join dot l)=true:=by
    intro l
    induction l with
    | nil=>intro _; decide +kernel
    | cons a r ih =>
      intro hl;cases r with
      | nil=>exact hl a (by simp)
      | cons b r' =>
        show PyData.strOk (a++dot++Str.join dot (b::r'))=true;exact Zje (Zje (hl a (by simp)) (by decide +kernel)) (ih (fun p hp=>hl p (mem_cons_of_mem _ hp)))
  rw [← Y9 x];exact key _ hp
theorem Wf.ok {bs ds:List (Str×Int)} (W:Wf bs ds) {n:Str} (h:has bs n=true):PyData.strOk n=true:=pok_ok (W.wrt n h)
noncomputable def Xs (bs:List (Str×Int)):List Str:=bs.map (·.1)
noncomputable def kidL (n:Str) (c:Nat):List Str:=(List.range c).map fun i=>kid n i
theorem kidVL (n:Str) (c:Nat):YH n c=(kidL n c).map V.str:=by unfold YH kidL; rw [map_map]; rfl
theorem ZiP {κ:Type} [DecidableEq κ] (kvs:List (κ×V)) (k:κ):(Xc kvs k).isSome=true↔k∈kvs.map (·.1):=by
  unfold Xc;rw [isSome_map,List.find?_isSome,mem_map];constructor
  · rintro ⟨p,hp,e⟩; exact ⟨p,hp,of_decide_eq_true e⟩
  · rintro ⟨p,hp,e⟩; exact ⟨p,hp,decide_eq_true e⟩
theorem pick4 {z:Str} (hz:gw z=true) {i:Int} (h0:0≤i) (h1:i<4):∃ y:Str,atI [V.str "war",V.str "flood",V.str "a",V.str z] i=some (.str y)∧gw y=true:=by
  rcases (show i=0∨i=1∨i=2∨i=3 by omega) with rfl | rfl | rfl | rfl
  · exact ⟨_,rfl,by decide +kernel⟩
  · exact ⟨_,rfl,by decide +kernel⟩
  · exact ⟨_,rfl,by decide +kernel⟩
  · exact ⟨_,rfl,hz⟩
theorem Zhl {xs:List V} {i:Int} (h0:0≤i) (h1:i<xs.length):∃ v,atI xs i=some v:=by
  have gi:i.toNat<xs.length:=by omega
  have e:atI xs ((i.toNat:Nat):Int)=some (xs[i.toNat]):=Za4 (getElem?_eq_getElem gi);rw [show ((i.toNat:Nat):Int)=i by omega] at e;exact ⟨_,e⟩
theorem LivesAt.no_tup {C:Addr} {H:Hp} {b p:Addr} {bs ds:List (Str×Int)} {R:List Addr} {xs:List V} (L:LivesAt C H b bs ds R) (hp:H p=some (.tup xs)):p∉R:=by
  obtain ⟨d1,d2,d3,ws,B,_,_,rfl⟩:=L.ex;obtain ⟨dx,hb⟩:=B.obj;intro ha;rcases List.mem_cons.mp ha with rfl | ha
  · rw [hb] at hp; cases hp
  rcases List.mem_cons.mp ha with rfl | ha
  · rw [B.h1] at hp; cases hp
  rcases List.mem_cons.mp ha with rfl | ha
  · rw [B.h2] at hp; cases hp
  rcases List.mem_cons.mp ha with rfl | ha
  · rw [B.h3] at hp; cases hp
  obtain ⟨q,hq,rfl⟩:=List.mem_map.mp ha;rw [B.kids q hq] at hp; cases hp
theorem Jr.tup_of {H:Hp} {m:Addr} {S:Mo} {R:List Addr} (M:Jr H m S R):∃ c e1 e2 e3,Mdl H m c e1 e2 e3 S.y S.bs S.ds S.cs:=by
  obtain ⟨c,e1,e2,e3,B,_⟩:=MdlAt.ex M;exact ⟨c,e1,e2,e3,B⟩
theorem DeedsAt.push {H H':Hp} {l p:Addr} {ds:List Deed} {ps:List Addr} {d:Deed} (D:DeedsAt H l ds ps) (s:Zj H H') (hp:H' p=some (.tup d.vals)):DeedsAt (upd H' l (.lst (ps.map V.ref++[V.ref p]))) l (ds++[d]) (ps++[p]):=by
  have hl:=s _ _ D.lst;refine ⟨by rw [Zd,map_append]; rfl,by simp [D.len],fun i q e h1 h2=>?_⟩;have key:H' q=some (.tup e.vals):=by
    by_cases hi:i<ps.length
    · rw [getElem?_append_left hi] at h1;rw [getElem?_append_left (by rw [← D.len]; exact hi)] at h2;exact s _ _ (D.at_ i q e h1 h2)
    · rw [getElem?_append_right (by omega)] at h1;rw [getElem?_append_right (by rw [← D.len]; omega),← D.len] at h2;have h3:=(List.getElem?_eq_some_iff.mp h1).1;simp at h3;rw [show i - ps.length=0 by omega] at h1 h2;simp at h1 h2;rw [← h1,← h2];exact hp
  rw [Zh (ZI key hl (fun z=>by cases z))];exact key
structure First (was:List (Str×Int)):Prop where
  nod:(was.map (·.1)).Nodup
  len:was.length≤3
  ok:∀ p∈was,gw p.1=true∧0≤p.2∧p.2≤120
noncomputable def arr (p:Str×Int):Deed := .arrive p.1 p.2
noncomputable def ZfV (was:List (Str×Int)):List (Key×V):=was.map fun p=>((Sum.inr p.1:Key),V.bl true)
theorem ZfU (was:List (Str×Int)) (w:Str):(Xc (ZfV was) (Sum.inr w:Key)).isSome=decide (w∈was.map (·.1)):=by
  rw [Bool.eq_iff_iff,ZiP,decide_eq_true_iff];unfold ZfV;rw [map_map,mem_map,mem_map];constructor
  · rintro ⟨p,hp,e⟩; exact ⟨p,hp,by simpa using e⟩
  · rintro ⟨p,hp,e⟩; exact ⟨p,hp,by simpa using e⟩
open PySem PySem.Spec
theorem ZiI {bs:List (Str×Int)} {n:Str} (h:has bs n=true):∃ y,yr bs n=some y:=by
  unfold has at h;cases e:yr bs n with
  | none=>rw [e] at h; cases h
  | some y=>exact ⟨y,rfl⟩
theorem Zko {bs:List (Str×Int)} {i:Nat} {v:V} (h:((Xs bs).map V.str)[i]? = some v):∃ n,v = .str n∧has bs n=true:=by
  have hm:=mem_of_getElem? h;obtain ⟨n,hn,rfl⟩:=List.mem_map.mp hm;exact ⟨n,rfl,(ZbH bs n).mpr hn⟩
theorem keysK (bs:List (Str×Int)):(yrs bs).map (fun p=>kV p.1)=(Xs bs).map V.str:=by
  unfold yrs Xs;rw [map_map,map_map];rfl
open PySem PySem.Spec
section
variable {H H2:Hp} {x dx C:Addr}
theorem ZeH {a:Addr} (h:upd (upd H dx (.own x)) x (.ins C dx []) a=none):H a=none:=by
  have n1:a≠x:=fun e=>by rw [e,Zd] at h; cases h
  rw [Zh n1] at h;have n2:a≠dx:=fun e=>by rw [e,Zd] at h; cases h
  rw [Zh n2] at h;exact h
theorem made (nx:H x=none) (ndx:H dx=none) (kp:Z3 [x] (upd (upd H dx (.own x)) x (.ins C dx [])) H2):Zj H H2:=fun b o e=>by
  have n1:b≠x:=ZB e nx;refine kp.1 b o (by simpa using n1) ?_;rw [Zh n1,Zh (ZB e ndx)];exact e
end
theorem First.good {was:List (Str×Int)} (F:First was) {S:Mo} {i:Nat} (hi:i<was.length) (hS:S.bs.map (·.1)=(was.take i).map (·.1)) {far:Int}:S.good far (arr was[i])∧(S.step (arr was[i])).bs.map (·.1)=(was.take (i+1)).map (·.1):=by
  have hm:=getElem_mem hi;obtain ⟨h1,h2,h3⟩:=F.ok _ hm;refine ⟨⟨h1,?_,h2,h3⟩,?_⟩
  · rw [ZfD,hS];intro z;obtain ⟨p,hp,e⟩:=List.mem_map.mp z;have hnd:=F.nod;obtain ⟨j,hj,e2⟩:=List.mem_iff_getElem.mp hp;have hj1:j<i:=by rw [length_take] at hj; omega
    rw [List.getElem_take] at e2;have key:(was.map (·.1))[j]'(by rw [length_map]; omega)=(was.map (·.1))[i]'(by rw [length_map]; omega):=by
      rw [List.getElem_map,List.getElem_map,e2];exact e
    exact (List.pairwise_iff_getElem.mp hnd) j i (by rw [length_map]; omega) (by rw [length_map]; omega) hj1 key
  · show (S.bs++[_]).map _=_;rw [map_append,hS,take_succ,getElem?_eq_getElem hi,map_append];rfl
theorem no_one {bs ds:List (Str×Int)} (W:Wf bs ds) {n:Str} (h:pok n=false):has bs n=false:=by
  cases e:has bs n with
  | false=>rfl
  | true=>rw [W.wrt n e] at h; cases h
open PySem PySem.Spec
theorem LivesAt.obj {C:Addr} {H:Hp} {b:Addr} {bs ds:List (Str×Int)} {R:List Addr} (L:LivesAt C H b bs ds R):∃ dx d1 d2 d3,H b=some (.ins C dx [("births", .ref d1),("deaths", .ref d2),("broods", .ref d3)]):=by
  obtain ⟨d1,d2,d3,ws,B,_⟩:=L.ex;obtain ⟨dx,hb⟩:=B.obj;exact ⟨dx,d1,d2,d3,hb⟩
theorem Mo.Ok.few {S:Mo} {k:Nat} (O:S.Ok k) (n:Str):nk S.bs n≤k:=le_trans (O.wf.few n) O.lb
end L2
set_option Elab.async false
set_option linter.all false
set_option maxRecDepth 100000
namespace L2
open PySem PySem.Spec PyProof.Rows PySem.W
structure RoomU (k:Nat) (A:Around):Prop where
  dp:A.depth+3 * k+5<recursionLimit
  un:A.units+16 * k+200<cLine
section
variable {X:Cx}
noncomputable def del (H:Hp) (a:Addr):Hp:=fun b=>if b=a then none else H b
end
end L2
set_option Elab.async false
set_option linter.all false
set_option maxRecDepth 100000
namespace L2
open PySem PySem.Spec
theorem ZjG {d:Addr} {o:Obj} {kvs:List (Key×V)} {g:TG} {tb:TS} {D:Ends} {σ:St} {H:Hp} (Pv:Nat→St→Hp→Prop) (h0:Pv 0 σ H) (hl:∀ i σ H,i≤kvs.length→Pv i σ H→H d=some (.frz o (.dK kvs)))
    (hs:∀ i k v σ H,kvs[i]? = some (k,v)→Pv i σ H→g (kV k) σ H fun σ2 H2=>tb { D with nx:=Pv (i+1),ct:=Pv (i+1),bk:=D.nx } σ2 H2) (hd:∀ σ H,Pv kvs.length σ H→D.nx σ H) :
    ∃ W:Nat→Nat→St→Hp→Prop,(∃ m,W 0 m σ H)∧∀ i m σ H,W i m σ H →
      ((Itd d o kvs).stop i H∧D.nx σ H)∨((Itd d o kvs).go i H∧∃ N:St→Hp→Prop,(∀ σ' H',N σ' H'→∃ m',m'<m∧W (i+1) m' σ' H')∧∀ x H',(Itd d o kvs).yld i H x H'→g x σ H' fun σ2 H2=>tb { D with nx:=N,ct:=N,bk:=D.nx } σ2 H2):=by
  refine ⟨fun i m σ H=>m=kvs.length - i∧i≤kvs.length∧Pv i σ H,⟨kvs.length,by simp,zero_le _,h0⟩,?_⟩;rintro i m σ H ⟨rfl,hi,p⟩;have q:=hl i σ H hi p
  by_cases hlt:i<kvs.length
  · refine .inr ⟨⟨q,hlt⟩,Pv (i+1),fun σ' H' p'=>⟨kvs.length - (i+1),by omega,rfl,hlt,p'⟩,fun x H' y=>?_⟩;obtain ⟨e,k,v,ek,ex⟩:=y;subst e ex;exact hs i k v σ _ ek p
  · have e:i=kvs.length:=by omega
    subst e;exact .inl ⟨⟨q,le_refl _⟩,hd σ H p⟩
end L2
set_option Elab.async false
set_option linter.all false
set_option maxRecDepth 100000
namespace L2
open PySem PySem.Spec
inductive Er where
  | gone | none_ | text | taken | deep | bound
deriving DecidableEq
noncomputable def Er.txt:Er→Str
  | .gone=>"gone" | .none_=>"none" | .text=>"text" | .taken=>"taken" | .deep=>"deep" | .bound=>"bound"
noncomputable def Er.ad (g:Ga):Er→Addr
  | .gone=>g.Gone | .none_=>g.NoPerson | .text=>g.NoText | .taken=>g.Taken | .deep=>g.TooDeep | .bound=>g.OutOfBound
noncomputable def askB (bs ds:List (Str×Int)) (way n:Str):Option Er:=
  if way="arrive" then (if gw n=false then some .text else if has bs n=true then some .taken else none)
  else if has bs n=false then some .none_
  else if way="birth" then (if has ds n=true then some .gone else if 5≤Xv n then some .deep else none)
  else if way="death" then (if has ds n=true then some .gone else none)
  else none
noncomputable def ways:List Str:=["arrive","birth","death","born","died","kids"]
open PySem PySem.Spec
section
variable {bs ds:List (Str×Int)} {n:Str} {y:Int}
end
noncomputable abbrev Bad:=Str×Str×Er
structure BadsAt (H:Hp) (l:Addr) (its:List Bad) (ps:List Addr):Prop where
  lst:H l=some (.lst (ps.map V.ref))
  len:ps.length=its.length
  at_:∀ (i:Nat) (p:Addr) (it:Bad),ps[i]? = some p→its[i]? = some it→∃ q,q≠l∧H p=some (.tup [.str it.1, .str it.2.1, .ref q])∧H q=some (.lst [.str it.2.2.txt])
noncomputable def Gd (S:Mo) (its:List Bad):Prop:=∀ it∈its,it.1∈ways∧it.2.1.length≤200∧askB S.bs S.ds it.1 it.2.1=some it.2.2
end L2
set_option Elab.async false
set_option linter.all false
set_option maxRecDepth 100000
namespace L2
open PySem PySem.Spec
section
variable {K:Frag} {caps:List (Str×Nat)} {tt:TT} {te:TE} {σ:St} {H H1:Hp} {Q:VK} {a d:Addr} {xs:List V} {kvs:List (Key×V)} {o:Obj}
theorem Ziy {α:Type} {l:List α} {f:α→Bool} {ge:α→V} {i:Nat} (h:i<l.length):((l.take (i+1)).filter f).map ge=((l.take i).filter f).map ge++(if f l[i]=true then [ge l[i]] else []):=by
  rw [take_succ,getElem?_eq_getElem h,filter_append,map_append];congr 1;show ([l[i]].filter f).map ge=_;cases e:f l[i] with
  | true=>rw [filter_cons_of_pos e]; rfl
  | false=>rw [filter_cons_of_neg (by rw [e]; decide)]; rfl
theorem lcl (hl:SqL K H1 a xs) (hlen:xs.length≤900) (f:V→Bool) (ge:V→V)
    (step:∀ (i:Nat) x H2,xs[i]? = some x→Zj H1 H2→∀ R:Bool→Hp→Prop,(∀ H3,Zj H2 H3→R (f x) H3)→tt (some x::ZR caps σ) H2 R)
    (elt:∀ (i:Nat) x H2,xs[i]? = some x→f x=true→Zj H1 H2→∀ R:VK,(∀ H3,Zj H2 H3→R (ge x) H3)→te (some x::ZR caps σ) H2 R)
    (q:∀ D H2,H1 D=none→Zj H1 H2→H2 D=some (.lst ((xs.filter f).map ge))→Q (.ref D) H2) :
    ∀ D,H1 D=none→∃ W:Nat→Nat→Hp→Prop,(∃ m,W 0 m (upd H1 D (.lst [])))∧∀ i m H2,W i m H2 →
      ((Itl K a).stop i H2∧Q (.ref D) H2)∨((Itl K a).go i H2∧∀ x H',(Itl K a).yld i H2 x H'→tt (some x::ZR caps σ) H' fun b H3 =>
        if b=true then te (some x::ZR caps σ) H3 fun v H4=>∃ ys m',H4 D=some (.lst ys)∧ys.length<sizeLine∧m'<m∧W (i+1) m' (upd H4 D (.lst (ys++[v])))
        else ∃ m',m'<m∧W (i+1) m' H3):=by
  intro D hD;refine ⟨fun i m H2=>i≤xs.length∧m=xs.length - i∧Zj H1 H2∧H2 D=some (.lst (((xs.take i).filter f).map ge)),⟨xs.length,zero_le _,rfl,Zi hD _,Zd⟩,?_⟩;rintro i m H2 ⟨hi,rfl,s2,h2⟩;have hs:=s2.seq hl
  by_cases hlt:i<xs.length
  · refine .inr ⟨⟨xs,xs[i],hs,by simp [hlt]⟩,fun x H' y=>?_⟩;obtain ⟨e,y⟩:=y;subst e;have hx:=y xs hs;have hx':xs[i]=x:=by rw [getElem?_eq_getElem hlt] at hx; exact Option.some.inj hx
    refine step i x _ hx s2 _ fun H3 s3=>?_;have nx:=Ziy (f:=f) (ge:=ge) hlt;rw [hx'] at nx;cases e:f x with
    | false =>
      rw [e] at nx;exact ⟨xs.length - (i+1),by omega,hlt,rfl,s2.trans s3,by rw [nx,if_neg (by decide),append_nil]; exact s3 _ _ h2⟩
    | true =>
      rw [e] at nx;show te _ H3 _;refine elt i x _ hx e (s2.trans s3) _ fun H4 s4=>⟨_,xs.length - (i+1),s4 _ _ (s3 _ _ h2),ZC ?_,by omega,hlt,rfl,ZX ((s2.trans s3).trans s4) hD,?_⟩
      · rw [length_map];exact le_trans (length_filter_le _ _) (by rw [length_take]; omega)
      · rw [Zd,nx,if_pos rfl]
  · have e:i=xs.length:=by omega
    subst e;rw [take_length] at h2;exact .inl ⟨⟨xs,hs,le_refl _⟩,q D H2 hD s2 h2⟩
end
open PySem PySem.Spec
open PySem PySem.Spec
section
variable {K:Frag} {caps:List (Str×Nat)} {tl te:TE} {tt:TT} {σ:St} {H:Hp} {Q:VK} {d:Addr} {kvs:List (Key×V)}
theorem lclT {xs:List V} (A:Addr→Hp→Prop) (htl:∀ R:VK,(∀ a H1,A a H1→R (.ref a) H1)→tl σ H R) (hA:∀ a H1,A a H1→SqL K H1 a xs) (hlen:xs.length≤900) (f:V→Bool) (ge:V→V)
    (step:∀ a H1 (i:Nat) x H2,A a H1→xs[i]? = some x→Zj H1 H2→∀ R:Bool→Hp→Prop,(∀ H3,Zj H2 H3→R (f x) H3)→tt (some x::ZR caps σ) H2 R)
    (elt:∀ a H1 (i:Nat) x H2,A a H1→xs[i]? = some x→f x=true→Zj H1 H2→∀ R:VK,(∀ H3,Zj H2 H3→R (ge x) H3)→te (some x::ZR caps σ) H2 R)
    (q:∀ a H1 D H2,A a H1→H1 D=none→Zj H1 H2→H2 D=some (.lst ((xs.filter f).map ge))→Q (.ref D) H2):tLC caps (Zct K tl) tt te σ H Q:=
  htl _ fun a H1 h=>⟨a,rfl,⟨xs,hA a H1 h⟩,lcl (hA a H1 h) hlen f ge (fun i x H2=>step a H1 i x H2 h) (fun i x H2=>elt a H1 i x H2 h) (fun D H2=>q a H1 D H2 h)⟩
end
end L2
set_option Elab.async false
set_option linter.all false
set_option maxRecDepth 100000
namespace L2
open PySem PySem.Spec PySem.StrLaws
theorem in_dot (x:Str):(!(Builtin.Str.occurrences x "." 0 x.length 1).isEmpty)=decide (46∈x.cps.toList):=by
  rw [show (".":Str)=⟨#[46]⟩ from Zb7,StrLaws.found_one]
noncomputable def Zdm (S:Mo):Prop:=∃ w,has S.bs w=true∧46∉w.cps.toList
theorem Zdm.step {S:Mo} (h:Zdm S) (d:Deed):Zdm (S.step d):=by
  obtain ⟨w,h1,h2⟩:=h;refine ⟨w,?_,h2⟩;cases d with
  | arrive x a=>show has (S.bs++_) w=true; rw [Ye,h1]; rfl
  | birth x=>show has (S.bs++_) w=true; rw [Ye,h1]; rfl
  | death x=>exact h1
  | comes x=>exact h1
  | years x=>exact h1
theorem First.root {was:List (Str×Int)} (F:First was) (hne:was≠[]) {S:Mo} {i:Nat} (hi:0<i) (hS:S.bs.map (·.1)=(was.take i).map (·.1)):Zdm S:=by
  cases was with
  | nil=>exact absurd rfl hne
  | cons p r =>
    refine ⟨p.1,?_,Zdu (F.ok p (by simp)).1⟩;rw [ZbH,hS];cases i with
    | zero=>exact absurd hi (lt_irrefl 0)
    | succ i=>simp
end L2
set_option Elab.async false
set_option linter.all false
set_option maxRecDepth 100000
namespace L2
open PySem PySem.Spec PySem.StrLaws
theorem ZcC {x:Str} (h:x.length≠0):(up x).length<x.length:=by
  unfold up;rcases last_spec x dot with ⟨e,_⟩ | ⟨i,e,z,_⟩
  · rw [e]; show 0<x.length; omega
  · rw [e];show (Builtin.Str.strSub x 0 i).length<x.length;have hi:i<x.cps.toList.length:=(List.getElem?_eq_some_iff.mp ((at_iff x i).mp z)).1;have hl:x.cps.toList.length=x.length:=length_toList;have:(Builtin.Str.strSub x 0 i).length=(Builtin.Str.strSub x 0 i).cps.toList.length:=(length_toList).symm;rw [this,strSub_toList];simp;omega
theorem ZgQ (n:Str) (i:Nat):up (kid n i)=n:=by
  have hl:(kid n i).cps.toList=n.cps.toList++46::(toString ((i:Int)+1):Str).cps.toList:=by
    unfold kid;rw [JR,JR,ZgE,append_assoc];rfl
  unfold up;rcases last_spec (kid n i) dot with ⟨e,z⟩ | ⟨j,e,z,w⟩
  · exfalso;refine z n.cps.toList.length ((at_iff _ _).mpr ?_);rw [hl,getElem?_append_right (le_refl _)];simp
  · rw [e];have hj:=(at_iff _ _).mp z;have e0:j=n.cps.toList.length:=by
      rcases Nat.lt_trichotomy j n.cps.toList.length with h | h | h
      · exfalso;refine w n.cps.toList.length h ((at_iff _ _).mpr ?_);rw [hl,getElem?_append_right (le_refl _)];simp
      · exact h
      · exfalso;rw [hl,getElem?_append_right (by omega)] at hj;cases e2:j - n.cps.toList.length with
        | zero=>omega
        | succ k =>
          rw [e2,List.getElem?_cons_succ] at hj;exact Zbz ((i:Int)+1) (mem_of_getElem? hj)
    show Builtin.Str.strSub (kid n i) 0 j=n;refine JK ?_;rw [strSub_toList,hl,e0];simp
noncomputable def nr (bs:List (Str×Int)) (x:Str):Str:=if h:x.length=0 then Str.empty else if has bs x=true then x else nr bs (up x)
termination_by x.length
decreasing_by exact ZcC h
theorem Zeb (bs:List (Str×Int)):nr bs Str.empty=Str.empty:=by rw [nr]; exact dif_pos rfl
theorem ZaA {bs:List (Str×Int)} {x:Str} (h0:x.length≠0) (h:has bs x=true):nr bs x=x:=by rw [nr,dif_neg h0,if_pos h]
theorem Zgu {bs:List (Str×Int)} {x:Str} (h0:x.length≠0) (h:has bs x=false):nr bs x=nr bs (up x):=by
  rw [nr,dif_neg h0,if_neg (by rw [h]; decide)]
theorem len0 {x:Str} (h:x.length=0):x=Str.empty:=by
  refine JK ?_;have:x.cps.toList.length=0:=by rw [length_toList]; exact h
  rw [List.length_eq_zero_iff.mp this];rfl
theorem Zcp (n:Str) (i:Nat):(kid n i).length≠0:=fun e=>by
  have h:=ZhI n i;rw [len0 e] at h;cases h
theorem Zg7 {bs:List (Str×Int)} (n:Str) (i:Nat):nr bs (kid n i)=if has bs (kid n i)=true then kid n i else nr bs n:=by
  cases h:has bs (kid n i) with
  | true=>rw [ZaA (Zcp n i) h]; rfl
  | false=>rw [Zgu (Zcp n i) h,ZgQ]; rfl
theorem nr_in (bs:List (Str×Int)) (k:Nat):∀ x:Str,x.length≤k→nr bs x=Str.empty∨has bs (nr bs x)=true:=by
  induction k with
  | zero=>intro x h; exact .inl (by rw [len0 (x:=x) (by omega),Zeb])
  | succ k ih =>
    intro x h
    by_cases h0:x.length=0
    · exact .inl (by rw [len0 h0,Zeb])
    · cases e:has bs x with
      | true=>rw [ZaA h0 e]; exact .inr e
      | false=>rw [Zgu h0 e]; exact ih (up x) (by have:=ZcC h0; omega)
theorem nr_or (bs:List (Str×Int)) (x:Str):nr bs x=Str.empty∨has bs (nr bs x)=true:=nr_in bs x.length x (le_refl _)
theorem Zks {bs ds:List (Str×Int)} (W:Wf bs ds):has bs Str.empty=false:=no_one W (by decide +kernel)
end L2
set_option Elab.async false
set_option linter.all false
set_option maxRecDepth 100000
namespace L2
open PySem PySem.Spec
section
variable {X:Cx}
end
structure WorldAt (g:Ga) (H:Hp) (w:Addr) (S:Mo) (R:List Addr):Prop where
  ex:∃ dx b hd RL,H w=some (.ins g.World dx [("year", .int S.y),("lives", .ref b),("happened", .ref hd)])∧LivesAt g.Lives H b S.bs S.ds RL∧H hd=some (.dK (yrs S.cs))∧R=w::hd::RL∧w∉RL∧hd∉RL
section
variable {g:Ga} {H H':Hp} {w:Addr} {S:Mo} {R X:List Addr}
theorem WorldAt.wf (W:WorldAt g H w S R):Wf S.bs S.ds:=by
  obtain ⟨dx,b,hd,RL,h1,L,_⟩:=W.ex;exact L.wf
theorem WorldAt.live (W:WorldAt g H w S R):ZfQ H R:=by
  obtain ⟨dx,b,hd,RL,h1,L,h3,rfl,_,_⟩:=W.ex;intro a ha;rcases List.mem_cons.mp ha with rfl | ha
  · exact ⟨_,h1⟩
  rcases List.mem_cons.mp ha with rfl | ha
  · exact ⟨_,h3⟩
  exact L.live a ha
theorem WorldAt.mv (W:WorldAt g H w S R) (h:∀ a∈R,∀ o,H a=some o→H' a=some o):WorldAt g H' w S R:=by
  obtain ⟨dx,b,hd,RL,h1,L,h3,rfl,n1,n2⟩:=W.ex;exact ⟨dx,b,hd,RL,h _ (by simp) _ h1,L.mv (fun a ha o e=>h a (mem_cons_of_mem _ (mem_cons_of_mem _ ha)) o e),h _ (by simp) _ h3,rfl,n1,n2⟩
theorem WorldAt.same (W:WorldAt g H w S R) (s:Zj H H'):WorldAt g H' w S R:=W.mv fun a _ o e=>s a o e
theorem WorldAt.keep (W:WorldAt g H w S R) (k:Z3 X H H') (d:Dj R X):WorldAt g H' w S R:=W.mv fun a ha o e=>k.1 a o (d a ha) e
theorem WorldAt.no_tup {p:Addr} {xs:List V} (W:WorldAt g H w S R) (hp:H p=some (.tup xs)):p∉R:=by
  obtain ⟨dx,b,hd,RL,h1,L,h3,rfl,n1,n2⟩:=W.ex;intro ha;rcases List.mem_cons.mp ha with rfl | ha
  · rw [h1] at hp; cases hp
  rcases List.mem_cons.mp ha with rfl | ha
  · rw [h3] at hp; cases hp
  exact L.no_tup hp ha
theorem WorldAt.book {dx b hd:Addr} {RL RL':List Addr} {bs' ds':List (Str×Int)} (h1:H w=some (.ins g.World dx [("year", .int S.y),("lives", .ref b),("happened", .ref hd)])) (h3:H hd=some (.dK (yrs S.cs))) (n1:w∉RL) (n2:hd∉RL)
    (k:Z3 RL H H') (gr:ZaB H RL RL') (L':LivesAt g.Lives H' b bs' ds' RL'):WorldAt g H' w { S with bs:=bs',ds:=ds' } (w::hd::RL')∧Z3 (w::hd::RL) H H'∧ZaB H (w::hd::RL) (w::hd::RL'):=by
  have f1:∀ a o,H a=some o→a∉RL→a∉RL':=fun a o e n z=>(gr a z).elim n fun q=>by rw [q] at e; cases e
  refine ⟨⟨dx,b,hd,RL',k.1 _ _ n1 h1,L',k.1 _ _ n2 h3,rfl,f1 _ _ h1 n1,f1 _ _ h3 n2⟩,k.wide (fun a ha=>mem_cons_of_mem _ (mem_cons_of_mem _ ha)),fun a ha=>?_⟩;rcases List.mem_cons.mp ha with rfl | ha
  · exact .inl (by simp)
  rcases List.mem_cons.mp ha with rfl | ha
  · exact .inl (by simp)
  exact (gr a ha).imp (fun z=>mem_cons_of_mem _ (mem_cons_of_mem _ z)) id
end
open PySem PySem.Spec
section
variable {S:Mo} {k:Int} {x:Str}
end
noncomputable def Er.W (e:Er):Prop:=e = .bound∨e = .taken∨e = .text
end L2
set_option Elab.async false
set_option linter.all false
set_option maxRecDepth 100000
namespace L2
open PySem PySem.Spec
inductive Atm where
  | year (y:Int)
  | comes (w:Str)
  | born (n:Str)
  | dead (n:Str)
  | age (n:Str) (a:Int)
noncomputable def Atm.vals:Atm→List V
  | .year y=>[.str "year", .int y]
  | .comes w=>[.str "comes", .str w]
  | .born n=>[.str "born", .str n]
  | .dead n=>[.str "dead", .str n]
  | .age n a=>[.str "age", .str n, .int a]
noncomputable def ZhX (S:Mo) (n:Str) (y:Int):Int:=(yr S.ds n).getD S.y - y
noncomputable def ZdA (S:Mo) (n:Str) (y a:Int):Str:=if a≤ZhX S n y then "met" else if has S.ds n=true then "failed" else "hangs"
noncomputable def ZbW (S:Mo) (n:Str):Str:=if al S.bs S.ds (nr S.bs n)=true then "hangs" else "failed"
noncomputable def Atm.stand (S:Mo):Atm→Str
  | .year y=>if y≤S.y then "met" else "hangs"
  | .comes w=>if has S.cs w=true then "met" else "hangs"
  | .born n=>if has S.bs n=true then "met" else ZbW S n
  | .dead n=>if has S.bs n=true then (if has S.ds n=true then "met" else "hangs") else ZbW S n
  | .age n a=>match yr S.bs n with
    | some y=>ZdA S n y a
    | none=>ZbW S n
noncomputable def Atm.who:Atm→Option Str
  | .born n=>some n
  | .dead n=>some n
  | .age n _=>some n
  | _=>none
noncomputable def Atm.bad (S:Mo) (t:Atm):Option Er:=match t.who with
  | none=>none
  | some n=>if has S.bs n=true then none else if pok n=false then some .text else if nr S.bs n=("":Str) then some .none_ else none
noncomputable def Atm.met (S:Mo):Atm→V
  | .year y => .int y
  | .comes w=>((yr S.cs w).map V.int).getD .non
  | .born n=>((yr S.bs n).map V.int).getD .non
  | .dead n=>((yr S.ds n).map V.int).getD .non
  | .age n a=>((yr S.bs n).map fun y=>V.int (y+a)).getD .non
noncomputable def Atm.since (S:Mo) (t:Atm):V:=if t.stand S=("hangs":Str) then .non else if t.stand S=("met":Str) then t.met S else match t.who with
  | some n=>((yr S.ds (nr S.bs n)).map V.int).getD .non
  | none => .non
section
variable {S:Mo} {t:Atm} {n:Str}
theorem Atm.stand_none (ht:t.who=some n) (hk:has S.bs n=false):t.stand S=ZbW S n:=by
  cases t with
  | year y=>cases ht
  | comes w=>cases ht
  | born m=>cases ht; show (if has S.bs n=true then _ else _)=_; rw [hk]; rfl
  | dead m=>cases ht; show (if has S.bs n=true then _ else _)=_; rw [hk]; rfl
  | age m a =>
    cases ht;have hy:yr S.bs n=none:=by
      unfold has at hk;cases h:yr S.bs n with
      | none=>rfl
      | some y=>rw [h] at hk; cases hk
    show (match yr S.bs n with | some y=>_ | none=>_)=_;rw [hy]
theorem Atm.bad_known (ht:t.who=some n) (hk:has S.bs n=true):t.bad S=none:=by
  unfold Atm.bad; rw [ht]; exact if_pos hk
theorem Atm.bad_text (ht:t.who=some n) (hk:has S.bs n=false) (hp:pok n=false):t.bad S=some .text:=by
  unfold Atm.bad; rw [ht]; show (if has S.bs n=true then _ else _)=_; rw [hk]; exact if_pos hp
theorem Atm.bad_lost (ht:t.who=some n) (hk:has S.bs n=false) (hp:pok n=true) (hr:nr S.bs n=("":Str)):t.bad S=some .none_:=by
  unfold Atm.bad; rw [ht]; show (if has S.bs n=true then _ else if pok n=false then _ else _)=_; rw [hk,hp]; exact if_pos hr
theorem Atm.bad_fine (ht:t.who=some n) (hk:has S.bs n=false) (hp:pok n=true) (hr:nr S.bs n≠("":Str)):t.bad S=none:=by
  unfold Atm.bad; rw [ht]; show (if has S.bs n=true then _ else if pok n=false then _ else _)=_; rw [hk,hp]; exact if_neg hr
theorem XU {x:Str} (h:pok x=true):x.length≠0:=by
  intro e;obtain ⟨c⟩:=x;obtain rfl:c = #[]:=Array.eq_empty_of_size_eq_zero e;exact absurd h (by decide +kernel)
end
end L2
set_option Elab.async false
set_option linter.all false
set_option maxRecDepth 100000
namespace L2
open PySem PySem.Spec
noncomputable def fl (f:Nat→Bool) (n:Nat):List Nat:=(List.range n).filter f
theorem ZfH (f:Nat→Bool) (n:Nat):fl f (n+1)=fl f n++(if f n=true then [n] else []):=by
  unfold fl;rw [List.range_succ,filter_append];congr 1;cases e:f n with
  | true=>rw [filter_cons_of_pos e]; rfl
  | false=>rw [filter_cons_of_neg (by rw [e]; decide)]; rfl
theorem fl_len (f:Nat→Bool) (n:Nat):(fl f n).length≤n:=by unfold fl; exact le_trans (length_filter_le _ _) (by rw [length_range]; exact le_refl _)
theorem Zhg (n:Nat):fl (fun _=>true) n=List.range n:=by unfold fl; rw [List.filter_eq_self]; intro _ _; rfl
theorem Zgd {α β:Type} {g:α→β}:∀ {l:List α} {m:List β},Paired (fun a b=>b=g a) l m→m=l.map g
  | _,_, .nil=>rfl
  | _,_, .cons r t=>by rw [r,Zgd t]; rfl
noncomputable abbrev LCs (caps:List (Str×Nat)) (J:It) (tt:TT) (te:TE) (σ:St) (H1:Hp) (Q:VK):Prop:=
    ∀ D,H1 D=none→∃ W:Nat→Nat→Hp→Prop,(∃ m,W 0 m (upd H1 D (.lst [])))∧∀ i m H2,W i m H2 →
      (J.stop i H2∧Q (.ref D) H2)∨(J.go i H2∧∀ x H',J.yld i H2 x H'→tt (some x::ZR caps σ) H' fun b H3 =>
        if b=true then te (some x::ZR caps σ) H3 fun v H4=>∃ ys m',H4 D=some (.lst ys)∧ys.length<sizeLine∧m'<m∧W (i+1) m' (upd H4 D (.lst (ys++[v])))
        else ∃ m',m'<m∧W (i+1) m' H3)
section
variable {K:Frag} {caps:List (Str×Nat)} {tt:TT} {tl te:TE} {σ:St} {H H1:Hp} {Q:VK}
theorem lcG {J:It} {n:Nat} (X:Nat→V) (hn:n≤900)
    (stop:∀ H,Zj H1 H→J.stop n H) (go:∀ i H,i<n→Zj H1 H→J.go i H∧∀ x H',J.yld i H x H'→H'=H∧x=X i)
    (f:Nat→Bool) (P:Nat→V→Hp→Prop) (mono:∀ i v H H' D ys,H D=some (.lst ys)→Z3 [D] H H'→P i v H→P i v H')
    (step:∀ i H2,i<n→Zj H1 H2→∀ R:Bool→Hp→Prop,(∀ H3,Zj H2 H3→R (f i) H3)→tt (some (X i)::ZR caps σ) H2 R)
    (elt:∀ i H2,i<n→f i=true→Zj H1 H2→∀ R:VK,(∀ v H3,Zj H2 H3→P i v H3→R v H3)→te (some (X i)::ZR caps σ) H2 R)
    (q:∀ D ys H2,H1 D=none→Zj H1 H2→H2 D=some (.lst ys)→Paired (fun j v=>P j v H2) (fl f n) ys→Q (.ref D) H2) :
    LCs caps J tt te σ H1 Q:=by
  intro D hD;refine ⟨fun i m H2=>i≤n∧m=n - i∧Zj H1 H2∧∃ ys,H2 D=some (.lst ys)∧Paired (fun j v=>P j v H2) (fl f i) ys,⟨n,zero_le _,rfl,Zi hD _,[],Zd, .nil⟩,?_⟩;rintro i m H2 ⟨hi,rfl,s2,ys,h2,hp⟩
  by_cases hlt:i<n
  · obtain ⟨g1,g2⟩:=go i H2 hlt s2;refine .inr ⟨g1,fun x H' y=>?_⟩;obtain ⟨rfl,rfl⟩:=g2 x H' y;refine step i _ hlt s2 _ fun H3 s3=>?_;have p3:=Paired.mapP hp fun j v h=>mono j v _ H3 D ys h2 (s3.kp.wide (fun _ h=>nomatch h)) h;have nx:=ZfH f i;cases e:f i with
    | false =>
      rw [e] at nx;exact ⟨n - (i+1),by omega,hlt,rfl,s2.trans s3,ys,s3 _ _ h2,by rw [nx,if_neg (by decide),append_nil]; exact p3⟩
    | true =>
      rw [e] at nx;show te _ H3 _;refine elt i _ hlt e (s2.trans s3) _ fun v H4 s4 hv=>?_;have h4:=s4 _ _ (s3 _ _ h2);have p4:=Paired.mapP p3 fun j v h=>mono j v _ H4 D ys (s3 _ _ h2) (s4.kp.wide (fun _ h=>nomatch h)) h;have yl:ys.length≤i:=by rw [← hp.length]; exact fl_len f i
      refine ⟨ys,n - (i+1),h4,ZC (by omega),by omega,hlt,rfl,ZX ((s2.trans s3).trans s4) hD,ys++[v],Zd,?_⟩;rw [nx,if_pos rfl];exact (Paired.mapP p4 fun j v h=>mono j v _ _ D ys h4 X0 h).snoc (mono i v _ _ D ys h4 X0 hv)
  · have e:i=n:=by omega
    subst e;exact .inl ⟨stop _ s2,q D ys H2 hD s2 h2 hp⟩
theorem lcR {lo:Int} {n:Nat} (hn:n≤900) (f:Nat→Bool) (P:Nat→V→Hp→Prop) (mono:∀ i v H H' D ys,H D=some (.lst ys)→Z3 [D] H H'→P i v H→P i v H')
    (step:∀ i H2,i<n→Zj H1 H2→∀ R:Bool→Hp→Prop,(∀ H3,Zj H2 H3→R (f i) H3)→tt (some (.int (lo+i))::ZR caps σ) H2 R)
    (elt:∀ i H2,i<n→f i=true→Zj H1 H2→∀ R:VK,(∀ v H3,Zj H2 H3→P i v H3→R v H3)→te (some (.int (lo+i))::ZR caps σ) H2 R)
    (q:∀ D ys H2,H1 D=none→Zj H1 H2→H2 D=some (.lst ys)→Paired (fun j v=>P j v H2) (fl f n) ys→Q (.ref D) H2):LCs caps (Itr lo n) tt te σ H1 Q:=
  lcG (J:=Itr lo n) (Q:=Q) (fun i => .int (lo+i)) hn (fun _ _=>le_refl n) (fun i H h _=>⟨h,fun x H' y=>y⟩) f P mono step elt q
theorem lcL {a:Addr} {xs:List V} (hl:SqL K H1 a xs) (hn:xs.length≤900) (f:Nat→Bool) (P:Nat→V→Hp→Prop) (mono:∀ i v H H' D ys,H D=some (.lst ys)→Z3 [D] H H'→P i v H→P i v H')
    (step:∀ i x H2,xs[i]? = some x→Zj H1 H2→∀ R:Bool→Hp→Prop,(∀ H3,Zj H2 H3→R (f i) H3)→tt (some x::ZR caps σ) H2 R)
    (elt:∀ i x H2,xs[i]? = some x→f i=true→Zj H1 H2→∀ R:VK,(∀ v H3,Zj H2 H3→P i v H3→R v H3)→te (some x::ZR caps σ) H2 R)
    (q:∀ D ys H2,H1 D=none→Zj H1 H2→H2 D=some (.lst ys)→Paired (fun j v=>P j v H2) (fl f xs.length) ys→Q (.ref D) H2):LCs caps (Itl K a) tt te σ H1 Q:=
  lcG (J:=Itl K a) (Q:=Q) (fun i=>xs[i]?.getD .non) hn (fun H s=>⟨xs,s.seq hl,le_refl _⟩)
    (fun i H h s=>⟨⟨xs,xs[i],s.seq hl,getElem?_eq_getElem h⟩,fun x H' y=>⟨y.1,by rw [y.2 xs (s.seq hl)]; rfl⟩⟩) f P mono
    (fun i H2 hi s=>by
      have e:xs[i]? = some xs[i]:=getElem?_eq_getElem hi;show ∀ R,_→tt (some (xs[i]?.getD .non)::ZR caps σ) H2 R;rw [e];exact step i _ H2 e s)
    (fun i H2 hi hf s=>by
      have e:xs[i]? = some xs[i]:=getElem?_eq_getElem hi;show ∀ R,_→te (some (xs[i]?.getD .non)::ZR caps σ) H2 R;rw [e];exact elt i _ H2 e hf s) q
theorem lcLv {a:Addr} {xs:List V} (hl:SqL K H1 a xs) (hn:xs.length≤900) (f:Nat→Bool) (g:Nat→V)
    (step:∀ i x H2,xs[i]? = some x→Zj H1 H2→∀ R:Bool→Hp→Prop,(∀ H3,Zj H2 H3→R (f i) H3)→tt (some x::ZR caps σ) H2 R)
    (elt:∀ i x H2,xs[i]? = some x→f i=true→Zj H1 H2→∀ R:VK,(∀ H3,Zj H2 H3→R (g i) H3)→te (some x::ZR caps σ) H2 R)
    (q:∀ D H2,H1 D=none→Zj H1 H2→H2 D=some (.lst ((fl f xs.length).map g))→Q (.ref D) H2):LCs caps (Itl K a) tt te σ H1 Q:=
  lcL (Q:=Q) hl hn f (fun i v _=>v=g i) (fun _ _ _ _ _ _ _ _ h=>h) step (fun i x H2 hx hf s R r=>elt i x H2 hx hf s R fun H3 s3=>r _ H3 s3 rfl)
    (fun D ys H2 h1 s h2 hp=>q D H2 h1 s (by rw [← Zgd hp]; exact h2))
end
open PySem PySem.Spec
section
variable {K:Frag} {caps:List (Str×Nat)} {tt:TT} {tl te:TE} {ta:TA} {σ:St} {H:Hp} {Q:VK}
theorem lcLT {xs:List V} (A:Addr→Hp→Prop) (htl:∀ R:VK,(∀ a H1,A a H1→R (.ref a) H1)→tl σ H R) (hA:∀ a H1,A a H1→SqL K H1 a xs) (hn:xs.length≤900) (f:Nat→Bool) (P:Addr→Hp→Nat→V→Hp→Prop)
    (mono:∀ a H1 i v H H' D ys,H D=some (.lst ys)→Z3 [D] H H'→P a H1 i v H→P a H1 i v H')
    (step:∀ a H1 i x H2,A a H1→xs[i]? = some x→Zj H1 H2→∀ R:Bool→Hp→Prop,(∀ H3,Zj H2 H3→R (f i) H3)→tt (some x::ZR caps σ) H2 R)
    (elt:∀ a H1 i x H2,A a H1→xs[i]? = some x→f i=true→Zj H1 H2→∀ R:VK,(∀ v H3,Zj H2 H3→P a H1 i v H3→R v H3)→te (some x::ZR caps σ) H2 R)
    (q:∀ a H1 D ys H2,A a H1→H1 D=none→Zj H1 H2→H2 D=some (.lst ys)→Paired (fun j v=>P a H1 j v H2) (fl f xs.length) ys→Q (.ref D) H2):tLC caps (Zct K tl) tt te σ H Q:=
  htl _ fun a H1 h=>⟨a,rfl,⟨xs,hA a H1 h⟩,lcL (hA a H1 h) hn f (P a H1) (mono a H1) (fun i x H2=>step a H1 i x H2 h) (fun i x H2=>elt a H1 i x H2 h) (fun D ys H2=>q a H1 D ys H2 h)⟩
theorem lcLvT {xs:List V} (A:Addr→Hp→Prop) (htl:∀ R:VK,(∀ a H1,A a H1→R (.ref a) H1)→tl σ H R) (hA:∀ a H1,A a H1→SqL K H1 a xs) (hn:xs.length≤900) (f:Nat→Bool) (g:Nat→V)
    (step:∀ a H1 i x H2,A a H1→xs[i]? = some x→Zj H1 H2→∀ R:Bool→Hp→Prop,(∀ H3,Zj H2 H3→R (f i) H3)→tt (some x::ZR caps σ) H2 R)
    (elt:∀ a H1 i x H2,A a H1→xs[i]? = some x→f i=true→Zj H1 H2→∀ R:VK,(∀ H3,Zj H2 H3→R (g i) H3)→te (some x::ZR caps σ) H2 R)
    (q:∀ a H1 D H2,A a H1→H1 D=none→Zj H1 H2→H2 D=some (.lst ((fl f xs.length).map g))→Q (.ref D) H2):tLC caps (Zct K tl) tt te σ H Q:=
  htl _ fun a H1 h=>⟨a,rfl,⟨xs,hA a H1 h⟩,lcLv (hA a H1 h) hn f g (fun i x H2=>step a H1 i x H2 h) (fun i x H2=>elt a H1 i x H2 h) (fun D H2=>q a H1 D H2 h)⟩
end
end L2
set_option Elab.async false
set_option linter.all false
set_option maxRecDepth 100000
namespace L2
open PySem PySem.Spec
noncomputable def okN (S:Mo) (n:Str):Prop:=pok n=true∧nr S.bs n≠Str.empty
noncomputable def Atm.ok (S:Mo):Atm→Prop
  | .year y=>0≤y∧y<10000
  | .comes w=>gw w=true
  | .born n=>okN S n
  | .dead n=>okN S n
  | .age n a=>okN S n∧0≤a∧a≤120
section
variable {S:Mo} {t:Atm} {n:Str}
theorem Atm.ok_who (h:t.ok S) (hw:t.who=some n):okN S n:=by
  cases t with
  | year y=>cases hw
  | comes w=>cases hw
  | born m=>cases hw; exact h
  | dead m=>cases hw; exact h
  | age m a=>cases hw; exact h.1
theorem Atm.ok_bad (h:t.ok S):t.bad S=none:=by
  cases hw:t.who with
  | none=>unfold Atm.bad; rw [hw]
  | some n =>
    have z:=Atm.ok_who h hw;cases hk:has S.bs n with
    | true=>exact Atm.bad_known hw hk
    | false=>exact Atm.bad_fine hw hk z.1 (fun e=>z.2 (e.trans (by decide +kernel)))
theorem Atm.ok_len (h:t.ok S):∀ n,t.who=some n→n.length≤200:=fun n hw=>by have:=Xh (Atm.ok_who h hw).1; omega
end
structure AtmsAt (H:Hp) (l:Addr) (ts:List Atm) (ps:List Addr):Prop where
  lst:H l=some (.lst (ps.map V.ref))
  len:ps.length=ts.length
  at_:∀ (i:Nat) (p:Addr) (t:Atm),ps[i]? = some p→ts[i]? = some t→H p=some (.tup t.vals)
section
variable {H H':Hp} {l:Addr} {ts:List Atm} {ps X:List Addr}
theorem AtmsAt.mv (D:AtmsAt H l ts ps) (h:∀ a∈l::ps,∀ o,H a=some o→H' a=some o):AtmsAt H' l ts ps:=
  ⟨h _ (by simp) _ D.lst,D.len,fun i p d e1 e2=>h _ (mem_cons_of_mem _ (mem_of_getElem? e1)) _ (D.at_ i p d e1 e2)⟩
theorem AtmsAt.same (D:AtmsAt H l ts ps) (s:Zj H H'):AtmsAt H' l ts ps:=D.mv fun a _ o e=>s a o e
theorem AtmsAt.at' (D:AtmsAt H l ts ps) {i:Nat} {v:V} (h:(ps.map V.ref)[i]? = some v):∃ p t,v = .ref p∧ts[i]? = some t∧H p=some (.tup t.vals):=by
  rw [getElem?_map] at h;cases e:ps[i]? with
  | none=>rw [e] at h; cases h
  | some p =>
    rw [e] at h;cases h;have hi:i<ts.length:=by rw [← D.len]; exact (List.getElem?_eq_some_iff.mp e).1
    exact ⟨p,_,rfl,getElem?_eq_getElem hi,D.at_ i p _ e (getElem?_eq_getElem hi)⟩
end
theorem ZhV {H:Hp} {l:Addr} {ok:Atm→Prop} {fr:Addr→Prop} {js:List Nat} {ys:List V} (hl:H l=some (.lst ys))
    (h:Paired (fun _ v=>∃ p t,v=V.ref p∧H p=some (.tup (Atm.vals t))∧ok t∧fr p) js ys):∃ ts ps,AtmsAt H l ts ps∧(∀ t∈ts,ok t)∧(∀ p∈ps,fr p)∧ts.length=js.length:=by
  suffices z:∃ (ts:List Atm) (ps:List Addr),ys=ps.map V.ref∧ps.length=ts.length∧(∀ (i:Nat) (p:Addr) (t:Atm),ps[i]? = some p→ts[i]? = some t→H p=some (.tup t.vals))∧(∀ t∈ts,ok t)∧(∀ p∈ps,fr p)∧ts.length=js.length by
    obtain ⟨ts,ps,e,a,b,c,d,f⟩:=z;exact ⟨ts,ps,⟨by rw [hl,e],a,b⟩,c,d,f⟩
  clear hl
  induction h with
  | nil=>exact ⟨[],[],rfl,rfl,(fun i p t h=>by simp at h),(fun _ h=>nomatch h),(fun _ h=>nomatch h),rfl⟩
  | cons r _ ih =>
    obtain ⟨ts,ps,e,a,b,c,d,f⟩:=ih;obtain ⟨p,t,rfl,hp,ho,hf⟩:=r;refine ⟨t::ts,p::ps,by rw [e]; rfl,by rw [length_cons,length_cons,a],?_,?_,?_,by rw [length_cons,length_cons,f]⟩
    · intro i q u h1 h2;cases i with
      | zero=>cases h1; cases h2; exact hp
      | succ i=>exact b i q u h1 h2
    · intro u hu;rcases List.mem_cons.mp hu with rfl | hu
      · exact ho
      · exact c u hu
    · intro u hu;rcases List.mem_cons.mp hu with rfl | hu
      · exact hf
      · exact d u hu
theorem Zg0 {a b:V} (n:Int):∃ v,atI [a,b] (n % 2)=some v∧(v=a∨v=b):=by
  rcases (show n % 2=0∨n % 2=1 by omega) with e | e <;> rw [e]
  · exact ⟨_,rfl, .inl rfl⟩
  · exact ⟨_,rfl, .inr rfl⟩
open PySem PySem.Spec
theorem Zjw {H H':Hp} {D p:Addr} {ys xs:List V} (hD:H D=some (.lst ys)) (k:Z3 [D] H H') (hp:H p=some (.tup xs)):H' p=some (.tup xs):=
  k.1 p _ (fun z=>ZI hp hD (fun e=>by cases e) (List.mem_singleton.mp z)) hp
theorem ZjW {ok:Atm→Prop} {fr:Addr→Prop}:∀ (i:Nat) (v:V) (H H':Hp) (D:Addr) (ys:List V),H D=some (.lst ys)→Z3 [D] H H' →
    (∃ p t,v=V.ref p∧H p=some (.tup (Atm.vals t))∧ok t∧fr p)→∃ p t,v=V.ref p∧H' p=some (.tup (Atm.vals t))∧ok t∧fr p:=
  fun _ _ _ _ _ _ hD k ⟨p,t,e,hp,a,b⟩=>⟨p,t,e,Zjw hD k hp,a,b⟩
theorem cl_sub {cl cells:List (Str×Addr)} (h:∀ p∈cl,cells.lookup p.1=some p.2):∀ x c,cl.lookup x=some c→cells.lookup x=some c:=by
  intro x c e
  induction cl with
  | nil=>cases e
  | cons p r ih =>
    obtain ⟨k,v⟩:=p;rw [List.lookup_cons] at e;cases q:x == k with
    | true =>
      rw [q] at e;have e':some v=some c:=e;have hk:x=k:=eq_of_beq q;rw [hk,← e'];exact h (k,v) (by simp)
    | false =>
      rw [q] at e;exact ih (fun p hp=>h p (mem_cons_of_mem _ hp)) e
open PySem PySem.Spec
noncomputable def Er.nm:Er→Str
  | .none_=>"person" | .text=>"text" | _=>""
open PySem PySem.Spec
theorem AtmsAt.cons {H:Hp} {l l' p:Addr} {t:Atm} {ts:List Atm} {ps:List Addr} (A:AtmsAt H l ts ps) (hp:H p=some (.tup t.vals)) (hl:H l'=some (.lst ((p::ps).map V.ref))):AtmsAt H l' (t::ts) (p::ps):=
  ⟨hl,by rw [length_cons,length_cons,A.len],fun i q u e1 e2=>by
    cases i with
    | zero=>cases e1; cases e2; exact hp
    | succ i=>exact A.at_ i q u e1 e2⟩
theorem Zil {w:Str} (h:gw w=true):46∉w.cps.toList:=fun hm=>by
  unfold gw at h;simp only [and_eq_true] at h;have z:=List.all_eq_true.mp h.1.2 46 hm;exact absurd z (by decide)
theorem up_gw {w:Str} (h:gw w=true):up w=Str.empty:=by
  unfold up;rcases StrLaws.last_spec w dot with ⟨e,_⟩ | ⟨i,e,z,_⟩
  · rw [e]
  · exact absurd (mem_of_getElem? ((L2.at_iff w i).mp z)) (Zil h)
theorem nr_gw {bs:List (Str×Int)} {w:Str} (h:gw w=true) (hk:has bs w=false):nr bs w=Str.empty:=by
  rw [Zgu (by have:=(ZfE h).1; omega) hk,up_gw h,Zeb]
end L2
set_option Elab.async false
set_option linter.all false
set_option maxRecDepth 100000
namespace L2
open PySem PySem.Spec
noncomputable def Yl (ss:List Str):Str:=if ("failed":Str)∈ss then "failed" else if ("hangs":Str)∈ss then "hangs" else "met"
theorem Zcr (a:Str) (ss:List Str):inV (.str a) (ss.map V.str)=decide (a∈ss):=by
  unfold inV;rw [List.any_map]
  induction ss with
  | nil=>rfl
  | cons b r ih =>
    rw [any_cons,ih];show ((b == a) || decide (a∈r))=_
    by_cases e:b=a
    · subst e; simp
    · rw [beq_eq_false_iff_ne.mpr e];simp [Ne.symm e]
theorem ZcW (ss:List Str):(ss.map V.str).all Zbw=true:=by
  rw [List.all_map,List.all_eq_true];intro _ _;rfl
noncomputable def Atm.data:Atm→PyData
  | .year y => .tuple [.str "year", .int y]
  | .comes w => .tuple [.str "comes", .str w]
  | .born n => .tuple [.str "born", .str n]
  | .dead n => .tuple [.str "dead", .str n]
  | .age n a => .tuple [.str "age", .str n, .int a]
theorem AtmsAt.copy {H:Hp} {l l':Addr} {ts:List Atm} {ps:List Addr} (A:AtmsAt H l ts ps) (h:H l'=some (.lst (ps.map V.ref))):AtmsAt H l' ts ps:=⟨h,A.len,A.at_⟩
open PySem PySem.Spec
theorem Zh2 {S:Mo} (ts:List Atm):((List.range ts.length).map fun i=>V.str ((ts[i]?.map (Atm.stand S)).getD ""))=(ts.map (Atm.stand S)).map V.str:=by
  rw [map_map];refine List.ext_getElem? fun i=>?_;rw [getElem?_map,getElem?_map]
  by_cases h:i<ts.length
  · rw [List.getElem?_range h,getElem?_eq_getElem h];simp [getElem?_eq_getElem h]
  · rw [getElem?_eq_none (by simpa using h),getElem?_eq_none (by simpa using h)];rfl
end L2
set_option Elab.async false
set_option linter.all false
set_option maxRecDepth 100000
namespace L2
open PySem PySem.Spec
section
variable {K:Frag} {caps:List (Str×Nat)} {tl te:TE} {tt:TT} {σ:St} {H:Hp} {Q:VK}
theorem lcS {ss:List Str} (A:Addr→Hp→Prop) (f:Str→Bool) (ge:Str→V) (htl:∀ R:VK,(∀ a H1,A a H1→R (.ref a) H1)→tl σ H R) (hA:∀ a H1,A a H1→SqL K H1 a (ss.map V.str)) (hlen:ss.length≤900)
    (step:∀ a H1 x H2,A a H1→x∈ss→Zj H1 H2→∀ R:Bool→Hp→Prop,(∀ H3,Zj H2 H3→R (f x) H3)→tt (some (.str x)::ZR caps σ) H2 R)
    (elt:∀ a H1 x H2,A a H1→x∈ss→f x=true→Zj H1 H2→∀ R:VK,(∀ H3,Zj H2 H3→R (ge x) H3)→te (some (.str x)::ZR caps σ) H2 R)
    (q:∀ a H1 D H2,A a H1→H1 D=none→Zj H1 H2→H2 D=some (.lst ((ss.filter f).map ge))→Q (.ref D) H2):tLC caps (Zct K tl) tt te σ H Q:=by
  refine lclT (xs:=ss.map V.str) A htl hA (by rw [length_map]; exact hlen) (fun v=>match v with | .str x=>f x | _=>false) (fun v=>match v with | .str x=>ge x | _=>v) ?_ ?_ ?_
  · intro a H1 i x H2 hA hx s;rw [getElem?_map] at hx;cases e:ss[i]? with
    | none=>rw [e] at hx; cases hx
    | some y=>rw [e] at hx; cases hx; exact step a H1 y H2 hA (mem_of_getElem? e) s
  · intro a H1 i x H2 hA hx hf s;rw [getElem?_map] at hx;cases e:ss[i]? with
    | none=>rw [e] at hx; cases hx
    | some y=>rw [e] at hx; cases hx; exact elt a H1 y H2 hA (mem_of_getElem? e) hf s
  · intro a H1 D H2 hA hD s h;refine q a H1 D H2 hA hD s ?_;rw [h,List.filter_map,map_map];rfl
end
noncomputable def Xm (S:Mo) (n:Str):List Str:=kidL n (nk S.bs n)
noncomputable def Zb3 (S:Mo) (n:Str) (os:List Str):List Str:=(Xm S n).filter fun c => !decide (c∈os)
noncomputable def Za6 (S:Mo) (c:Str):Int:=(yr S.bs c).getD 0
noncomputable def Zdl (S:Mo) (c:Str):Int:=(yr S.ds c).getD S.y - Za6 S c
noncomputable def Z8 (S:Mo) (n:Str) (a:Int) (os:List Str):List Str:=(Zb3 S n os).filter fun c => !decide (a≤Zdl S c) && !has S.ds c
noncomputable def Yv (S:Mo) (n:Str):List Str:=(Xm S n).filter fun c=>has S.ds c
section
variable {S:Mo} {n c:Str} {a:Int} {os:List Str}
theorem Zb4 (W:Wf S.bs S.ds) (n:Str):(Xm S n).length≤S.bs.length:=by
  unfold Xm kidL;rw [length_map,length_range];exact W.few n
theorem Jp (W:Wf S.bs S.ds) (h:c∈Xm S n):has S.bs c=true:=by
  unfold Xm kidL at h;obtain ⟨i,hi,rfl⟩:=List.mem_map.mp h;have hi:=List.mem_range.mp hi;exact (W.cnt n i (by have:=W.few n; have:=W.lim; omega)).mpr hi
theorem Zed (h:c∈Zb3 S n os):c∈Xm S n:=(List.mem_filter.mp h).1
theorem Zee (W:Wf S.bs S.ds):(Zb3 S n os).length≤S.bs.length:=le_trans (length_filter_le _ _) (Zb4 W n)
theorem ZcB (h:c∈Z8 S n a os):c∈Xm S n:=Zed (List.mem_filter.mp h).1
theorem Zbt (W:Wf S.bs S.ds) (h:has S.bs n=false):Xm S n=[]:=by
  unfold Xm;rw [W.nk_none h];rfl
theorem Zdx {y:Int} (h:yr S.bs c=some y):Za6 S c=y:=by unfold Za6; rw [h]; rfl
theorem ZjZ {y:Int} (h:yr S.bs c=some y):(yr S.ds c).getD S.y - y=Zdl S c:=by unfold Zdl; rw [Zdx h]
theorem ZjY (h:has S.bs c=true):al S.bs S.ds c = !has S.ds c:=by unfold al; rw [h]; rfl
theorem ZfY {y:Int} (h:yr S.bs c=some y):decide (V.str (ZdA S c y a)=V.str "hangs")=(!decide (a≤Zdl S c) && !has S.ds c):=by
  unfold ZdA;rw [show ZhX S c y=Zdl S c from ZjZ h]
  by_cases h1:a≤Zdl S c
  · rw [if_pos h1,decide_eq_true h1];exact decide_eq_false (fun e=>absurd (by injection e:("met":Str)="hangs") (by decide +kernel))
  · rw [if_neg h1,decide_eq_false h1];cases h2:has S.ds c with
    | true=>exact decide_eq_false (fun e=>absurd (by injection e:("failed":Str)="hangs") (by decide +kernel))
    | false=>exact decide_eq_true rfl
theorem out_eq (W:Wf S.bs S.ds):((Xm S n).filter fun c => !al S.bs S.ds c)=Yv S n:=by
  unfold Yv;refine List.filter_congr fun c hc=>?_;rw [ZjY (Jp W hc),Bool.not_not]
end
end L2
set_option Elab.async false
set_option linter.all false
set_option maxRecDepth 100000
namespace L2
open PySem PySem.Spec
theorem fig1:∀ c∈List.range 9,(⟨#[49+c]⟩:Str)=(toString ((c:Int)+1):Str):=by decide +kernel
theorem fig2:∀ c∈List.range 9,∀ d∈List.range 10,(⟨#[49+c,48+d]⟩:Str)=(toString (((10 * (c+1)+d - 1:Nat):Int)+1):Str):=by decide +kernel
theorem gn_is {p:Str} (h:gn p=true):∃ i:Nat,i<99∧p=(toString ((i:Int)+1):Str):=by
  unfold gn at h;simp only [and_eq_true,decide_eq_true_eq] at h;obtain ⟨⟨⟨h1,h2⟩,h3⟩,h4⟩:=h;have hl:p.cps.toList.length=p.length:=length_toList;have ep:p=⟨p.cps.toList.toArray⟩:=JK (by simp);rcases hc:p.cps.toList with _ | ⟨c,_ | ⟨d,_ | ⟨e,r⟩⟩⟩
  · rw [hc] at hl; simp at hl; omega
  · rw [hc] at h3 h4 ep;simp [inR] at h3 h4;obtain ⟨k,hk,rfl⟩:∃ k,k<9∧c=49+k:=⟨c - 49,by omega,by omega⟩;exact ⟨k,by omega,ep.trans (fig1 k (List.mem_range.mpr hk))⟩
  · rw [hc] at h3 h4 ep;simp [inR] at h3 h4;obtain ⟨k,hk,rfl⟩:∃ k,k<9∧c=49+k:=⟨c - 49,by omega,by omega⟩;obtain ⟨j,hj,rfl⟩:∃ j,j<10∧d=48+j:=⟨d - 48,by omega,by omega⟩;exact ⟨10 * (k+1)+j - 1,by omega,ep.trans (fig2 k (List.mem_range.mpr hk) j (List.mem_range.mpr hj))⟩
  · rw [hc] at hl; simp at hl; omega
theorem Zju (n:Str) (i:Nat):n.length<(kid n i).length:=by
  have e:(kid n i).length=n.length+1+(toString ((i:Int)+1):Str).length:=by
    unfold kid;rw [XS,XS];rfl
  omega
theorem ZcL {x:Str} (h:pok x=true):gw x=true∨∃ (n:Str) (i:Nat),i<99∧x=kid n i∧pok n=true∧Xv n<5:=by
  have h':=h;unfold pok at h;simp only [and_eq_true,decide_eq_true_eq] at h;obtain ⟨⟨hw,h5⟩,hg⟩:=h;rcases eq_nil_or_concat (nms x) with e | ⟨m,p,e⟩
  · left;have:pcs x=[wd x]:=by rw [XX,e]
    have e2:Str.join dot [wd x]=x:=by rw [← this]; exact Y9 x
    have:wd x=x:=e2;rw [← this]; exact hw
  · right;rw [List.concat_eq_append] at e;obtain ⟨i,hi,hp⟩:=gn_is (List.all_eq_true.mp hg p (by rw [e]; simp));have hpc:pcs x=(wd x::m)++[p]:=by rw [XX,e]; rfl
    have fr:∀ q∈wd x::m,46∉q.cps.toList:=fun q hq=>Zaj (x:=x) (by rw [hpc]; exact mem_append_left _ hq);have pn:pcs (Str.join dot (wd x::m))=wd x::m:=Zei _ _ (Zb0 _) (by simp) (fun q hq=>Zaj hq) fr (by rw [Y9]);have wn:wd (Str.join dot (wd x::m))=wd x:=by show (pcs (Str.join dot (wd x::m))).headD ""=wd x; rw [pn]; rfl
    have nn:nms (Str.join dot (wd x::m))=m:=by unfold nms; rw [pn]; rfl
    have ml:m.length<5:=by rw [e,length_append,length_singleton] at h5; omega
    refine ⟨Str.join dot (wd x::m),i,hi,?_,?_,by rw [Za3,nn]; exact ml⟩
    · have e3:pcs (kid (Str.join dot (wd x::m)) i)=pcs x:=by rw [Zfi,pn,hpc,hp]
      exact (Y9 x).symm.trans ((congrArg (Str.join dot) e3.symm).trans (Y9 _))
    · unfold pok;rw [wn,nn,hw];simp only [Bool.true_and,and_eq_true,decide_eq_true_eq];exact ⟨by omega,List.all_eq_true.mpr fun q hq=>List.all_eq_true.mp hg q (by rw [e]; exact mem_append_left _ hq)⟩
theorem wd_has {bs ds:List (Str×Int)} (W:Wf bs ds):∀ (k:Nat) (x:Str),x.length≤k→pok x=true→nr bs x≠Str.empty→gw (wd x)=true∧has bs (wd x)=true:=by
  intro k
  induction k with
  | zero=>intro x hx hp _; exact absurd (Nat.le_zero.mp hx) (XU hp)
  | succ k ih =>
    intro x hx hp hn;rcases ZcL hp with hg | ⟨n,i,hi,rfl,pn,dn⟩
    · rw [wd_gw hg];refine ⟨hg,?_⟩;cases e:has bs x with
      | true=>rfl
      | false=>exact absurd (nr_gw hg e) hn
    · rw [ZiL];refine ih n (by have:=Zju n i; omega) pn ?_;rw [Zg7] at hn;cases e:has bs (kid n i) with
      | true =>
        have z:=W.par n i e;rw [ZaA (XU pn) z];exact fun e=>XU pn (by rw [e]; rfl)
      | false=>rw [e] at hn; exact hn
theorem okN_wd {S:Mo} (W:Wf S.bs S.ds) {x:Str} (h:okN S x):okN S (wd x):=by
  obtain ⟨a,b⟩:=wd_has W x.length x (le_refl _) h.1 h.2;refine ⟨Zfg a,?_⟩;rw [ZaA (XU (Zfg a)) b];exact fun e=>XU (Zfg a) (by rw [e]; rfl)
open PySem PySem.Spec
end L2
set_option Elab.async false
set_option linter.all false
set_option maxRecDepth 100000
namespace L2
open PySem PySem.Spec
structure Cl where
  n:Str
  a:Int
  os:List Str
  day:Int
noncomputable def Cl.ok (S:Mo) (c:Cl):Prop:=okN S c.n∧0≤c.a∧c.a≤120∧(∀ s∈c.os,PyData.strOk s=true)∧c.os.length≤98
structure MadeAt (tl:Cl→List V) (H:Hp) (lm:Addr) (cs:List Cl) (qs:List (Addr×Addr)):Prop where
  lst:H lm=some (.lst (qs.map fun q=>V.ref q.1))
  len:qs.length=cs.length
  at_:∀ (i:Nat) q c,qs[i]? = some q→cs[i]? = some c→H q.1=some (.tup ([.str c.n, .int c.a, .ref q.2]++tl c))∧H q.2=some (.lst (c.os.map V.str))
  ne:∀ q∈qs,q.2≠lm
noncomputable def rgn (lm:Addr) (qs:List (Addr×Addr)):List Addr:=lm::qs.map (·.1)++qs.map (·.2)
section
variable {tl:Cl→List V} {H H':Hp} {lm:Addr} {cs:List Cl} {qs:List (Addr×Addr)} {X:List Addr}
end
noncomputable def MadeX (tl:Cl→List V) (H:Hp) (lm:Addr) (S:Mo) (i:Nat) (cs:List Cl) (RX:List Addr):Prop:=∃ qs,MadeAt tl H lm cs qs∧RX=rgn lm qs∧(∀ c∈cs,c.ok S)∧cs.length≤i
section
variable {tl:Cl→List V} {H H':Hp} {lm:Addr} {S:Mo} {i:Nat} {cs:List Cl} {RX X:List Addr}
end
end L2
set_option Elab.async false
set_option linter.all false
set_option maxRecDepth 100000
namespace L2
open PySem PySem.Spec PyProof.Rows
section
variable {X:Cx}
noncomputable def rMax1 (K:Frag):List V→Hp→VK→Prop:=fun xs H Q=>∃ (p:Addr) (ns:List Int),xs=[.ref p]∧SqL K H p (ns.map V.int)∧ns≠[]∧∀ M,M∈ns→(∀ a∈ns,a≤M)→Q (.int M) H
noncomputable def rMin1 (K:Frag):List V→Hp→VK→Prop:=fun xs H Q=>∃ (p:Addr) (ns:List Int),xs=[.ref p]∧SqL K H p (ns.map V.int)∧ns≠[]∧∀ M,M∈ns→(∀ a∈ns,M≤a)→Q (.int M) H
theorem ZiG (hc:X.calm=true):Jz X (.builtin "max") (rMax1 X.K):=by
  intro pins s σ H xs us Q I r h;obtain ⟨p,ns,rfl,hl,hne,q⟩:=h;obtain ⟨u,rfl,e⟩:=ZaC r;cases e;obtain ⟨its,r',pl,_⟩:=I.list hl;have hi:=Zek r';obtain ⟨ys,e⟩:=hi.allInts.items;have hns:ns=ys.toList.map (·.1):=by rw [← hi.numsOf,← nums_intItems,← e]
  have hsz:0<ys.size:=by
    have h3:0<ns.length:=List.length_pos_iff.mpr hne;rw [hns,length_map,length_toList] at h3; exact h3
  have hL:=pl.isList;rw [e] at hL;refine max_intList (I.ok.hd hc) hL hsz fun v h' tk hv hk=>?_;obtain ⟨t,rfl⟩:=intItems_at hv;obtain ⟨h1,h2⟩:=argBest_gt (numAt ys) (ys.size - 1);refine ⟨.int _,H,I.kept hk,⟨_,rfl⟩,q _ ?_ fun a ha=>?_⟩
  · rw [hns,numAt_eq]; exact getD_mem (by rw [length_map,length_toList]; omega)
  · rw [hns] at ha;obtain ⟨j,hj,rfl⟩:=mem_getD ha;rw [length_map,length_toList] at hj;rw [← numAt_eq]; exact h2 j (by omega)
theorem ZiF (hc:X.calm=true):Jz X (.builtin "min") (rMin1 X.K):=by
  intro pins s σ H xs us Q I r h;obtain ⟨p,ns,rfl,hl,hne,q⟩:=h;obtain ⟨u,rfl,e⟩:=ZaC r;cases e;obtain ⟨its,r',pl,_⟩:=I.list hl;have hi:=Zek r';obtain ⟨ys,e⟩:=hi.allInts.items;have hns:ns=ys.toList.map (·.1):=by rw [← hi.numsOf,← nums_intItems,← e]
  have hsz:0<ys.size:=by
    have h3:0<ns.length:=List.length_pos_iff.mpr hne;rw [hns,length_map,length_toList] at h3; exact h3
  have hL:=pl.isList;rw [e] at hL;refine min_intList (I.ok.hd hc) hL hsz fun v h' tk hv hk=>?_;obtain ⟨t,rfl⟩:=intItems_at hv;obtain ⟨h1,h2⟩:=argBest_lt (numAt ys) (ys.size - 1);refine ⟨.int _,H,I.kept hk,⟨_,rfl⟩,q _ ?_ fun a ha=>?_⟩
  · rw [hns,numAt_eq]; exact getD_mem (by rw [length_map,length_toList]; omega)
  · rw [hns] at ha;obtain ⟨j,hj,rfl⟩:=mem_getD ha;rw [length_map,length_toList] at hj;rw [← numAt_eq]; exact h2 j (by omega)
end
theorem Zjl {ns:List Int} {M N:Int} (h1:M∈ns) (h2:∀ a∈ns,a≤M) (h3:N∈ns) (h4:∀ a∈ns,a≤N):M=N:=by
  have:=h2 N h3;have:=h4 M h1;omega
end L2
set_option Elab.async false
set_option linter.all false
set_option maxRecDepth 100000
namespace L2
open PySem PySem.Spec PyProof.Rows
section
variable {X:Cx}
end
end L2
set_option Elab.async false
set_option linter.all false
set_option maxRecDepth 100000
namespace L2
open PySem PySem.Spec
structure TupsAt (H:Hp) (l:Addr) (vss:List (List V)) (ps:List Addr):Prop where
  lst:H l=some (.lst (ps.map V.ref))
  len:ps.length=vss.length
  at_:∀ (i:Nat) (p:Addr) (vs:List V),ps[i]? = some p→vss[i]? = some vs→H p=some (.tup vs)
section
variable {H H':Hp} {l:Addr} {vss:List (List V)} {ps:List Addr}
theorem TupsAt.same (D:TupsAt H l vss ps) (s:Zj H H'):TupsAt H' l vss ps:=⟨s _ _ D.lst,D.len,fun i p vs a b=>s _ _ (D.at_ i p vs a b)⟩
theorem TupsAt.get (D:TupsAt H l vss ps) {i:Nat} {v:V} (h:(ps.map V.ref)[i]? = some v):∃ p vs,v = .ref p∧vss[i]? = some vs∧H p=some (.tup vs):=by
  rw [getElem?_map] at h;cases e:ps[i]? with
  | none=>rw [e] at h; cases h
  | some p =>
    rw [e] at h;cases h;have hi:i<vss.length:=by rw [← D.len]; exact (List.getElem?_eq_some_iff.mp e).1
    exact ⟨p,_,rfl,getElem?_eq_getElem hi,D.at_ i p _ e (getElem?_eq_getElem hi)⟩
end
theorem Zhr {H:Hp} {l:Addr} {js:List Nat} {ys:List V} {F:Nat→List V} {fr:Addr→Prop} (hl:H l=some (.lst ys)) (h:Paired (fun j v=>∃ p,v=V.ref p∧H p=some (.tup (F j))∧fr p) js ys):∃ ps,TupsAt H l (js.map F) ps∧∀ p∈ps,fr p:=by
  suffices z:∃ ps:List Addr,ys=ps.map V.ref∧ps.length=(js.map F).length∧(∀ (i:Nat) (p:Addr) (vs:List V),ps[i]? = some p→(js.map F)[i]? = some vs→H p=some (.tup vs))∧∀ p∈ps,fr p by
    obtain ⟨ps,e,a,b,c⟩:=z;exact ⟨ps,⟨by rw [hl,e],a,b⟩,c⟩
  clear hl
  induction h with
  | nil=>exact ⟨[],rfl,rfl,(fun i p vs h=>by simp at h),(fun _ h=>nomatch h)⟩
  | cons r _ ih =>
    obtain ⟨ps,e,a,b,c⟩:=ih;obtain ⟨p,rfl,hp,hf⟩:=r;refine ⟨p::ps,by rw [e]; rfl,by simp at a; simp [a],?_,?_⟩
    · intro i q u h1 h2;cases i with
      | zero=>cases h1; cases h2; exact hp
      | succ i=>exact b i q u h1 h2
    · intro u hu;rcases List.mem_cons.mp hu with rfl | hu
      · exact hf
      · exact c u hu
section
variable {K:Frag} {caps:List (Str×Nat)} {tl te:TE} {tt:TT} {σ:St} {H:Hp} {Q:VK}
end
noncomputable def sy (S:Mo) (t:Atm):Int:=match t.since S with | .int y=>y | _=>0
section
variable {S:Mo} {t:Atm} {n:Str}
noncomputable def Three (x:Str):Prop:=x=("met":Str)∨x=("failed":Str)∨x=("hangs":Str)
end
noncomputable def ysL (S:Mo) (ts:List Atm) (how:Str):List Int:=(ts.filter fun t=>decide (t.stand S=how)).map (sy S)
noncomputable def Sinc (S:Mo) (ts:List Atm) (day M:Int):Prop:=
  (Yl (ts.map (Atm.stand S))="failed"∧∃ m∈ysL S ts "failed",(∀ a∈ysL S ts "failed",m≤a)∧M=if m<day then day else m) ∨
  (Yl (ts.map (Atm.stand S))="met"∧M∈day::ysL S ts "met"∧∀ a∈day::ysL S ts "met",a≤M)
open PySem PySem.Spec
open PySem PySem.Spec
open PySem PySem.Spec
section
variable {S:Mo} {t:Atm} {n:Str}
end
open PySem PySem.Spec
open PySem PySem.Spec
theorem Y5 (a b:Str):decide (V.str a=V.str b)=decide (a=b):=by
  by_cases c:a=b
  · rw [decide_eq_true c,decide_eq_true (by rw [c])]
  · rw [decide_eq_false c,decide_eq_false (fun z=>c (by injection z))]
theorem ZfI {α:Type} {β:Type} (ts:List α) (f:α→Bool) (g:α→β) (d:Bool) (e:β):∀ n,n≤ts.length→((fl (fun i=>(ts[i]?.map f).getD d) n).map fun i=>(ts[i]?.map g).getD e)=((ts.take n).filter f).map g:=by
  intro n
  induction n with
  | zero=>intro _; simp [fl]
  | succ n ih =>
    intro hn;have hlt:n<ts.length:=hn;rw [ZfH,map_append,ih (by omega),take_succ,getElem?_eq_getElem hlt,filter_append,map_append];congr 1;show (if f ts[n]=true then [n] else []).map _=([ts[n]].filter f).map g;cases h:f ts[n] with
    | true=>rw [filter_cons_of_pos h,if_pos rfl,map_cons,getElem?_eq_getElem hlt]; rfl
    | false=>rw [filter_cons_of_neg (by rw [h]; decide),if_neg (by decide)]; rfl
end L2
set_option Elab.async false
set_option linter.all false
set_option maxRecDepth 100000
namespace L2
open PySem PySem.Spec
noncomputable def Xt (S:Mo) (n:Str) (a:Int) (os:List Str):Bool:=(Zb3 S n os).any fun c=>decide (a≤Zdl S c)
noncomputable def clS (S:Mo) (n:Str) (a:Int) (os:List Str):Str:=if (al S.bs S.ds (nr S.bs n) || !(Z8 S n a os).isEmpty)=true then "hangs" else if Xt S n a os=true then "met" else "failed"
noncomputable def cyL (S:Mo) (n:Str) (a:Int) (os:List Str) (day:Int):List Int:=day::(yr S.ds (nr S.bs n)).getD 0::(Zb3 S n os).map fun c=>sy S (.age c a)
noncomputable def Csin (S:Mo) (n:Str) (a:Int) (os:List Str) (day M:Int):Prop:=clS S n a os≠"hangs"∧M∈cyL S n a os day∧∀ x∈cyL S n a os day,x≤M
section
variable {S:Mo} {n c:Str} {a:Int} {os:List Str}
theorem ZhF (W:Wf S.bs S.ds) (hk:has S.bs c=true):okN S c:=by
  have hp:=W.wrt c hk;refine ⟨hp,?_⟩;rw [ZaA (XU hp) hk];exact fun e=>XU hp (by rw [e]; rfl)
end
open PySem PySem.Spec
section
variable {K:Frag} {caps:List (Str×Nat)} {tl te:TE} {tt:TT} {σ:St} {H:Hp} {Q:VK} {d:Addr} {bs:List (Str×Int)}
end
open PySem PySem.Spec
theorem Zds (a b:Int):decide (V.int a=V.int b)=decide (a=b):=by
  by_cases c:a=b
  · rw [decide_eq_true c,decide_eq_true (by rw [c])]
  · rw [decide_eq_false c,decide_eq_false (fun z=>c (by injection z))]
open PySem PySem.Spec
noncomputable def MadeD (tl:Cl→List V) (H:Hp) (lm:Addr) (S:Mo) (i:Nat) (cs:List Cl) (RX:List Addr):Prop:=MadeX tl H lm S i cs RX∧(S.ds.map (·.1)).Nodup
section
variable {tl:Cl→List V} {H H':Hp} {lm:Addr} {S:Mo} {i:Nat} {cs:List Cl} {RX X:List Addr}
end
end L2
set_option Elab.async false
set_option linter.all false
set_option maxRecDepth 100000
namespace L2
open PySem PySem.Spec
inductive Ho where
  | one (n:Str)
  | kids (n:Str) (a:Int)
noncomputable def Ho.vals:Ho→List V
  | .one n=>[.str "one", .str n]
  | .kids n a=>[.str "kids", .str n, .int a]
noncomputable def Ho.ok (S:Mo):Ho→Prop
  | .one n=>okN S n
  | .kids n a=>okN S n∧0≤a∧a≤120
noncomputable def Ho.isK:Ho→Bool
  | .one _=>false
  | .kids _ _=>true
noncomputable def Ho.out (S:Mo):Ho→List Str
  | .one _=>[]
  | .kids n _=>Yv S n
noncomputable def isAg (S:Mo):Atm→Bool
  | .age n _=>al S.bs S.ds n
  | _=>false
noncomputable def agY (S:Mo):Atm→Int
  | .age n a=>Za6 S n+a
  | _=>0
noncomputable def agL (S:Mo) (ts:List Atm):List Int:=(ts.filter (isAg S)).map (agY S)
noncomputable def Zhm (S:Mo) (n:Str) (a M:Int):Prop:=
  ((al S.bs S.ds (nr S.bs n) || Xt S n a (Yv S n))=true∨Z8 S n a (Yv S n)=[]→M=S.y) ∧
  ((al S.bs S.ds (nr S.bs n) || Xt S n a (Yv S n))=false→Z8 S n a (Yv S n)≠[]→∃ b,b∈(Z8 S n a (Yv S n)).map (Za6 S)∧(∀ x∈(Z8 S n a (Yv S n)).map (Za6 S),b≤x)∧M=b+a)
noncomputable def HEnd (S:Mo):Ho→Int→Prop
  | .one _,M=>M=S.y
  | .kids n a,M=>Zhm S n a M
noncomputable def Za9 (S:Mo) (h:Ho) (ts:List Atm) (M:Int):Prop:=∃ e,HEnd S h e∧M∈S.y::e::agL S ts∧∀ x∈S.y::e::agL S ts,x≤M
theorem Zhm.uniq {S:Mo} {n:Str} {a M N:Int} (h:Zhm S n a M) (h':Zhm S n a N):M=N:=by
  by_cases c:(al S.bs S.ds (nr S.bs n) || Xt S n a (Yv S n))=true∨Z8 S n a (Yv S n)=[]
  · rw [h.1 c,h'.1 c]
  · rw [not_or] at c;obtain ⟨b,h1,h2,rfl⟩:=h.2 (Bool.eq_false_iff.mpr c.1) c.2;obtain ⟨b',h1',h2',rfl⟩:=h'.2 (Bool.eq_false_iff.mpr c.1) c.2;have:=h2 b' h1';have:=h2' b h1;omega
theorem HEnd.uniq {S:Mo} {h:Ho} {M N:Int} (e:HEnd S h M) (e':HEnd S h N):M=N:=by
  cases h with
  | one n=>have a:M=S.y:=e; have b:N=S.y:=e'; rw [a,b]
  | kids n a=>exact Zhm.uniq e e'
theorem Za9.uniq {S:Mo} {h:Ho} {ts:List Atm} {M N:Int} (a:Za9 S h ts M) (b:Za9 S h ts N):M=N:=by
  obtain ⟨e,h1,h2,h3⟩:=a;obtain ⟨e',h1',h2',h3'⟩:=b;obtain rfl:=h1.uniq h1';exact Zjl h2 h3 h2' h3'
theorem ag_of {S:Mo} {ts:List Atm}:(fl (fun i=>(ts[i]?.map (isAg S)).getD false) ts.length).map (fun i=>V.int ((ts[i]?.map (agY S)).getD 0))=(agL S ts).map V.int:=by
  have e:=ZfI ts (isAg S) (agY S) false 0 ts.length (le_refl _);rw [take_length] at e;unfold agL;rw [← e,map_map];rfl
theorem ZkA (S:Mo) (ts:List Atm):(agL S ts).length≤ts.length:=by unfold agL; rw [length_map]; exact length_filter_le _ _
section
variable {S:Mo} {ts:List Atm} {t:Atm} {i:Nat} {n:Str} {a:Int}
end
end L2
set_option Elab.async false
set_option linter.all false
set_option maxRecDepth 100000
namespace L2
open PySem PySem.Spec
structure Dated (S:Mo):Prop where
  b:∀ n y,yr S.bs n=some y→y≤S.y
  d:∀ n y,yr S.ds n=some y→y≤S.y
  c:∀ n y,yr S.cs n=some y→y≤S.y
theorem Zby {l:List (Str×Int)} {m n:Str} {y z c:Int} (h:∀ n y,yr l n=some y→y≤c) (hy:y≤c) (e:yr (l++[(m,y)]) n=some z):z≤c:=by
  rw [ZiJ] at e;cases q:yr l n with
  | some v=>rw [q] at e; cases e; exact h n _ q
  | none =>
    rw [q] at e
    by_cases c2:m=n
    · rw [if_pos c2] at e; cases e; exact hy
    · rw [if_neg c2] at e; cases e
theorem Dated.zero (y:Int):Dated (mo0 y):=⟨(fun _ _ h=>by cases h),(fun _ _ h=>by cases h),(fun _ _ h=>by cases h)⟩
theorem Dated.step {S:Mo} {far:Int} {d:Deed} (D:Dated S) (hg:S.good far d):Dated (S.step d):=by
  cases d with
  | arrive w a=>exact ⟨fun n y e=>Zby D.b (by have:=hg.2.2.1; show S.y - a≤S.y; omega) e,D.d,D.c⟩
  | birth n=>exact ⟨fun n y e=>Zby D.b (Int.le_refl _) e,D.d,D.c⟩
  | death n=>exact ⟨D.b,fun n y e=>Zby D.d (Int.le_refl _) e,D.c⟩
  | comes w=>exact ⟨D.b,D.d,fun n y e=>Zby D.c (Int.le_refl _) e⟩
  | years k=>exact ⟨fun n y e=>by have:=D.b n y e; have:=hg.1; show y≤S.y+k; omega,fun n y e=>by have:=D.d n y e; have:=hg.1; show y≤S.y+k; omega,fun n y e=>by have:=D.c n y e; have:=hg.1; show y≤S.y+k; omega⟩
noncomputable def Kept (S S':Mo) (t:Atm):Prop:=t.stand S'=t.stand S∧t.since S'=t.since S
noncomputable def Now (S S':Mo) (t:Atm):Prop:=t.stand S=("hangs":Str)∧t.stand S'≠("hangs":Str)∧S.y≤sy S' t∧sy S' t≤S'.y∧(S'.y=S.y∨S.y<sy S' t)
section
variable (S:Mo) (n:Str) (a:Int)
end
section
variable {S S':Mo} {t:Atm} {n:Str}
theorem Zfu (h:okN S n):has S.bs (nr S.bs n)=true:=by
  rcases nr_or S.bs n with e | e
  · exact absurd e h.2
  · exact e
end
end L2
set_option Elab.async false
set_option linter.all false
set_option maxRecDepth 100000
namespace L2
open PySem PySem.Spec
structure Wch where
  l:Addr
  ts:List Atm
  ps:List Addr
noncomputable def Wt (S:Mo) (day:Int) (ts:List Atm) (s:Str) (v:V):Prop:=
  (∃ t,ts=[t]∧s=t.stand S∧v=t.since S)∨(ts.length≠1∧s=Yl (ts.map (Atm.stand S))∧((s="hangs"∧v = .non)∨∃ M,v = .int M∧Sinc S ts day M))
section
variable {S S':Mo} {day:Int} {ts:List Atm} {s s':Str} {v v':V}
end
structure WatAt (H:Hp) (lw:Addr) (ws:List Wch):Prop where
  lst:H lw=some (.lst (ws.map fun w=>V.ref w.l))
  at_:∀ w∈ws,AtmsAt H w.l w.ts w.ps
  ne:∀ w∈ws,w.l≠lw
noncomputable def wrg (lw:Addr) (ws:List Wch):List Addr:=lw::ws.map (·.l)++ws.flatMap (·.ps)
section
variable {H H':Hp} {lw:Addr} {ws:List Wch} {X:List Addr}
end
noncomputable abbrev Tv:=List (Str×V)
noncomputable def tvs (tv:Tv):List (List V):=tv.map fun p=>[.str p.1,p.2]
structure WX (H:Hp) (lw lt:Addr) (day:Int) (S:Mo) (xs:List Wch×Tv) (RX:List Addr):Prop where
  ex:∃ tp,WatAt H lw xs.1∧TupsAt H lt (tvs xs.2) tp∧RX=wrg lw xs.1++(lt::tp)
  ltw:lt∉wrg lw xs.1
  ok:∀ w∈xs.1,∀ t∈w.ts,t.ok S
  sz:∀ w∈xs.1,w.ts≠[]∧w.ts.length≤4
  few:xs.1.length≤21
  tl:xs.2.length≤xs.1.length
  good:∀ (k:Nat) (s:Str) (v:V) (w:Wch),xs.2[k]? = some (s,v)→xs.1[k]? = some w→s="hangs"∨Wt S day w.ts s v
  dat:Dated S
section
variable {H H':Hp} {lw lt:Addr} {day:Int} {S:Mo} {xs:List Wch×Tv} {RX X:List Addr}
end
section
variable {H:Hp} {lt p:Addr} {vss:List (List V)} {ps:List Addr} {vs:List V} {i:Nat}
theorem TupsAt.push (T:TupsAt H lt vss ps) (hp:H p=some (.tup vs)):TupsAt (upd H lt (.lst (ps.map V.ref++[.ref p]))) lt (vss++[vs]) (ps++[p]):=by
  have np:∀ q u,H q=some (.tup u)→q≠lt:=fun q u e z=>by rw [z,T.lst] at e; cases e
  refine ⟨by rw [Zd,map_append]; rfl,by rw [length_append,length_append,T.len]; rfl,fun j q u e1 e2=>?_⟩
  by_cases c:j<ps.length
  · rw [getElem?_append_left c] at e1;rw [getElem?_append_left (by rw [← T.len]; exact c)] at e2;have z:=T.at_ j q u e1 e2;rw [Zh (np _ _ z)]; exact z
  · have h1:=(List.getElem?_eq_some_iff.mp e1).1;rw [length_append,length_singleton] at h1;obtain rfl:j=ps.length:=by omega
    rw [getElem?_append_right (le_refl _),sub_self] at e1;rw [T.len,getElem?_append_right (le_refl _),sub_self] at e2;cases e1; cases e2;rw [Zh (np _ _ hp)]; exact hp
end
open PySem PySem.Spec
section
variable {H H':Hp} {lw lt l:Addr} {day:Int} {S:Mo} {xs:List Wch×Tv} {RX:List Addr} {ts:List Atm} {ps:List Addr}
end
end L2
set_option Elab.async false
set_option linter.all false
set_option maxRecDepth 100000
namespace L2
open PySem PySem.Spec PyProof.Rows PySem.W
noncomputable def kOf (e:Int×Value):Str:=match e.2 with | .str k _=>k | _=>""
noncomputable def Ent (w:World) (e:Int×Value):Prop:=∃ t,e=(hashStr w (kOf e), .str (kOf e) t)
noncomputable def ZbR (w:World) (h:Heap) (a:Addr) (ks:List Str) (ld:Bool):Prop:=
  ∃ (es:Array (Int×Value)) (ep:Nat) (t:SetTable),h.get? a=some { cls := .type "set",data := .set es ep t }∧(∀ e∈es.toList,Ent w e)∧(es.toList.map kOf).Perm ks∧ks.Nodup ∧
    ks.length<4000∧t.fits es.size=true∧t.led=ld∧(es.size≠0→t.plain=false)
theorem Zhd (t:SetTable) (es:Array (Int×Value)) (h:Int) (x:Value):(layNew t es h x).2.1.led=t.led:=by
  unfold layNew;split
  · dsimp only;unfold SetTable.orStandIn;split <;> rfl
  · rfl
theorem Zh8 (t:SetTable) (es:Array (Int×Value)) (n:Nat) (hp:t.plain=false):(relayAll t es n).2.1.led=t.led∧(relayAll t es n).2.1.plain=false:=by
  unfold relayAll;split
  · rename_i t' o e;have e2:t'.led=t.led∧t'.plain=t.plain:=by
      unfold SetTable.relaid SetTable.laid at e;cases hc:SetTable.layClean (SetTable.sizeAbove n - 1) (es.map (·.1)) with
      | none=>rw [hc] at e; cases e
      | some ow =>
        rw [hc] at e;injection e with e1;injection e1 with e1 _;subst e1;exact ⟨rfl,rfl⟩
    dsimp only;split
    · exact ⟨e2.1,e2.2.trans hp⟩
    · exact ⟨rfl,rfl⟩
  · exact ⟨rfl,rfl⟩
theorem Zfz {prog:Program} {w:World} {x y:Str} {t:Tok}:(ZJ prog w).is (Sum.inr x) (.str y t)=true↔x=y:=by
  constructor
  · intro h;have h':Zc5 (Sum.inr x) (.str y t)=true:=h;rcases Z7 h' with ⟨_,_,e,_⟩ | ⟨z,_,e1,e2⟩
    · cases e
    · cases e1; cases e2; rfl
  · rintro rfl;exact ZeJ x t
theorem Ent.elems {prog:Program} {w:World} {l:List (Int×Value)} (h:∀ e∈l,Ent w e):ElemsOf (ZJ prog w) l:=fun e he=>by
  obtain ⟨t,q⟩:=h e he;rw [q];exact ⟨⟨Sum.inr (kOf e),Zfz.mpr rfl,rfl⟩,rfl⟩
section
variable {prog:Program} {w:World} {A:Around} {E:Value→Shared→Prop} {s:Shared}
theorem ZhM {g:Bool→Sem Unit} (hg:∀ b,g b=rule "set.scan.the-table-gave-way"∨g b=pure ()) (b:Bool) {Q:Unit→Shared→Prop} (h:Q () s):wpAny (model prog w) A (g b) Q E s:=by
  rcases hg b with e | e <;> rw [e]
  · exact wpAny_rule h
  · exact wpAny_pure h
theorem ZiZ {a:Addr} {ks:List Str} {ld:Bool} {x:Str} {tk:Tok} {Q:Bool→Shared→Prop} (hS:ZbR w s.heap a ks ld) (hroom:ks.length+1<4000)
    (h:∀ b h',Heap.SameBut a s.heap h'→ZbR w h' a (if x∈ks then ks else ks++[x]) ld→Q b { s with heap:=h' }) :
    wpAny (model prog w) A (setAddHashed a (.str x tk) (hashStr w x)) Q E s:=by
  obtain ⟨es,ep,t,ho,hel,hpm,hnd,hlen,hf,hled,hpl⟩:=hS;have hel':ElemsOf (ZJ prog w) es.toList:=Ent.elems hel;have hsz:es.size=ks.length:=by rw [← hpm.length_eq,length_map,length_toList]
  have hb:es.size<scanBound:=by have:scanBound=4096:=rfl; omega
  have hkey:(ZJ prog w).is (Sum.inr x) (.str x tk)=true:=Zfz.mpr rfl;have hmem:(∃ e∈es.toList,(ZJ prog w).is (Sum.inr x) e.2=true)↔x∈ks:=by
    rw [← hpm.mem_iff,mem_map];constructor
    · rintro ⟨e,he,q⟩;obtain ⟨t',q'⟩:=hel e he;refine ⟨e,he,?_⟩;rw [q'] at q;exact (Zfz.mp q).symm
    · rintro ⟨e,he,q0⟩;obtain ⟨t',q'⟩:=hel e he;refine ⟨e,he,?_⟩;rw [q'];exact Zfz.mpr q0.symm
  unfold setAddHashed setAddHashedIn;refine wpAny_holding (wpAny_bind (wpAny_setState_of ho rfl hf ?_));dsimp only;rw [byScan_of (knd:=ZJ prog w) rfl hb hel'];simp only [↓reduceIte];unfold setAddByScan;refine wpAny_bind (wpAny_bind (wpAny_rule (wpAny_bind (wpAny_setScan_of (knd:=ZJ prog w) (k:=Sum.inr x) hkey ho rfl hf hel' ?_))));cases hr:List.findIdx? (fun e=>(ZJ prog w).is (Sum.inr x) e.2) es.toList with
  | some j =>
    obtain ⟨hj,hpj,_⟩:=List.findIdx?_eq_some_iff_getElem.mp hr;have hx:x∈ks:=hmem.mp ⟨es.toList[j],getElem_mem hj,hpj⟩;refine wpAny_pure (wpAny_pure ?_);have z:=h false s.heap (Heap.SameBut.refl a s.heap);rw [if_pos hx] at z;exact z ⟨es,ep,t,ho,hel,hpm,hnd,hlen,hf,hled,hpl⟩
  | none =>
    have hx:x∉ks:=fun hx=>by
      obtain ⟨e,he,hp⟩:=hmem.mpr hx;have z:=List.findIdx?_eq_none_iff.mp hr e he;rw [hp] at z;cases z
    rw [if_neg hx] at h;dsimp only;have hperm:=layNew_perm t es (hashStr w x) (.str x tk);have hfits:=layNew_fits t es (hashStr w x) (.str x tk);have hl1:=Zhd t es (hashStr w x) (.str x tk);generalize hL:layNew t es (hashStr w x) (.str x tk)=L at hperm hfits hl1 ⊢;obtain ⟨es1,t1,wasDummy,gave⟩:=L;dsimp only at hperm hfits hl1 ⊢;rw [Array.toList_push] at hperm;have hel1:∀ e∈es1.toList,Ent w e:=fun e he=>by
      rcases List.mem_append.mp (hperm.mem_iff.mp he) with he | he
      · exact hel e he
      · rw [mem_singleton] at he; subst he; exact ⟨tk,rfl⟩
    have hpm1:(es1.toList.map kOf).Perm (ks++[x]):=by
      refine (hperm.map kOf).trans ?_;rw [map_append];exact hpm.append (List.Perm.refl _)
    have hnd1:(ks++[x]).Nodup:=by
      rw [nodup_append];exact ⟨hnd,by simp,fun a ha b hb e=>hx (by rw [mem_singleton] at hb; subst hb; subst e; exact ha)⟩
    have hlen1:(ks++[x]).length<4000:=by rw [length_append]; exact hroom
    have hsz1:es1.size≤sizeLine:=by
      have z:es1.size=(ks++[x]).length:=by rw [← hpm1.length_eq,length_map,length_toList]
      rw [z,sizeLine_eq]; omega
    refine wpAny_bind (ZhM (fun b=>by cases b <;> first | exact .inl rfl | exact .inr rfl) _ ?_);have fin:∀ (t2:SetTable),t2.fits es1.size=true→t2.led=ld→t2.plain=false→∀ wd:Bool,wpAny (model prog w) A (do
        storeSet a es1 t2
        if (!wd && t2.tooFull)=true then do
            (match (relayAll t2 es1 (SetTable.grown es1.size)).2.2 with | true=>rule "set.scan.the-table-gave-way" | false=>pure ():Sem Unit)
            storeSet a (relayAll t2 es1 (SetTable.grown es1.size)).1 (relayAll t2 es1 (SetTable.grown es1.size)).2.1
            pure (some true)
          else pure (some true)) (fun r s'=>r=some true∧Q true s') E s:=by
      intro t2 hf2 hl2 hp2 wd;refine wpAny_bind (wpAny_storeSet_of ho rfl ?_ hsz1);have hg:(s.heap.update a (Obj.putSet es1 t2)).get? a=some { cls := .type "set",data := .set es1 (ep+1) t2 }:=Heap.get?_update_self (Obj.putSet es1 t2) ho rfl;have hsb:=Heap.SameBut.update s.heap a (Obj.putSet es1 t2);split
      · have hp:=relayAll_perm t2 es1 (SetTable.grown es1.size);have hfr:=relayAll_fits t2 es1 (SetTable.grown es1.size);have hlp:=Zh8 t2 es1 (SetTable.grown es1.size) hp2;generalize relayAll t2 es1 (SetTable.grown es1.size)=Rl at hp hfr hlp ⊢;obtain ⟨es2,t3,gave2⟩:=Rl;dsimp only at hp hfr hlp ⊢;refine wpAny_bind (ZhM (g:=fun b=>match b with | true=>rule "set.scan.the-table-gave-way" | false=>pure ()) (fun b=>by cases b <;> first | exact .inl rfl | exact .inr rfl) gave2 ?_);have hsz2:es2.size=es1.size:=by rw [← length_toList,hp.length_eq,length_toList]
        refine wpAny_bind (wpAny_storeSet_of hg rfl ?_ (by rw [hsz2]; exact hsz1));have hg2:((s.heap.update a (Obj.putSet es1 t2)).update a (Obj.putSet es2 t3)).get? a=some { cls := .type "set",data := .set es2 (ep+1+1) t3 }:=Heap.get?_update_self (Obj.putSet es2 t3) hg rfl;exact wpAny_pure ⟨rfl,h true _ (hsb.trans (Heap.SameBut.update _ a _)) ⟨es2,_,t3,hg2,fun e he=>hel1 e (hp.mem_iff.mp he),(hp.map kOf).trans hpm1,hnd1,hlen1,hfr,hlp.1.trans hl2,fun _=>hlp.2⟩⟩
      · exact wpAny_pure ⟨rfl,h true _ hsb ⟨es1,_,t2,hg,hel1,hpm1,hnd1,hlen1,hf2,hl2,fun _=>hp2⟩⟩
    have last:∀ (t2:SetTable),t2.fits es1.size=true→t2.led=ld→t2.plain=false→wpAny (model prog w) A (do
        storeSet a es1 t2
        if (!wasDummy && t2.tooFull)=true then do
            (match (relayAll t2 es1 (SetTable.grown es1.size)).2.2 with | true=>rule "set.scan.the-table-gave-way" | false=>pure ():Sem Unit)
            storeSet a (relayAll t2 es1 (SetTable.grown es1.size)).1 (relayAll t2 es1 (SetTable.grown es1.size)).2.1
            pure (some true)
          else pure (some true)) (fun r s'=>wpAny (model prog w) A (match r with | some added=>pure added | none=>setAddHashedIn a (.str x tk) (hashStr w x) 99999) Q E s') E s:=fun t2 h1 h2 h3 =>
      wpAny_mono (fin t2 h1 h2 h3 wasDummy) (fun r s' q=>by obtain ⟨rfl,q⟩:=q; exact wpAny_pure q) fun _ _ e=>e
    cases hp1:t1.plain with
    | true =>
      simp only [if_true];refine wpAny_bind ?_;rw [hashByValue_scannable 8 (x := .str x tk) rfl];refine wpAny_pure ?_;simp only [plainKind,false_eq_true,if_false];exact last _ (SetTable.fits_plain_off hfits) (hl1.trans hled) rfl
    | false =>
      simp only [false_eq_true,if_false];refine wpAny_bind (wpAny_pure ?_);simp only [if_true];exact last _ hfits (hl1.trans hled) hp1
end
noncomputable def dd (ks:List Str) (x:Str):List Str:=if x∈ks then ks else ks++[x]
noncomputable def ddl (ns:List Str):List Str:=ns.foldl dd []
theorem ZjQ (ns:List Str) (x:Str):ddl (ns++[x])=dd (ddl ns) x:=by unfold ddl; rw [List.foldl_append]; rfl
theorem Zdv (ns:List Str):(ddl ns).length≤ns.length:=by
  suffices h:∀ (ns acc:List Str),(ns.foldl dd acc).length≤acc.length+ns.length by
    have:=h ns [];simpa [ddl] using this
  intro ns
  induction ns with
  | nil=>intro acc; exact le_refl _
  | cons x r ih =>
    intro acc;have:=ih (dd acc x);have h2:(dd acc x).length≤acc.length+1:=by unfold dd; split <;> simp
    rw [foldl_cons,length_cons];omega
theorem ZfJ (ns:List Str) (y:Str):y∈ddl ns↔y∈ns:=by
  suffices h:∀ (ns acc:List Str),y∈ns.foldl dd acc↔y∈acc∨y∈ns by
    have:=h ns [];simpa [ddl] using this
  intro ns
  induction ns with
  | nil=>intro acc; simp
  | cons x r ih =>
    intro acc;rw [foldl_cons,ih];unfold dd;split
    · rename_i hx;constructor
      · rintro (h | h)
        · exact .inl h
        · exact .inr (mem_cons_of_mem _ h)
      · rintro (h | h)
        · exact .inl h
        · rcases List.mem_cons.mp h with rfl | h
          · exact .inl hx
          · exact .inr h
    · simp [or_assoc]
theorem ZcX (ns:List Str):(ddl ns).Nodup:=by
  suffices h:∀ (ns acc:List Str),acc.Nodup→(ns.foldl dd acc).Nodup from h ns [] List.nodup_nil
  intro ns
  induction ns with
  | nil=>intro acc h; exact h
  | cons x r ih =>
    intro acc h;refine ih _ ?_;unfold dd;split
    · exact h
    · rename_i hx;rw [nodup_append];exact ⟨h,by simp,fun a ha b hb e=>hx (by rw [mem_singleton] at hb; subst hb; subst e; exact ha)⟩
theorem ZbR.at {w:World} {h h':Heap} {a:Addr} {ks:List Str} {ld:Bool} (q:ZbR w h a ks ld) (k:∀ o,h.get? a=some o→h'.get? a=some o):ZbR w h' a ks ld:=by
  obtain ⟨es,ep,t,ho,r⟩:=q;exact ⟨es,ep,t,k _ ho,r⟩
section
variable {prog:Program} {w:World} {A:Around} {R:Result→Shared→Prop} {I:Addr} {fp wr:List Addr} {G:Array GenState→Array GenState→Prop} {n:Nat} {P:Nat→Value→Prop} {St:Nat→Shared→Prop}
theorem Zh3 (W:WalksS prog w A.in1 I fp wr G n P St) (S:Addr) (hSf:S∉fp) (ld:Bool) (val:Nat→Str) (hval:∀ i v,P i v→∃ t,v = .str (val i) t) (hb:n<3000) :
    ∀ (k i:Nat) (s:Shared),n - i=k→i≤n→St i s→ZbR w s.heap S (ddl ((List.range i).map val)) ld →
      (∀ s',Moved (S::wr) G s s'→ZbR w s'.heap S (ddl ((List.range n).map val)) ld→R (.ok (.ret .none)) s') →
      codeAny (model prog w) A (.builtin "set.update.loop" ⟨[.ref S, .ref I],[]⟩) R s:=by
  have hSw:S∉wr:=fun h=>hSf (W.sub _ h);have hsub:∀ b∈wr,b∈S::wr:=fun b hb=>mem_cons_of_mem _ hb;intro k
  induction k with
  | zero =>
    intro i s hk hi hst hS hR;have hin:i=n:=by omega
    subst hin;refine codeAny_builtin F.entry_set_update_loop ?_;rw [Around.under_plainId F.plain_set_update_loop _];show wpAny _ A.in1 (pyNext (.ref I) >>= _) _ _ s;refine wpAny_bind (W.done s _ _ hst fun s' hm=>?_);show wpAny _ A.in1 (ret Value.none) _ _ s';exact wpAny_pure (hR s' (hm.mono hsub) (hS.at fun o e=>hm.heap S _ hSw e))
  | succ k ih =>
    intro i s hk hi hst hS hR;have hlt:i<n:=by omega
    refine codeAny_builtin F.entry_set_update_loop ?_;rw [Around.under_plainId F.plain_set_update_loop _];show wpAny _ A.in1 (pyNext (.ref I) >>= _) _ _ s;refine wpAny_bind (W.item i s _ _ hlt hst fun v s' hP hst' hm=>?_);obtain ⟨t,rfl⟩:=hval i v hP;have hS':ZbR w s'.heap S (ddl ((List.range i).map val)) ld:=hS.at fun o e=>hm.heap S _ hSw e;have hl:=Zdv ((List.range i).map val);rw [length_map,length_range] at hl;show wpAny _ A.in1 (holding [Value.str (val i) t] (setAdd S (.str (val i) t)) >>= _) _ _ s';refine wpAny_bind (wpAny_holding ?_);unfold setAdd;refine wpAny_holding (wpAny_bind (wpAny_pyHash_str ?_));refine ZiZ (s:={ s' with toks:=s'.toks+1 }) hS' (by omega) fun b h' hsb hS2=>?_;have hSi:ZbR w h' S (ddl ((List.range (i+1)).map val)) ld:=by
      rw [List.range_succ,map_append,List.map_singleton,ZjQ];exact hS2
    refine wpAny_pure ⟨plainId_quiet F.plain_set_update_loop _,ih (i+1) _ (by omega) hlt (W.frame _ s' _ _ hst' (le_succ _) fun b hb o e=>?_) hSi fun s'' hm'' hS''=>?_⟩
    · rw [hsb.2 b (fun h:b=S=>hSf (by rw [← h]; exact hb))]; exact e
    · refine hR s'' (Moved.trans W.gtrans ((hm.mono hsub).then_heap (le_succ _) fun b o hb e=>?_) hm'') hS'';rw [hsb.2 b (fun h:b=S=>hb (by rw [h]; exact mem_cons_self))]; exact e
end
noncomputable def byT (w:World):Bool:=w.params.followText "set-order"
section
variable {prog:Program} {w:World} {A:Around} {E:Value→Shared→Prop} {s:Shared}
theorem ZeA (a:Value) {Q₁:Value→Shared→Prop}
    (h:Q₁ (.ref s.heap.objs.size) { s with heap:=s.heap.push { cls := .type "set",dict:=none,data := .set #[] 0 (.fresh 0 0 (!byT w)) } }) :
    codeAny (model prog w) A (.call (.builtin "set.__new__") ⟨[.type "set",a],[]⟩) (wants Q₁ E) s:=by
  refine codeAny_of_tree ?_;show wpAny _ A.in1 (do checkBuiltinCall "set.__new__" ⟨[.type "set",a],[]⟩; again (.builtin "set.__new__" ⟨[.type "set",a],[]⟩)) _ _ s;refine wpAny_bind (wpAny_of_eq (F.newCall_set_1 a) (wpAny_pure ⟨plainId_quiet F.plain_set_new _,codeAny_builtin F.entry_set_new ?_⟩));rw [Around.under_plainId F.plain_set_new _];unfold Builtin.«set.__new__» Builtin.Frozenset.newClass;have hsub:=sub_set_self;obtain ⟨hp,g,d,tk,os⟩:=s;dsimp only
  wp_walk
  refine wpAny_askSetting (wpAny_pure ?_);dsimp only;simp only [newObj];refine wpAny_bind (wpAny_alloc (wpAny_pure ?_));exact wpAny_pure h
set_option maxHeartbeats 3200000 in
theorem ZiD {l:Addr} {items:Array Value} {ns:List Str} {Q:Value→Shared→Prop}
    (hh:A.handled=none) (hl:s.heap.IsList l items) (hi:∀ (i:Nat) (v:Value),items[i]? = some v→∃ t,v = .str (ns.getD i "") t) (hn:items.size=ns.length) (hb:ns.length<3000)
    (h:∀ (h':Heap) (tk:Nat),ZbR w h' s.heap.objs.size (ddl ns) (!byT w) →
      (∀ b o,b<s.heap.objs.size→s.heap.get? b=some o→h'.get? b=some o)→Q (.ref s.heap.objs.size) { s with heap:=h',toks:=tk }) :
    wpAny (model prog w) A (call (.type "set") [.ref l]) Q E s:=by
  have hns:(List.range items.size).map (fun i=>ns.getD i "")=ns:=by
    rw [hn];refine List.ext_getElem (by rw [length_map,length_range]) fun i h1 h2=>?_;rw [List.getElem_map,List.getElem_range,List.getD_eq_getElem?_getD,getElem?_eq_getElem h2];rfl
  obtain ⟨c,tl,hmro⟩:=F.called_set.mro;have hmade:=F.called_set.made;have hsub:=F.called_set.sub;refine wpAny_call (codeAny_of_tree ?_);show wpAny _ _ (callAny (.type "set") _) _ _ _;refine wpAny_pure ⟨Code.quiet_builtin _ (by decide +kernel),codeAny_builtin F.entry_type_call ?_⟩;rw [Around.under_plain (weight_type_call_type "set" [.ref l] []) rfl];have h1:=F.called_set.notType;have h2:=F.called_set.canCreate;have hct:=F.typeCall_set_1 (.ref l)
  repeat (any_goals (first | assumption | wp_step))
  refine codeAny_mono (ZeA (.ref l) (E:=E) (Q₁:=fun obj s₁=>obj = .ref s.heap.objs.size∧s₁ = { s with heap:=s.heap.push { cls := .type "set",dict:=none,data := .set #[] 0 (.fresh 0 0 (!byT w)) } }) ⟨rfl,rfl⟩) fun r s₁ hr=>?_;cases r with
  | error e=>exact hr
  | ok fl =>
    cases fl with
    | ret obj =>
      obtain ⟨rfl,rfl⟩:=hr;have hS:(s.heap.push { cls := .type "set",dict:=none,data := .set #[] 0 (.fresh 0 0 (!byT w)) }).get? s.heap.objs.size=some { cls := .type "set",dict:=none,data := .set #[] 0 (.fresh 0 0 (!byT w)) }:=Heap.get?_push_size _ rfl;have hT:Shared.TypeIs { s with heap:=s.heap.push { cls := .type "set",dict:=none,data := .set #[] 0 (.fresh 0 0 (!byT w)) } } (.ref s.heap.objs.size) "set":=⟨_,hS,rfl⟩;have hli:=F.called_set.init.lookup;have hbi:=F.called_set.init.bind (.ref s.heap.objs.size)
      repeat (any_goals (first | assumption | wp_step))
      refine codeAny_mono (codeAny_call_builtin (R:=wants (fun r s₂=>r = .none∧∃ h' tk,s₂ = { s with heap:=h',toks:=tk }∧ZbR w h' s.heap.objs.size (ddl ns) (!byT w) ∧
          (∀ b o,b<s.heap.objs.size→s.heap.get? b=some o→h'.get? b=some o)) E) F.called_set.init.plain F.entry_set_init (check_set_init_1 hT ?_)) fun r₂ s₂ hr₂=>?_
      · obtain ⟨ol,hol,hcl,nl,hdl⟩:=hl;obtain ⟨ocls,odict,odata,oslots⟩:=ol;simp only at hcl hdl;subst hcl; subst hdl;have hol':(s.heap.push { cls := .type "set",dict:=none,data := .set #[] 0 (.fresh 0 0 (!byT w)) }).get? l=some { cls := .type "list",dict:=odict,data := .seq items nl,slots:=oslots }:=Heap.get?_push_of_some _ hol;have hsls:=F.sub_list_set;have hslf:=F.sub_list_frozenset;have hne:(Value.type "list" == Value.type "dict")=false:=by decide
        have hl1:(s.heap.push { cls := .type "set",dict:=none,data := .set #[] 0 (.fresh 0 0 (!byT w)) }).IsList l items:=⟨_,hol',rfl,nl,rfl⟩;unfold Builtin.«set.__init__» noKeywords Builtin.Frozenset.updateFrom;generalize hPI:pyIter=PI
        wp_walk
        subst hPI;refine wpAny_pyIter_list hl1 ?_;refine wpAny_bind (wpAny_runValue ?_);have hlS:l<s.heap.objs.size:=Heap.lt_size hol;have hh3:A.in1.in1.in1.handled=none:=by simp [hh]
        have hneI:l≠(s.heap.push { cls := .type "set",dict:=none,data := .set #[] 0 (.fresh 0 0 (!byT w)) }).objs.size:=by
          rw [Heap.size_push]; exact ne_of_lt (lt_succ_of_lt hlS)
        have hSf:s.heap.objs.size∉[(s.heap.push { cls := .type "set",dict:=none,data := .set #[] 0 (.fresh 0 0 (!byT w)) }).objs.size,l]:=by
          rw [Heap.size_push]; simp only [mem_cons,mem_singleton,not_mem_nil,or_false,not_or];exact ⟨ne_of_lt (lt_succ_self _),Nat.ne_of_gt hlS⟩
        refine Zh3 ((Walks.list hh3 _ l hneI items).toS) s.heap.objs.size hSf (!byT w) (fun i=>ns.getD i "") hi (by omega) (items.size - 0) 0 _ (by omega) (zero_le _)
          ⟨⟨_,Heap.get?_push_size _ rfl,rfl,rfl⟩,(hl1.push _)⟩ ?hS0 ?hR
        case hS0 =>
          have hget:((s.heap.push { cls := .type "set",dict:=none,data := .set #[] 0 (.fresh 0 0 (!byT w)) }).push { cls := .type "list_iterator",data := .fields #[.ref l, .int 0 0] }).get? s.heap.objs.size
              = some { cls := .type "set",dict:=none,data := .set #[] 0 (.fresh 0 0 (!byT w)) }:=Heap.get?_push_of_some _ hS
          exact ⟨#[],0,_,hget,fun e he=>(nomatch he),List.Perm.refl _,List.nodup_nil,(show (0:Nat)<4000 by decide),by rfl,rfl,fun z=>absurd rfl z⟩
        case hR =>
          intro s' hm hS';rw [hns] at hS';obtain ⟨h',g',d',tk',os'⟩:=s';have eg:g'=s.gens:=hm.gens;have ed:d'=s.drawn:=hm.drawn;have eo:os'=s.os:=hm.os;subst eg; subst ed; subst eo;show wpAny _ _ _ _ _ _;refine wpAny_pure ?_;show wpAny _ _ (ret Value.none) _ _ _;refine wpAny_pure ⟨rfl,h',tk',rfl,hS',fun b o hb e=>?_⟩;have hb1:b≠s.heap.objs.size:=ne_of_lt hb;have hb2:b≠(s.heap.push { cls := .type "set",dict:=none,data := .set #[] 0 (.fresh 0 0 (!byT w)) }).objs.size:=by
            rw [Heap.size_push]; exact ne_of_lt (lt_succ_of_lt hb)
          exact hm.heap b o (by simp only [mem_cons,mem_singleton,not_mem_nil,or_false,not_or]; exact ⟨hb1,hb2⟩) (Heap.get?_push_of_some _ (Heap.get?_push_of_some _ e))
      · cases r₂ with
        | error e=>exact hr₂
        | ok fl₂ =>
          cases fl₂ with
          | ret r =>
            obtain ⟨rfl,h',tk,rfl,hS',hk'⟩:=hr₂
            repeat (any_goals (first | assumption | wp_step))
            exact h _ _ hS' hk'
          | _=>exact hr₂.elim
    | _=>exact hr.elim
end
end L2
set_option Elab.async false
set_option linter.all false
set_option maxRecDepth 100000
namespace L2
open PySem PySem.Spec PyProof.Rows PySem.W
theorem JQ:Slot "set_iterator" "__next__" "set_iterator.__next__":=
  .of (owner:="set_iterator") (n:="__next__") (by rw [typeLookup_type,builtinLookup_eq_fast]; kernel_rfl) (by decide +kernel) (by decide +kernel) (by decide +kernel)
    (by first | exact .inl (by decide +kernel) | exact .inr (by decide +kernel)) (by rw [isSubtype_type]; kernel_rfl)
theorem Zex:entryFor table "set_iterator.__next__"=some Builtin.«set_iterator.__next__»:=entryFor_of_tree (by kernel_rfl)
theorem Zge:Manifest.owners.lookup (String.ofList ['r','o','t','a','r','e','t','i','_','t','e','s'].reverse)=some Manifest.sig_set_iterator:=by kernel_rfl
theorem ZfO (a:Value):argsOk "set_iterator.__next__" ⟨[a],[]⟩:=by
  unfold argsOk; rw [signature?_of (id:="set_iterator.__next__") (n:=['_','_','t','x','e','n','_','_']) (o:=['r','o','t','a','r','e','t','i','_','t','e','s']) (by kernel_rfl) Zge]; kernel_rfl
theorem Zeo:entryFor table "set.__iter__"=some Builtin.«frozenset.__iter__»:=
  entryFor_alias (id':="frozenset.__iter__") (by kernel_rfl) rfl (by decide +kernel) (by kernel_rfl)
noncomputable def ItO (S:Addr) (first:Value) (i n ep:Nat):Obj:={ cls := .type "set_iterator",data := .fields #[first, .int i 0, .ref S, .int n 0, .int ep 0] }
noncomputable def Za7 (es:Array (Int×Value)) (ep:Nat) (t:SetTable):Obj:={ cls := .type "set",data := .set es ep t }
section
variable {prog:Program} {w:World} {A:Around} {E:Value→Shared→Prop} {s:Shared} {I S Tp:Addr} {i ep:Nat} {es:Array (Int×Value)} {t:SetTable} {Q:Option Value→Shared→Prop}
theorem Zdn (hI:∃ f,s.heap.get? I=some (ItO S f i es.size ep)) (h:wpAny (model prog w) A.in1 (Builtin.«set_iterator.__next__» ⟨[.ref I],[]⟩) (fun fin s'=>∃ v,fin = .done (.ret v)∧Q (some v) s')
      (fun e s'=>wpAny (model prog w) A (do if ← isInstance e (.type "StopIteration") then pure none else throw e) Q E s') s):wpAny (model prog w) A (pyNext (.ref I)) Q E s:=by
  obtain ⟨f,hI⟩:=hI;have hT:s.TypeIs (.ref I) "set_iterator":=⟨_,hI,rfl⟩;unfold pyNext;refine wpAny_bind (wpAny_attempt (wpAny_callSpecial?_slot (name:=Str.ofString "__next__") hT JQ (wpAny_call_entry JQ hT Zex (wpAny_mono h (fun fin s' q=>?_) fun e s' q=>q) (ZfO _))));obtain ⟨v,e,q⟩:=q;exact ⟨v,e,wpAny_pure q⟩
theorem Zf0 {slot nx:Nat} {x:Value} (hI:s.heap.get? I=some (ItO S (.int slot 0) i es.size ep)) (hS:s.heap.get? S=some (Za7 es ep t)) (hf:t.fits es.size=true)
    (hN:∀ (E:Value→Shared→Prop) (Q:Option (Value×Nat)→Shared→Prop),Q (some (x,nx)) s→wpAny (model prog w) A.in1 (setNext S slot i ep) Q E s)
    (hQ:∀ h',h'.get? I=some (ItO S (.int nx 0) (i+1) es.size ep)→(∀ b o,b≠I→s.heap.get? b=some o→h'.get? b=some o)→Q (some x) { s with heap:=h' }) :
    wpAny (model prog w) A (pyNext (.ref I)) Q E s:=by
  refine Zdn ⟨_,hI⟩ ?_;unfold Builtin.«set_iterator.__next__»;refine wpAny_bind (wpAny_pure ?_);refine wpAny_bind (wpAny_fieldsOf hI rfl ?_);refine wpAny_bind (wpAny_setEntries_of hS rfl hf ?_);rw [if_neg (by simp)];show wpAny _ _ (setNext S ((slot:Int)).toNat ((i:Int)).toNat ((ep:Int)).toNat >>= _) _ _ _;rw [toNat_natCast,toNat_natCast,toNat_natCast];refine wpAny_bind (hN _ _ ?_);refine wpAny_bind (wpAny_setField hI rfl (by simp) ?_);have h1:(s.heap.update I (Obj.mapFields (·.setIfInBounds 0 (rawInt nx)))).get? I=some (ItO S (.int nx 0) i es.size ep):=Heap.get?_update_self _ hI rfl;refine wpAny_bind (wpAny_setField h1 rfl (by simp) ?_);have h2:((s.heap.update I (Obj.mapFields (·.setIfInBounds 0 (rawInt nx)))).update I (Obj.mapFields (·.setIfInBounds 1 (rawInt ((i:Int)+1))))).get? I=some (ItO S (.int nx 0) (i+1) es.size ep):=Heap.get?_update_self _ h1 rfl;exact wpAny_pure ⟨_,rfl,hQ _ h2 fun b o hb e=>(Heap.get?_update_other _ _ (Ne.symm hb)).trans ((Heap.get?_update_other _ _ (Ne.symm hb)).trans e)⟩
theorem Zf2 {slot:Nat} (hh:A.handled=none) (hI:s.heap.get? I=some (ItO S (.int slot 0) i es.size ep)) (hS:s.heap.get? S=some (Za7 es ep t)) (hf:t.fits es.size=true)
    (hN:∀ (E:Value→Shared→Prop) (Q:Option (Value×Nat)→Shared→Prop),Q none s→wpAny (model prog w) A.in1 (setNext S slot i ep) Q E s)
    (hQ:∀ h',(∀ b o,b≠I→s.heap.get? b=some o→h'.get? b=some o)→Q none { s with heap:=h' }) :
    wpAny (model prog w) A (pyNext (.ref I)) Q E s:=by
  refine Zdn ⟨_,hI⟩ ?_;unfold Builtin.«set_iterator.__next__»;refine wpAny_bind (wpAny_pure ?_);refine wpAny_bind (wpAny_fieldsOf hI rfl ?_);refine wpAny_bind (wpAny_setEntries_of hS rfl hf ?_);rw [if_neg (by simp)];show wpAny _ _ (setNext S ((slot:Int)).toNat ((i:Int)).toNat ((ep:Int)).toNat >>= _) _ _ _;rw [toNat_natCast,toNat_natCast,toNat_natCast];refine wpAny_bind (hN _ _ ?_);refine wpAny_bind (wpAny_setField hI rfl (by simp) ?_);show wpAny _ _ (newExc (.type "StopIteration") [] >>= _) _ _ _;refine wpAny_bind ?_;simp only [newExc,newTuple];refine wpAny_bind (wpAny_newObj_type ?_ (by size_fits));refine wpAny_bind (m:=firstArgMember _ _) (wpAny_of_eq (a:=Value.none) (by first | rfl | (simp only [firstArgMember]; rfl)) ?_);refine wpAny_newObj_type ?_ (by size_fits);simp only [raiseNew];refine wpAny_bind (wpAny_handled ?_);rw [show A.in1.handled=none from hh];refine wpAny_bind (wpAny_pure (wpAny_throw ?_));refine wpAny_bind (wpAny_isInstance (T:="StopIteration") (b:=true) ⟨_,Heap.get?_push_size _ rfl,rfl⟩ isSubtype_stop ?_);refine wpAny_pure (hQ _ fun b o hb e=>?_);exact Heap.get?_push_of_some _ (Heap.get?_push_of_some _ ((Heap.get?_update_other _ _ (Ne.symm hb)).trans e))
theorem ZfZ {places:Array Value} {pl:Nat} {e0:Int×Value} {ot:Obj} {nt:Nat} (hI:s.heap.get? I=some (ItO S (.ref Tp) i es.size ep)) (hS:s.heap.get? S=some (Za7 es ep t)) (hf:t.fits es.size=true)
    (hT:s.heap.get? Tp=some ot) (hTd:ot.data = .seq places nt) (hp:places[i]? = some (.int pl 0)) (he:es[pl]? = some e0)
    (hQ:∀ h',h'.get? I=some (ItO S (.ref Tp) (i+1) es.size ep)→(∀ b o,b≠I→s.heap.get? b=some o→h'.get? b=some o)→Q (some e0.2) { s with heap:=h' }) :
    wpAny (model prog w) A (pyNext (.ref I)) Q E s:=by
  refine Zdn ⟨_,hI⟩ ?_;unfold Builtin.«set_iterator.__next__»;refine wpAny_bind (wpAny_pure ?_);refine wpAny_bind (wpAny_fieldsOf hI rfl ?_);refine wpAny_bind (wpAny_setEntries_of hS rfl hf ?_);rw [if_neg (by simp)];show wpAny _ _ (seqItems? (.ref Tp) >>= _) _ _ _;refine wpAny_bind (wpAny_seqItems hT hTd ?_);dsimp only;rw [toNat_natCast,hp];dsimp only;refine wpAny_bind ?_;unfold setNextDrawn;refine wpAny_bind (wpAny_setState_of hS rfl hf ?_);dsimp only;rw [toNat_natCast,if_neg (by simp),toNat_natCast,he];refine wpAny_bind (wpAny_pure ?_);refine wpAny_pure ?_;refine wpAny_bind (wpAny_setField hI rfl (by simp) ?_);have h2:(s.heap.update I (Obj.mapFields (·.setIfInBounds 1 (rawInt ((i:Int)+1))))).get? I=some (ItO S (.ref Tp) (i+1) es.size ep):=Heap.get?_update_self _ hI rfl;exact wpAny_pure ⟨_,rfl,hQ _ h2 fun b o hb e=>(Heap.get?_update_other _ _ (Ne.symm hb)).trans e⟩
theorem Zf1 {places:Array Value} {ot:Obj} {nt:Nat} (hh:A.handled=none) (hI:s.heap.get? I=some (ItO S (.ref Tp) i es.size ep)) (hS:s.heap.get? S=some (Za7 es ep t)) (hf:t.fits es.size=true)
    (hT:s.heap.get? Tp=some ot) (hTd:ot.data = .seq places nt) (hp:places[i]? = none)
    (hQ:∀ h',(∀ b o,b≠I→s.heap.get? b=some o→h'.get? b=some o)→Q none { s with heap:=h' }) :
    wpAny (model prog w) A (pyNext (.ref I)) Q E s:=by
  refine Zdn ⟨_,hI⟩ ?_;unfold Builtin.«set_iterator.__next__»;refine wpAny_bind (wpAny_pure ?_);refine wpAny_bind (wpAny_fieldsOf hI rfl ?_);refine wpAny_bind (wpAny_setEntries_of hS rfl hf ?_);rw [if_neg (by simp)];show wpAny _ _ (seqItems? (.ref Tp) >>= _) _ _ _;refine wpAny_bind (wpAny_seqItems hT hTd ?_);dsimp only;rw [toNat_natCast,hp];dsimp only;refine wpAny_bind (wpAny_setField hI rfl (by simp) ?_);have h1:(s.heap.update I (Obj.mapFields (·.setIfInBounds 0 (rawInt 0)))).get? I=some (ItO S (.int 0 0) i es.size ep):=Heap.get?_update_self _ hI rfl;refine wpAny_bind (wpAny_setField h1 rfl (by simp) ?_);show wpAny _ _ (newExc (.type "StopIteration") [] >>= _) _ _ _;refine wpAny_bind ?_;simp only [newExc,newTuple];refine wpAny_bind (wpAny_newObj_type ?_ (by size_fits));refine wpAny_bind (m:=firstArgMember _ _) (wpAny_of_eq (a:=Value.none) (by first | rfl | (simp only [firstArgMember]; rfl)) ?_);refine wpAny_newObj_type ?_ (by size_fits);simp only [raiseNew];refine wpAny_bind (wpAny_handled ?_);rw [show A.in1.handled=none from hh];refine wpAny_bind (wpAny_pure (wpAny_throw ?_));refine wpAny_bind (wpAny_isInstance (T:="StopIteration") (b:=true) ⟨_,Heap.get?_push_size _ rfl,rfl⟩ isSubtype_stop ?_);refine wpAny_pure (hQ _ fun b o hb e=>?_);exact Heap.get?_push_of_some _ (Heap.get?_push_of_some _ ((Heap.get?_update_other _ _ (Ne.symm hb)).trans ((Heap.get?_update_other _ _ (Ne.symm hb)).trans e)))
end
end L2
set_option Elab.async false
set_option linter.all false
set_option maxRecDepth 100000
namespace L2
open PySem PySem.Spec PyProof.Rows PySem.W
theorem Zb6 {α:Type}:∀ (xs:List α) (i:Nat) (hi:i<xs.length),(xs[i]::xs.eraseIdx i).Perm xs
  | x::r,0,_=>List.Perm.refl _
  | x::r,i+1,hi=>by
    have z:=Zb6 r i (by simpa using hi);exact (List.Perm.swap x _ _).trans (List.Perm.cons x z)
section
variable {prog:Program} {w:World} {A:Around} {E:Value→Shared→Prop} {s:Shared}
theorem ZiC {src:Source} {n:Nat} {Q:Nat→Shared→Prop} (hn:n≠0) (h:∀ i d',i<n→Q i { s with drawn:=d' }):wpAny (model prog w) A (choose src n) Q E s:=by
  intro Γ p hΓ;unfold choose;rw [Sem.wp_choose];refine ⟨hn,?_⟩;rw [Sem.wp_pure];exact h _ _ (Nat.mod_lt _ (Nat.pos_of_ne_zero hn))
theorem ZhP {α:Type}:∀ (n:Nat) (xs:List α) (s:Shared) (Q:List α→Shared→Prop),n=xs.length→(∀ ys d',ys.Perm xs→Q ys { s with drawn:=d' })→wpAny (model prog w) A (drawOrder n xs) Q E s
  | 0,xs,s,Q,e,h=>by
    have e2:xs=[]:=List.length_eq_zero_iff.mp e.symm;subst e2;exact wpAny_pure (h [] s.drawn (List.Perm.refl _))
  | n+1,[],s,Q,e,h=>by cases e
  | n+1,x::r,s,Q,e,h=>by
    unfold drawOrder;refine wpAny_bind (ZiC (by simp) fun i d' hi=>?_);rw [getElem?_eq_getElem hi];dsimp only;refine wpAny_bind (ZhP n ((x::r).eraseIdx i) _ _ ?_ fun ys d2 hp=>?_)
    · rw [List.length_eraseIdx_of_lt hi]; simp at e ⊢; omega
    · refine wpAny_pure (h _ d2 ?_);exact (List.Perm.cons _ hp).trans (Zb6 _ i hi)
variable {S:Addr} {ep:Nat} {es:Array (Int×Value)} {t:SetTable} {Q:Value→Shared→Prop}
noncomputable def TpO (ord:List Nat):Obj:={ cls := .type "tuple",data := .seq (ord.map fun (i:Nat)=>Value.int (i:Int) 0).toArray }
theorem Zj7 (hS:s.heap.get? S=some (Za7 es ep t)) (hf:t.fits es.size=true) (hz:es.size≤sizeLine)
    (h1:byT w=false→t.plain=false→1<es.size→∀ (ord:List Nat) d',ord.Perm (List.range es.size)→Q (.ref (s.heap.objs.size+1)) { s with heap:=(s.heap.push (TpO ord)).push (ItO S (.ref s.heap.objs.size) 0 es.size ep),drawn:=d' })
    (h2:(byT w=true∨t.plain=true∨es.size≤1)→Q (.ref s.heap.objs.size) { s with heap:=s.heap.push (ItO S (.int 0 0) 0 es.size ep) }) :
    wpAny (model prog w) A (pyIter (.ref S)) Q E s:=by
  have hT:s.TypeIs (.ref S) "set":=⟨_,hS,rfl⟩;refine wpAny_pyIter_slot hT F.slot_set_iter (wpAny_call_entry F.slot_set_iter hT Zeo ?_ (F.args_set_iter_1 _));unfold Builtin.«frozenset.__iter__»;refine wpAny_bind (wpAny_pure ?_);refine wpAny_bind ?_;unfold Builtin.Frozenset.sizeOf;refine wpAny_bind (wpAny_setEntries_of hS rfl hf (wpAny_pure ?_));refine wpAny_bind ?_;unfold setDrawn setsByText;refine wpAny_bind (wpAny_setState_of hS rfl hf ?_);refine wpAny_bind (wpAny_bind (wpAny_askSetting (wpAny_pure ?_)));refine wpAny_pure ?_;have fin:∀ (s':Shared) (first:Value),s'.heap.get? S=some (Za7 es ep t)→Q (.ref s'.heap.objs.size) { s' with heap:=s'.heap.push (ItO S first 0 es.size ep) }→wpAny (model prog w) A.in1 (do
      let e ← setEpoch S
      let r ← newFields "set_iterator" [first,rawInt 0,Value.ref S,rawInt es.size,rawInt e]
      ret r) (fun fin s'=>∃ v,fin=Fin.done (Flow.ret v)∧∃ T' r,s'.TypeIs v T'∧typeLookup (Value.type T') (Str.ofString "__next__")=pure (some r)∧Q v s') E s':=by
    intro s' first e q
    refine wpAny_bind (wpAny_setEpoch_of e rfl hf ?_);exact wpAny_bind (wpAny_newObj_type (wpAny_pure ⟨_,rfl,"set_iterator",_,⟨_,Heap.get?_push_size _ rfl,rfl⟩,JQ.lookup,q⟩) (by size_fits))
  by_cases c:byT w=false∧t.plain=false∧1<es.size
  · obtain ⟨c1,c2,c3⟩:=c;refine wpAny_ite_split (fun _=>?_) (fun hn=>?_)
    · refine wpAny_bind (ZhP _ _ _ _ (by rw [length_range]) fun ord d' hp=>?_);have hl:ord.length=es.size:=by rw [hp.length_eq,length_range]
      unfold newTuple;refine wpAny_bind (wpAny_newObj_type ?_ (by show _≤sizeLine; simp [hl]; exact hz));refine fin _ _ (Heap.get?_push_of_some _ hS) ?_;rw [Heap.size_push];exact h1 c1 c2 c3 ord d' hp
    · exfalso;refine hn ?_;show (!byT w && (!t.plain && decide (1<es.size)))=true;rw [c1,c2,decide_eq_true c3];rfl
  · refine wpAny_ite_split (fun hy=>?_) (fun _=>?_)
    · exfalso;have hy':(!byT w && (!t.plain && decide (1<es.size)))=true:=hy;simp only [and_eq_true,Bool.not_eq_true',decide_eq_true_eq] at hy';exact c ⟨hy'.1,hy'.2.1,hy'.2.2⟩
    · refine wpAny_bind (wpAny_pure ?_);refine fin _ _ hS (h2 ?_);cases hb:byT w with
      | true=>exact .inl rfl
      | false =>
        cases hp:t.plain with
        | true=>exact .inr (.inl rfl)
        | false=>exact .inr (.inr (by rw [hb,hp] at c; simp at c; omega))
end
end L2
set_option Elab.async false
set_option linter.all false
set_option maxRecDepth 100000
namespace L2
open PySem PySem.Spec PyProof.Rows PySem.W
theorem Zcd:Slot "set_iterator" "__iter__" "set_iterator.__iter__":=
  .of (owner:="set_iterator") (n:="__iter__") (by rw [typeLookup_type,builtinLookup_eq_fast]; kernel_rfl) (by decide +kernel) (by decide +kernel) (by decide +kernel)
    (by first | exact .inl (by decide +kernel) | exact .inr (by decide +kernel)) (by rw [isSubtype_type]; kernel_rfl)
theorem Zey:entryFor table "set_iterator.__iter__"=some Builtin.«dict_keyiterator.__iter__»:=
  entryFor_alias (id':="dict_keyiterator.__iter__") (by kernel_rfl) rfl (by decide +kernel) (by kernel_rfl)
theorem ZfP (a:Value):argsOk "set_iterator.__iter__" ⟨[a],[]⟩:=by
  unfold argsOk; rw [signature?_of (id:="set_iterator.__iter__") (n:=['_','_','r','e','t','i','_','_']) (o:=['r','o','t','a','r','e','t','i','_','t','e','s']) (by kernel_rfl) Zge]; kernel_rfl
theorem ZhE {α:Type} (a:Array α) (h:a.size=1):∃ x,a = #[x]:=by
  cases a with
  | mk l=>match l,h with | [x],_=>exact ⟨x,rfl⟩
section
variable {prog:Program} {w:World} {A:Around}
theorem Zhx {E:Value→Shared→Prop} {s:Shared} {I S:Addr} {f:Value} {i n ep:Nat} {Q:Value→Shared→Prop} (hI:s.heap.get? I=some (ItO S f i n ep)) (h:Q (.ref I) s):wpAny (model prog w) A (pyIter (.ref I)) Q E s:=by
  have hT:s.TypeIs (.ref I) "set_iterator":=⟨_,hI,rfl⟩;refine wpAny_pyIter_slot hT Zcd (wpAny_call_entry Zcd hT Zey ?_ (ZfP _));show wpAny _ _ (ret (.ref I)) _ _ s;exact wpAny_pure ⟨_,rfl,"set_iterator",_,hT,JQ.lookup,h⟩
theorem ZiM (hh:A.handled=none) (I S Tp:Addr) (hS:S≠I) (hT:Tp≠I) (es:Array (Int×Value)) (ep:Nat) (t:SetTable) (hf:t.fits es.size=true) (ord:List Nat) (ho:ord.Perm (List.range es.size)) :
    Walks prog w A I [I,S,Tp] [I] es.size (fun i v=>((ord.map fun p=>(es[p]?.map (·.2)).getD .none))[i]? = some v)
      (fun i h=>h.get? I=some (ItO S (.ref Tp) i es.size ep)∧h.get? S=some (Za7 es ep t)∧h.get? Tp=some (TpO ord)) where
  sub:=fun b hb=>by simp at hb; simp [hb]
  frame:=fun _ _ _ st hk=>⟨hk I (by simp) _ st.1,hk S (by simp) _ st.2.1,hk Tp (by simp) _ st.2.2⟩
  item:=fun i s Q E hi st hQ=>by
    have hl:i<ord.length:=by rw [ho.length_eq,length_range]; exact hi
    have hp:ord[i]<es.size:=List.mem_range.mp (ho.mem_iff.mp (getElem_mem hl));refine ZfZ (pl:=ord[i]) (e0:=es[ord[i]]) st.1 st.2.1 hf st.2.2 rfl ?_ (Array.getElem?_eq_getElem hp) fun h' h1 hk=>?_
    · simp [hl]
    · refine hQ _ h' s.toks ?_ ⟨h1,hk S _ hS st.2.1,hk Tp _ hT st.2.2⟩ fun b o hb e=>hk b o (fun h=>hb (by simp [h])) e;rw [getElem?_map,getElem?_eq_getElem hl];simp [hp]
  done:=fun s Q E st hQ=>by
    refine Zf1 hh st.1 st.2.1 hf st.2.2 rfl ?_ fun h' hk=>hQ h' s.toks fun b o hb e=>hk b o (fun h=>hb (by simp [h])) e;have hl:ord.length=es.size:=by rw [ho.length_eq,length_range]
    simp [hl]
  self:=fun _ _ _ _ st hQ=>Zhx st.1 hQ
theorem ZiO (hh:A.handled=none) (I S:Addr) (hS:S≠I) (es:Array (Int×Value)) (ep:Nat) (t:SetTable) (hf:t.fits es.size=true) (vals:List Value) (hl:vals.length=es.size) (sl:Nat→Nat)
    (hN:∀ (A:Around) (E:Value→Shared→Prop) (Q:Option (Value×Nat)→Shared→Prop) (s:Shared) (i:Nat),i≤es.size→s.heap.get? S=some (Za7 es ep t)→Q (vals[i]?.map fun v=>(v,sl (i+1))) s→wpAny (model prog w) A (setNext S (sl i) i ep) Q E s) :
    Walks prog w A I [I,S] [I] es.size (fun i v=>vals[i]? = some v)
      (fun i h=>h.get? I=some (ItO S (.int (sl i) 0) i es.size ep)∧h.get? S=some (Za7 es ep t)) where
  sub:=fun b hb=>by simp at hb; simp [hb]
  frame:=fun _ _ _ st hk=>⟨hk I (by simp) _ st.1,hk S (by simp) _ st.2⟩
  item:=fun i s Q E hi st hQ=>by
    have hv:vals[i]? = some vals[i]:=getElem?_eq_getElem (by rw [hl]; exact hi);refine Zf0 (x:=vals[i]) (nx:=sl (i+1)) st.1 st.2 hf (fun E Q q=>hN _ _ _ _ i (le_of_lt hi) st.2 (by rw [hv]; exact q)) fun h' h1 hk=>?_;exact hQ _ h' s.toks hv ⟨h1,hk S _ hS st.2⟩ fun b o hb e=>hk b o (fun h=>hb (by simp [h])) e
  done:=fun s Q E st hQ=>by
    refine Zf2 hh st.1 st.2 hf (fun E Q q=>hN _ _ _ _ es.size (le_refl _) st.2 ?_) fun h' hk=>hQ h' s.toks fun b o hb e=>hk b o (fun h=>hb (by simp [h])) e;rw [getElem?_eq_none (by rw [hl]; exact le_refl _)];exact q
  self:=fun _ _ _ _ st hQ=>Zhx st.1 hQ
theorem Zhz {α:Type} (nx:Nat→Nat):∀ (f k:Nat) (left:List α) (out:Array α),f=left.length→(pickOrder.go nx f k left out).toList.Perm (out.toList++left)
  | 0,k,left,out,e=>by
    have e2:left=[]:=List.length_eq_zero_iff.mp e.symm;subst e2;rw [append_nil];exact List.Perm.refl _
  | f+1,k,left,out,e=>by
    have hp:nx k % left.length<left.length:=Nat.mod_lt _ (by omega);unfold pickOrder.go;rw [getElem?_eq_getElem hp];dsimp only;refine (Zhz nx f (k+1) _ _ (by rw [List.length_eraseIdx_of_lt hp]; omega)).trans ?_;rw [Array.toList_push,append_assoc];exact List.Perm.append_left _ (Zb6 left _ hp)
theorem Zic {α:Type} (nx:Nat→Nat) (xs:Array α):(pickOrder nx xs).toList.Perm xs.toList:=by
  unfold pickOrder;exact (Zhz nx xs.size 0 xs.toList #[] (by simp)).trans (List.Perm.refl _)
variable {S:Addr} {ep:Nat} {es:Array (Int×Value)} {t:SetTable}
theorem Zim (hb:byT w=true) (hf:t.fits es.size=true) (A:Around) (E:Value→Shared→Prop) (Q:Option (Value×Nat)→Shared→Prop) (s:Shared) (i:Nat) (hS:s.heap.get? S=some (Za7 es ep t))
    (h:Q (((pickOrder (w.params.setOrder S ep) es).toList.map (·.2))[i]?.map fun v=>(v,0)) s):wpAny (model prog w) A (setNext S 0 i ep) Q E s:=by
  unfold setNext setsByText setWalk;refine wpAny_bind (wpAny_setState_of hS rfl hf ?_);refine wpAny_bind (wpAny_bind (wpAny_askSetting (wpAny_pure ?_)));refine wpAny_ite_split (fun _=>?_) (fun hn=>absurd hb hn);rw [if_neg (by simp)];refine wpAny_bind (wpAny_bind (wpAny_setState_of hS rfl hf ?_));refine wpAny_bind (wpAny_bind (wpAny_askSetting (wpAny_pure ?_)));refine wpAny_ite_split (fun _=>?_) (fun hn=>absurd hb hn);refine wpAny_bind (wpAny_askSetting (wpAny_pure (wpAny_pure ?_)));rw [getElem?_map,getElem?_toList,Option.map_map] at h;exact h
theorem Zji (hb:byT w=false) (hf:t.fits es.size=true) (hl:t.led=true) (h1:es.size≤1) (A:Around) (E:Value→Shared→Prop) (Q:Option (Value×Nat)→Shared→Prop) (s:Shared) (i:Nat) (hi:i≤es.size) (hS:s.heap.get? S=some (Za7 es ep t))
    (h:Q ((es.toList.map (·.2))[i]?.map fun v=>(v,if i+1=0 then 0 else t.place.getD 0 0+1)) s):wpAny (model prog w) A (setNext S (if i=0 then 0 else t.place.getD 0 0+1) i ep) Q E s:=by
  unfold setNext setsByText;refine wpAny_bind (wpAny_setState_of hS rfl hf ?_);refine wpAny_bind (wpAny_bind (wpAny_askSetting (wpAny_pure ?_)));refine wpAny_ite_split (fun hy=>absurd (show byT w=true from hy) (by rw [hb]; decide)) (fun _=>?_);refine wpAny_ite_split (fun hy=>?_) (fun _=>?_)
  · have hy':(!t.plain && decide (1<es.size))=true:=hy;rw [and_eq_true,decide_eq_true_eq] at hy';omega
  have hml:∀ (Q:Unit→Shared→Prop),Q () s→wpAny (model prog w) A (if (!t.led && !es.isEmpty)=true then (do let _ ← (unsupported "set:maker-not-led":Sem Unit); pure ()) else pure ()) Q E s:=by
    intro Q q;rw [if_neg (by rw [hl]; simp)];exact wpAny_pure q
  have hpl:t.place.size=es.size:=by
    have:=hf;simp only [SetTable.fits,and_eq_true,beq_iff_eq] at this;exact this.1
  have goal:(match es[SetTable.below t.place (if i=0 then 0 else t.place.getD 0 0+1)]?,t.place[SetTable.below t.place (if i=0 then 0 else t.place.getD 0 0+1)]? with
          | some (fst,x),some j=>some (x,j+1)
          | x,x_1=>none)=((es.toList.map (·.2))[i]?.map fun v=>(v,if i+1=0 then 0 else t.place.getD 0 0+1)):=by
    rcases lt_or_ge es.size 1 with c | c
    · have c0:es.size=0:=by omega
      have e1:∀ k:Nat,es[k]? = none:=fun k=>Array.getElem?_eq_none (by omega);rw [e1,getElem?_eq_none (by rw [length_map,length_toList]; omega)];rfl
    · have c1:es.size=1:=by omega
      have c2:t.place.size=1:=by omega
      obtain ⟨p,e2⟩:=ZhE t.place c2;obtain ⟨e,e3⟩:=ZhE es c1;rw [e2,e3];have hi':i=0∨i=1:=by omega
      rcases hi' with rfl | rfl
      · have hbl:SetTable.below #[p] 0=0:=by
          unfold SetTable.below SetTable.below.go;simp [SetTable.below.go]
        simp [hbl]
      · have hbl:SetTable.below #[p] (p+1)=1:=by
          unfold SetTable.below SetTable.below.go;simp [SetTable.below.go]
        simp [hbl]
  refine wpAny_bind (hml _ ?_);refine wpAny_pure ?_;rw [← goal] at h;exact h
end
end L2
set_option Elab.async false
set_option linter.all false
set_option maxRecDepth 100000
namespace L2
open PySem PySem.Spec PyProof.Rows PySem.W
section
variable {prog:Program} {w:World} {A:Around} {E:Value→Shared→Prop} {s:Shared}
theorem ZjB {r:Addr} {Q:Bool→Shared→Prop} (hT:s.TypeIs (.ref r) "set") (h:Q false s):wpAny (model prog w) A (Builtin.List.listLengthHint (.ref r)) Q E s:=by
  unfold Builtin.List.listLengthHint;refine wpAny_bind (wpAny_specialOf hT PySem.F.slot_set_len.lookup ?_);generalize hid:("set.__len__":String)=id0
  wp_delta
  rw [show splitId id0=some ("set","__len__") from by subst hid; decide +kernel];subst hid;refine wpAny_bind (wpAny_isInstance (T:="set") (b:=true) hT (by rw [isSubtype_type]; kernel_rfl) ?_);refine wpAny_ite_split (fun hab=>absurd hab (by decide)) (fun _=>?_);refine wpAny_ite_split (fun _=>?_) (fun hab=>absurd (by decide +kernel) hab);refine wpAny_bind (wpAny_typeOf hT ?_);exact wpAny_pure h
theorem ZjJ {S L I:Addr} (rz:Bool) {fp:List Addr} {n:Nat} {P:Nat→Value→Prop} {St:Nat→Heap→Prop} {R:Result→Shared→Prop} (W:Walks prog w A.in1 I fp [I] n P St) (hn:n≤sizeLine) (hLf:L∉fp) (hSL:S≠L) (st:St 0 s.heap) (hT:s.TypeIs (.ref S) "set")
    (hL:s.heap.get? L=some { cls := .type "list",data := .seq #[] 0 })
    (hR:∀ h' tk acc' c',(∀ b o,b≠L→b≠I→s.heap.get? b=some o→h'.get? b=some o)→h'.get? L=some { cls := .type "list",dict:=none,data := .seq acc' c',slots := #[] }→ItemsOf P acc' n→R (.ok (.ret (.ref L))) { s with heap:=h',toks:=tk }) :
    wpAny (model prog w) A.in1 (do
      let room ← holding [.ref I] (Builtin.List.listLengthHint (.ref S))
      if room || rz then rule "list.extend.makes-room"; Builtin.List.listTouch (.ref L)
      again (.builtin "list.extend.loop" ⟨[.ref L, .ref I, .ref L],[]⟩))
      (fun fin s'=>match fin with | .done f=>R (.ok f) s' | .again c'=>c'.quiet=true∧codeAny (model prog w) A c' R s') (fun e s'=>R (.error e) s') s:=by
  have key:∀ (h:Heap) (c₁ tk:Nat),St 0 h→(∀ b o,b≠L→s.heap.get? b=some o→h.get? b=some o) →
      h.get? L=some { cls := .type "list",data := .seq #[] c₁ }→codeAny (model prog w) A (.builtin "list.extend.loop" ⟨[.ref L, .ref I, .ref L],[]⟩) R { s with heap:=h,toks:=tk }:=by
    intro h c₁ tk hst hk hS₁;refine codeAny_extend_loopS W.toS hn L hLf (.ref L) n 0 _ #[] c₁ rfl (zero_le _) hst hS₁ (ItemsOf.nil _) fun s' acc' c' hm hS' hacc=>?_;rw [Moved.eq_with hm];refine hR s'.heap s'.toks acc' c' (fun b o hb hbI e=>hm.heap b o (fun hmem=>?_) (hk b o hb e)) hS' hacc;rcases List.mem_cons.mp hmem with e' | hmem
    · exact hb e'
    · exact hbI (List.mem_singleton.mp hmem)
  refine wpAny_bind (wpAny_holding (ZjB hT ?_));refine wpAny_ite_split (fun _=>?_) (fun _=>wpAny_pure ⟨plainId_quiet PySem.F.plain_extend_loop _,key _ 0 _ st (fun b o _ e=>e) hL⟩);refine wpAny_bind (wpAny_rule ?_);refine wpAny_bind ?_;show wpAny _ _ (updateSeq L (·.push .none) >>= fun _=>updateSeq L (·.pop)) _ _ _;refine wpAny_bind (wpAny_updateSeq hL rfl ?_);have hS₂:=Heap.get?_update_self (Obj.mapSeq (·.push Value.none)) hL rfl;refine wpAny_updateSeq (hz:=by seq_fits) hS₂ rfl ?_;have hS₃:=Heap.get?_update_self (Obj.mapSeq (·.pop)) hS₂ rfl;refine wpAny_pure ⟨plainId_quiet PySem.F.plain_extend_loop _,key _ _ _ ?_ (fun b o hb e=>?_) hS₃⟩
  · refine W.frame 0 _ _ st fun b hb o e=>?_;have hbS:b≠L:=fun h=>hLf (h▸hb);exact (Heap.get?_update_other _ _ (Ne.symm hbS)).trans ((Heap.get?_update_other _ _ (Ne.symm hbS)).trans e)
  · exact (Heap.get?_update_other _ _ (Ne.symm hb)).trans ((Heap.get?_update_other _ _ (Ne.symm hb)).trans e)
variable {S:Addr} {ks:List Str}
theorem ZeZ {es:Array (Int×Value)} {vals:List Value} (hel:∀ e∈es.toList,Ent w e) (hpm:(es.toList.map kOf).Perm ks) (hv:vals.Perm (es.toList.map (·.2))):∃ ps,StrsAre vals ps∧ps.Perm ks:=by
  refine ⟨vals.map fun v=>kOf (0,v),ZgU (by rw [length_map]) fun j u e=>?_,?_⟩
  · have hm:u∈es.toList.map (·.2):=hv.mem_iff.mp (mem_of_getElem? e);obtain ⟨e0,h0,rfl⟩:=List.mem_map.mp hm;obtain ⟨t,h1⟩:=hel e0 h0;refine ⟨kOf e0,t,?_,by rw [h1]; rfl⟩;rw [getElem?_map,e];rfl
  · refine (hv.map _).trans ?_;rw [map_map];exact hpm
theorem fm_eq {α β:Type} (f:α→β) (g:α→Option β):∀ (l:List α),(∀ x∈l,g x=some (f x))→l.map f=l.filterMap g
  | [],_=>rfl
  | x::r,h=>by
    rw [map_cons,filterMap_cons,h x (mem_cons_self ..)];dsimp only;rw [fm_eq f g r fun y hy=>h y (mem_cons_of_mem _ hy)]
theorem ZfR {h:Heap} {o:Obj} (ho:o.isFreed=false) {n:Nat} (e:n=h.objs.size):(h.push o).get? n=some o:=by
  subst e;exact Heap.get?_push_size _ ho
theorem Zhh {L:Addr} {R:Result→Shared→Prop} (hh:A.handled=none) (hS:ZbR w s.heap S ks (!byT w)) (hne:S≠L) (hL:s.heap.get? L=some { cls := .type "list",data := .seq #[] 0 })
    (hR:∀ h' d' tk acc' c',(∀ b o,b≠L→s.heap.get? b=some o→h'.get? b=some o)→h'.get? L=some { cls := .type "list",dict:=none,data := .seq acc' c',slots := #[] }→(∃ ps,StrsAre acc'.toList ps∧ps.Perm ks)→R (.ok (.ret (.ref L))) { s with heap:=h',drawn:=d',toks:=tk }) :
    wpAny (model prog w) A.in1 (Builtin.List.listExtendWith (.ref L) (.ref S) (.ref L))
      (fun fin s'=>match fin with | .done f=>R (.ok f) s' | .again c'=>c'.quiet=true∧codeAny (model prog w) A c' R s') (fun e s'=>R (.error e) s') s:=by
  obtain ⟨es,ep,t,ho,hel,hpm,hnd,hlen,hf,hled,hpl⟩:=hS;have hSn:S<s.heap.objs.size:=Heap.lt_size ho;have hLn:L<s.heap.objs.size:=Heap.lt_size hL;have hsz:es.size=ks.length:=by rw [← hpm.length_eq,length_map,length_toList]
  have hz:es.size≤sizeLine:=by rw [hsz,sizeLine_eq]; omega
  have acc_of:∀ (vals:List Value),vals.length=es.size→vals.Perm (es.toList.map (·.2))→∀ acc':Array Value,ItemsOf (fun i v=>vals[i]? = some v) acc' es.size→∃ ps,StrsAre acc'.toList ps∧ps.Perm ks:=by
    intro vals hvl hvp acc' hi;have e:acc'.toList=vals:=by
      refine List.ext_getElem (by rw [length_toList,hi.1,hvl]) fun j h1 h2=>?_;have z:=hi.2 j acc'.toList[j] (by rw [← getElem?_toList]; exact getElem?_eq_getElem h1);have z:vals[j]? = some acc'.toList[j]:=z;rw [getElem?_eq_getElem h2] at z;exact (Option.some.inj z).symm
    rw [e];exact ZeZ hel hpm hvp
  unfold Builtin.List.listExtendWith;refine wpAny_bind (wpAny_typeOf (T:="set") ⟨_,ho,rfl⟩ ?_);have h1:Builtin.List.listSameRef (.ref L) (.ref S)=false:=by simp [Builtin.List.listSameRef,Ne.symm hne]
  have h2:(Value.type "set" == Value.type "list")=false:=by decide
  have h3:(Value.type "set" == Value.type "tuple")=false:=by decide
  simp only [h1,h2,h3,Bool.or_false,false_eq_true,if_false];refine wpAny_bind (Zj7 ho hf hz (fun c1 c2 c3 ord d' hp=>?_) fun c=>?_)
  · have hl:ord.length=es.size:=by rw [hp.length_eq,length_range]
    have W:=ZiM (prog:=prog) (w:=w) (A:=A.in1) (by simp [hh]) (s.heap.objs.size+1) S s.heap.objs.size (ne_of_lt (lt_succ_of_lt hSn)) (ne_of_lt (lt_succ_self _)) es ep t hf ord hp;generalize hHh:(s.heap.push (TpO ord)).push (ItO S (.ref s.heap.objs.size) 0 es.size ep)=hB;have hkP:∀ b o,s.heap.get? b=some o→hB.get? b=some o:=fun b o e=>by rw [← hHh]; exact Heap.get?_push_of_some _ (Heap.get?_push_of_some _ e)
    have hI0:hB.get? (s.heap.objs.size+1)=some (ItO S (.ref s.heap.objs.size) 0 es.size ep):=by rw [← hHh]; exact ZfR rfl (by rw [Heap.size_push])
    have hT0:hB.get? s.heap.objs.size=some (TpO ord):=by rw [← hHh]; exact Heap.get?_push_of_some _ (Heap.get?_push_size _ rfl)
    refine ZjJ (s:={ s with heap:=hB,drawn:=d' }) _ W hz ?_ hne ⟨hI0,hkP _ _ ho,hT0⟩ ⟨_,hkP _ _ ho,rfl⟩ (hkP _ _ hL) ?_
    · simp only [mem_cons,not_mem_nil,or_false,not_or];exact ⟨ne_of_lt (lt_succ_of_lt hLn),fun e=>hne e.symm,ne_of_lt hLn⟩
    · intro h' tk acc' c' hk hL' hi;refine hR h' d' tk acc' c' (fun b o hb e=>hk b o hb (ne_of_lt (lt_succ_of_lt (Heap.lt_size e))) (hkP _ _ e)) hL' (acc_of _ (by rw [length_map,hl]) ?_ acc' hi)
      · refine (hp.map _).trans ?_;have z:=filterMap_getElem?_range es;rw [← z,List.map_filterMap];refine List.Perm.of_eq (fm_eq _ _ _ fun x hx=>?_);rw [Array.getElem?_eq_getElem (List.mem_range.mp hx)];rfl
  · generalize hHh:s.heap.push (ItO S (.int 0 0) 0 es.size ep)=hB;have hkP:∀ b o,s.heap.get? b=some o→hB.get? b=some o:=fun b o e=>by rw [← hHh]; exact Heap.get?_push_of_some _ e
    have hI0:hB.get? s.heap.objs.size=some (ItO S (.int 0 0) 0 es.size ep):=by rw [← hHh]; exact Heap.get?_push_size _ rfl
    have go:∃ (vals:List Value) (sl:Nat→Nat),sl 0=0∧vals.length=es.size∧vals.Perm (es.toList.map (·.2))∧(∀ (A:Around) (E:Value→Shared→Prop) (Q:Option (Value×Nat)→Shared→Prop) (s:Shared) (i:Nat),i≤es.size→s.heap.get? S=some (Za7 es ep t)→Q (vals[i]?.map fun v=>(v,sl (i+1))) s→wpAny (model prog w) A (setNext S (sl i) i ep) Q E s):=by
      cases hb:byT w with
      | true =>
        have hpk:=Zic (w.params.setOrder S ep) es;refine ⟨(pickOrder (w.params.setOrder S ep) es).toList.map (·.2),fun _=>0,rfl,?_,hpk.map _,fun A E Q s i _ h q=>Zim hb hf A E Q s i h q⟩;rw [length_map,hpk.length_eq,length_toList]
      | false =>
        have h1:es.size≤1:=by
          rcases c with c | c | c
          · rw [hb] at c; cases c
          · cases hn:es.size with
            | zero=>omega
            | succ k=>have:=hpl (by omega); rw [this] at c; cases c
          · exact c
        refine ⟨es.toList.map (·.2),fun i=>if i=0 then 0 else t.place.getD 0 0+1,rfl,by rw [length_map,length_toList],List.Perm.refl _,fun A E Q s i hi h q=>Zji hb hf (by rw [hled,hb]; rfl) h1 A E Q s i hi h q⟩
    obtain ⟨vals,sl,hsl,hvl,hvp,hN⟩:=go;have W:=ZiO (prog:=prog) (w:=w) (A:=A.in1) (by simp [hh]) s.heap.objs.size S (ne_of_lt hSn) es ep t hf vals hvl sl hN;have hI1:hB.get? s.heap.objs.size=some (ItO S (.int (sl 0) 0) 0 es.size ep):=by rw [hsl]; exact hI0
    refine ZjJ (s:={ s with heap:=hB }) _ W hz ?_ hne ⟨hI1,hkP _ _ ho⟩ ⟨_,hkP _ _ ho,rfl⟩ (hkP _ _ hL) ?_
    · simp only [mem_cons,not_mem_nil,or_false,not_or];exact ⟨ne_of_lt hLn,fun e=>hne e.symm⟩
    · intro h' tk acc' c' hk hL' hi;refine hR h' s.drawn tk acc' c' (fun b o hb e=>hk b o hb (ne_of_lt (Heap.lt_size e)) (hkP _ _ e)) hL' (acc_of _ hvl hvp acc' hi)
theorem ZgJ {R:List Value→Shared→Prop} (hh:A.handled=none) (hS:ZbR w s.heap S ks (!byT w))
    (h:∀ h' d' tk (vs:List Value),(∀ b o,s.heap.get? b=some o→h'.get? b=some o)→(∃ ps,StrsAre vs ps∧ps.Perm ks)→R vs { s with heap:=h',drawn:=d',toks:=tk }) :
    wpAny (model prog w) A (collect (.ref S)) R E s:=by
  have hlt:S<s.heap.objs.size:=by obtain ⟨_,_,_,ho,_⟩:=hS; exact Heap.lt_size ho
  unfold collect;refine wpAny_bind (wpAny_runValue (codeAny_builtin entry_proto_collect' ?_));rw [Around.under_plainId PySem.F.plain_proto_collect _];show wpAny _ A.in1 (newList [] >>= fun l=>again (.builtin "list.__iadd__" ⟨[l, .ref S],[]⟩)) _ _ s;refine wpAny_bind (wpAny_newObj_type ?_);refine wpAny_pure ⟨plainId_quiet PySem.F.plain_list_iadd _,codeAny_builtin entry_list_iadd' ?_⟩;rw [Around.under_plainId PySem.F.plain_list_iadd _];have hS₁:(s.heap.push { cls := .type "list",data := .seq ([]:List Value).toArray }).get? s.heap.objs.size=some { cls := .type "list",data := .seq #[] }:=Heap.get?_push_size _ rfl;show wpAny _ A.in1 (Builtin.List.listExtendWith (.ref s.heap.objs.size) (.ref S) (.ref s.heap.objs.size)) _ _ _;have key:=Zhh (prog:=prog) (A:=A) (s:={ s with heap:=s.heap.push { cls := .type "list",data := .seq ([]:List Value).toArray } }) (R:=(fun (q:Result) (s':Shared)=>∃ (h':Heap) (d':Drawn) (tk:Nat) (acc':Array Value) (c':Nat),q = .ok (.ret (.ref s.heap.objs.size))∧s' = { s with heap:=h',drawn:=d',toks:=tk }∧(∀ b o,s.heap.get? b=some o→h'.get? b=some o)∧h'.get? s.heap.objs.size=some { cls := .type "list",dict:=none,data := .seq acc' c',slots := #[] }∧∃ ps,StrsAre acc'.toList ps∧ps.Perm ks)) hh (hS.at fun o e=>Heap.get?_push_of_some _ e) (ne_of_lt hlt) hS₁
    (fun h' d' tk acc' c' hk hL hacc=>⟨h',d',tk,acc',c',rfl,rfl,fun b o e=>hk b o (ne_of_lt (Heap.lt_size e)) (Heap.get?_push_of_some _ e),hL,hacc⟩)
  refine wpAny_mono key (fun fin s' x=>?_) fun e s' x=>?_
  · cases fin with
    | done f =>
      obtain ⟨h',d',tk,acc',c',e,rfl,hk,hS',hacc⟩:=x;cases e;show wpAny _ A (load s.heap.objs.size >>= _) _ _ _;refine wpAny_bind (wpAny_load hS' ?_);exact wpAny_pure (h h' d' tk _ hk hacc)
    | again c₁ =>
      refine ⟨x.1,codeAny_mono x.2 fun q s₂ y=>?_⟩;obtain ⟨h',d',tk,acc',c',rfl,rfl,hk,hS',hacc⟩:=y;show wpAny _ A (load s.heap.objs.size >>= _) _ _ _;refine wpAny_bind (wpAny_load hS' ?_);exact wpAny_pure (h h' d' tk _ hk hacc)
  · obtain ⟨_,_,_,_,_,e',_⟩:=x;cases e'
end
end L2
set_option Elab.async false
set_option linter.all false
set_option maxRecDepth 100000
namespace L2
open PySem PySem.Spec PyProof.Rows PySem.W
noncomputable def SetO (w:World) (a:Addr) (ks:List Str):HO := .ext fun h=>ZbR w h a ks (!byT w)
noncomputable def rSortS (w:World):List V→Hp→VK→Prop:=fun xs H Q=>∃ (a:Addr) (ks:List Str),xs=[.ref a]∧H a=some (SetO w a ks)∧ks.length<64 ∧
  ∀ (ss':List Str) (l:Addr),ss'.Perm ks→sortedS ss'=true→H l=none→Q (.ref l) (upd H l (.lst (ss'.map V.str)))
theorem Inv.drew {X:Cx} {pins:List (Addr×Obj)} {σ:List (Option V)} {H:Hp} {s:Shared} (I:Inv X pins σ H s) (d':Drawn):Inv X pins σ H { s with drawn:=d' }:=
  ⟨I.ok,I.os,I.bare,I.base,I.loc,I.cell,I.free,I.freeC,I.pin,I.hok,I.len⟩
section
variable {X:Cx}
theorem ZiE (hc:X.calm=true):Jz X (.type "set") (fun xs H Q=>∃ (l:Addr) (ns:List Str),xs=[.ref l]∧SqL X.K H l (ns.map V.str)∧ns.length<1000∧∀ a,H a=none→Q (.ref a) (upd H a (SetO X.w a (ddl ns)))):=by
  intro pins s σ H xs us Q I r h;obtain ⟨l,ns,rfl,hq,hn,q⟩:=h;obtain ⟨u,rfl,rx⟩:=ZaC r;cases rx;obtain ⟨its,rv,pl,hz⟩:=I.list hq;have hl:its.length=ns.length:=by rw [← rv.length,length_map]
  refine ZiD (ns:=ns) (I.ok.hd hc) pl.isList (fun i v e=>?_) (by rw [size_toArray,hl]) (by omega) fun h' tk hS hk=>?_
  · have e':its[i]? = some v:=by simpa using e
    have hi:i<ns.length:=by rw [← hl]; exact (List.getElem?_eq_some_iff.mp e').1
    obtain ⟨u,hu,ru⟩:=rv.get (i:=i) (x := .str ns[i]) (by rw [getElem?_map,getElem?_eq_getElem hi]; rfl);rw [e'] at hu;cases hu;obtain ⟨t,rfl⟩:=ru;exact ⟨t,by rw [List.getD_eq_getElem?_getD,getElem?_eq_getElem hi]; rfl⟩
  · refine ⟨.ref s.heap.objs.size,_,I.laid (t':=tk) (o:=SetO X.w s.heap.objs.size (ddl ns)) (fun b o e=>hk b o (Heap.lt_size e) e) (le_refl _) ⟨hS,?_,fun h1 h2 x k=>ZbR.at x k⟩,rfl,q _ (I.hok.fresh (le_refl _))⟩;obtain ⟨_,_,_,e,_⟩:=hS;exact ⟨_,e⟩
theorem Zhk (hc:X.calm=true):Jz X (.builtin "sorted") (rSortS X.w):=by
  intro pins s σ H xs us Q I r h;obtain ⟨a,ks,rfl,ha,h64,q⟩:=h;obtain ⟨u,rfl,rx⟩:=ZaC r;cases rx;have hS:ZbR X.w s.heap a ks (!byT X.w):=(I.hok a _ ha).1;refine Calls.call_function_entry kind_sorted plain_sorted entry_sorted (args_sorted1 _) ?_;unfold Builtin.«sorted»;refine wpAny_bind (m:=checkCount "sorted" 1 1 _) (wpAny_pure ?_);refine wpAny_bind (ZgJ (A:=X.A.in1) (I.ok.hd hc) hS fun h' d' tk vs hkp hps=>?_);obtain ⟨ps,hP,hpm⟩:=hps;have I1:Inv X pins σ H { s with heap:=h',drawn:=d',toks:=tk }:=(I.drew d').kept (h':=h') (t':=tk) hkp;have hl:vs.length=ks.length:=by
    have z:vs.length=ps.length:=by
      clear hpm
      induction hP with
      | nil=>rfl
      | cons y t _ ih=>rw [length_cons,length_cons,ih]
    rw [z,hpm.length_eq]
  refine wpAny_bind (wpAny_newList ?_ (by rw [hl,sizeLine_eq]; omega));have hoL:(h'.push { cls := .type "list",data := .seq vs.toArray }).get? h'.objs.size=some (seqObj "list" vs.toArray 0):=Heap.get?_push_size _ rfl;refine wpAny_bind (wpAny_holding (wpAny_call_entry slot_list_sort ⟨_,hoL,rfl⟩ entry_list_sort (list_sort_treeK strKind_oneLt hoL hP.keysOf (fun v₁ v₂ ZbY e=>keyKind_strs (by rw [← e]; exact hP)) (by rw [hl]; exact h64) fun st' a1 a2=>⟨_,rfl,?_⟩) (args_list_sort _)));obtain ⟨ss',b1,b2,b3⟩:=sorted_out_str hP a1 a2;refine wpAny_pure ⟨_,rfl,?_⟩;have fr:H h'.objs.size=none:=I1.fresh;refine ⟨.ref h'.objs.size,upd H h'.objs.size (.lst (ss'.map V.str)),?_,rfl,q ss' _ (b2.trans hpm) b3 fr⟩;obtain ⟨en,hen⟩:=sortedHeap_at (a:=h'.objs.size) (vs:=vs) (out:=(arrOf st').map (·.2)) hoL;refine I1.laid (t':=tk) (fun b u e=>?_) (le_refl _) ⟨?_,_,en,ZhY b1,?_⟩
  · have hlt:b<h'.objs.size:=Heap.lt_size e;exact (sortedHeap_old (ne_of_lt hlt) (by rw [Heap.size_push]; exact lt_succ_of_lt hlt)).trans (Heap.get?_push_of_some _ e)
  · rw [length_map,(b2.trans hpm).length_eq,sizeLine_eq];omega
  · rw [Array.toArray_toList];exact hen
end
theorem ZiX {a b ks:List Str} (nd:ks.Nodup) (pa:a.Perm ks) (pb:b.Perm ks) (sa:sortedS a=true) (sb:sortedS b=true):a=b:=by
  have na:a.Nodup:=pa.nodup_iff.mpr nd;have nb:b.Nodup:=pb.nodup_iff.mpr nd;exact (pa.trans pb.symm).eq_of_pairwise (fun x y _ _ h1 h2=>absurd (Zio h1 h2) (Zhb _)) (Zf8 sa na) (Zf8 sb nb)
end L2
set_option Elab.async false
set_option linter.all false
set_option maxRecDepth 100000
namespace L2
open PySem PySem.Spec
noncomputable def Ho.nm:Ho→Str
  | .one n=>n
  | .kids n _=>n
noncomputable def X2 (h:Ho) (ts:List Atm):List Atm:=match h with
  | .one n=>ts++[.born n]
  | .kids _ _=>ts
noncomputable def isHg (S:Mo) (t:Atm):Bool:=decide (t.stand S=("hangs":Str))
noncomputable def XJ (S:Mo) (h:Ho) (ts:List Atm):List Atm:=(X2 h ts).filter (isHg S)
noncomputable def whS (S:Mo) (h:Ho) (ts:List Atm) (os:List Str):Str:=match h with
  | .one _=>Yl ((X2 h ts).map (Atm.stand S))
  | .kids n a=>if Yl (ts.map (Atm.stand S))=("failed":Str) then "failed" else Yl [Yl (ts.map (Atm.stand S)),clS S n a os]
noncomputable def ZaQ (S:Mo) (n:Str):Int:=(Xv n:Int) - (Xv (nr S.bs n):Int)
noncomputable def XZ (S:Mo) (F tm:Int):Atm→Bool
  | .year y=>decide (F+tm<y)
  | .comes _=>true
  | .born n=>if ZaQ S n=1 then false else decide (ZaQ S n>1)
  | .dead n=>if ZaQ S n=1 then true else decide (ZaQ S n>1)
  | .age n a=>if ZaQ S n=1 then decide (a>tm) else decide (ZaQ S n>1)
noncomputable def Zhj (S:Mo) (tm:Int):Ho→Bool
  | .one _=>false
  | .kids n a=>if has S.bs n=false then true else al S.bs S.ds n && decide (a>tm)
noncomputable def JJ (S:Mo) (h:Ho) (ts:List Atm) (F tm:Int):Bool:=(XJ S h ts).any (XZ S F tm) || Zhj S tm h
noncomputable def ydl:Nat→List Int
  | 0=>[]
  | n+1=>if n+1≤60 then [(n:Int)+1] else 60::ydl (n+1 - 60)
termination_by n=>n
theorem Zhn {n:Nat} (h:0<n):ydl n=(if (n:Int)<60 then (n:Int) else 60)::ydl (n - 60):=by
  cases n with
  | zero=>omega
  | succ k =>
    rw [ydl]
    by_cases c:k+1≤60
    · rw [if_pos c];have e:k+1 - 60=0:=by omega
      rw [e,ydl]
      by_cases c2:((k+1:Nat):Int)<60
      · rw [if_pos c2]; rfl
      · rw [if_neg c2];have:(k:Int)+1=60:=by omega
        rw [this]
    · rw [if_neg c,if_neg (by omega)]
theorem ZeV:∀ (k n:Nat),n≤k→(ydl n).length≤n
  | _,0,_=>by rw [ydl]; exact le_refl _
  | 0,n+1,h=>by omega
  | k+1,n+1,h=>by
    rw [Zhn (by omega),length_cons];have:=ZeV k (n+1 - 60) (by omega);omega
theorem iv_99:∀ k∈List.range 99,1≤iv (ts (k+1))∧iv (ts (k+1))≤99:=by decide +kernel
theorem iv_ts {i:Nat} (h:i<99):1≤iv (toString ((i:Int)+1):Str)∧iv (toString ((i:Int)+1):Str)≤99:=iv_99 i (List.mem_range.mpr h)
theorem nms_iv:∀ (k:Nat) (x:Str),x.length≤k→pok x=true→∀ p∈nms x,1≤iv p∧iv p≤99:=by
  intro k
  induction k with
  | zero=>intro x hx hp; exact absurd (by omega) (XU hp)
  | succ k ih =>
    intro x hx hp p hm;rcases ZcL hp with hg | ⟨n,i,hi,rfl,pn,hd⟩
    · rw [Zjg hg] at hm; cases hm
    · rw [Zfw] at hm;rcases List.mem_append.mp hm with hm | hm
      · refine ih n ?_ pn p hm;have:=ZcC (Zcp n i);rw [ZgQ] at this;omega
      · rw [List.mem_singleton.mp hm]; exact iv_ts hi
theorem Zkh {bs ds:List (Str×Int)} (W:Wf bs ds):∀ (k:Nat) (x:Str),x.length≤k→pok x=true→has bs x=false→nr bs x≠Str.empty→Xv (nr bs x)<Xv x:=by
  intro k
  induction k with
  | zero=>intro x hx hp; exact absurd (by omega) (XU hp)
  | succ k ih =>
    intro x hx hp hn hne;rcases ZcL hp with hg | ⟨n,i,hi,rfl,pn,hd⟩
    · exact absurd (nr_gw hg hn) hne
    · rw [Zg7,if_neg (by rw [hn]; decide)] at hne ⊢;rw [ZjM];cases hb:has bs n with
      | true=>rw [ZaA (XU pn) hb]; omega
      | false =>
        have:=ZcC (Zcp n i);rw [ZgQ] at this;have:=ih n (by omega) pn hb hne;omega
noncomputable def vI:V→Int
  | .int k=>k
  | _=>0
noncomputable def ctn (S:Mo) (n:Str):Int:=((pvl n)[Xv (nr S.bs n)+1]?.map vI).getD 0
theorem ct_at {S:Mo} {n:Str} (W:Wf S.bs S.ds) (ok:okN S n) (h:has S.bs n=false):(pvl n)[Xv (nr S.bs n)+1]? = some (.int (ctn S n))∧1≤ctn S n∧ctn S n≤99:=by
  have hd:=Zkh W n.length n (le_refl _) ok.1 h ok.2;rw [Za3 n] at hd;have e:(pvl n)[Xv (nr S.bs n)+1]? = some (.int (iv (nms n)[Xv (nr S.bs n)])):=by
    unfold pvl;rw [List.getElem?_cons_succ,getElem?_map,getElem?_eq_getElem hd];rfl
  have e2:ctn S n=iv (nms n)[Xv (nr S.bs n)]:=by unfold ctn; rw [e]; rfl
  rw [e2];exact ⟨e,nms_iv n.length n (le_refl _) ok.1 _ (getElem_mem hd)⟩
noncomputable def Y6 (S:Mo) (h:Ho) (ts:List Atm):List Str:=(XJ S h ts).filterMap Atm.who
noncomputable def prs (S:Mo) (h:Ho) (ts:List Atm):List (Str×Int):=
  ((Y6 S h ts).filter fun n => !has S.bs n).map (fun n=>(nr S.bs n,ctn S n))++(match h with
    | .one _=>[]
    | .kids n _=>if al S.bs S.ds n=true then [(n,(nk S.bs n:Int)+1)] else if has S.bs n=false then [(nr S.bs n,ctn S n)] else [])
noncomputable def ZgZ (m:List (Str×Int)) (p:Str) (v:Int):List (Str×Int):=if has m p=true then m.map (fun q=>if q.1=p then (q.1,v) else q) else m++[(p,v)]
noncomputable def Xj (m:List (Str×Int)) (q:Str×Int):List (Str×Int):=ZgZ m q.1 (if (yr m q.1).getD 0>q.2 then (yr m q.1).getD 0 else q.2)
noncomputable def mst (S:Mo) (h:Ho) (ts:List Atm):List (Str×Int):=(prs S h ts).foldl Xj []
theorem Zi5 (m:List (Str×Int)) (p:Str) (v:Int):ZbZ (yrs m) (Sum.inr p:Key) (.int v)=yrs (ZgZ m p v):=by
  have ha:((yrs m).any fun kv=>decide (kv.1=(Sum.inr p:Key)))=has m p:=by
    rw [Zb9,XL];unfold has;cases yr m p <;> rfl
  unfold ZbZ ZgZ;rw [ha]
  by_cases c:has m p=true
  · rw [if_pos c,if_pos c];unfold yrs;rw [map_map,map_map];refine map_congr_left fun q _=>?_
    by_cases e:q.1=p
    · simp [e]
    · simp [e]
  · rw [if_neg c,if_neg c];unfold yrs;rw [map_append];rfl
noncomputable def mOk (S:Mo) (m:List (Str×Int)):Prop:=∀ q∈m,has S.bs q.1=true∧0≤q.2∧q.2≤100
theorem yr_mem {m:List (Str×Int)} {p:Str} {v:Int} (h:yr m p=some v):(p,v)∈m:=by
  unfold yr at h;obtain ⟨q,e1,e2⟩:=Option.map_eq_some_iff.mp h;have:=List.mem_of_find?_eq_some e1;have e3:=List.find?_some e1;have e4:q.1=p:=of_decide_eq_true e3;rw [← e4,← e2];exact this
theorem mOk.step {S:Mo} {m:List (Str×Int)} (h:mOk S m) {q:Str×Int} (hq:has S.bs q.1=true∧0≤q.2∧q.2≤100):mOk S (Xj m q):=by
  have hv:0≤(if (yr m q.1).getD 0>q.2 then (yr m q.1).getD 0 else q.2)∧(if (yr m q.1).getD 0>q.2 then (yr m q.1).getD 0 else q.2)≤100:=by
    cases e:yr m q.1 with
    | none=>simp only [Option.getD_none]; split <;> omega
    | some v =>
      have:=h _ (yr_mem e);simp only [Option.getD_some];split <;> omega
  intro x hx;unfold Xj ZgZ at hx;split at hx
  · obtain ⟨y,h1,h2⟩:=List.mem_map.mp hx
    by_cases c:y.1=q.1
    · rw [if_pos c] at h2; rw [← h2]; exact ⟨by rw [c]; exact hq.1,hv⟩
    · rw [if_neg c] at h2; rw [← h2]; exact h y h1
  · rcases List.mem_append.mp hx with hx | hx
    · exact h x hx
    · rw [List.mem_singleton.mp hx]; exact ⟨hq.1,hv⟩
theorem ZeG (m:List (Str×Int)) (q:Str×Int):(Xj m q).length≤m.length+1:=by
  unfold Xj ZgZ;split
  · rw [length_map]; omega
  · rw [length_append]; exact le_refl _
theorem ZeY {S:Mo} {h:Ho} {ts:List Atm} (oh:h.ok S) (ok:∀ t∈ts,t.ok S):∀ t∈X2 h ts,t.ok S:=by
  intro t ht;cases h with
  | one n =>
    rcases List.mem_append.mp ht with ht | ht
    · exact ok t ht
    · rw [List.mem_singleton.mp ht]; exact oh
  | kids n a=>exact ok t ht
theorem Zdt {S:Mo} {h:Ho} {ts:List Atm} (oh:h.ok S) (ok:∀ t∈ts,t.ok S):∀ t∈XJ S h ts,t.ok S:=fun t ht=>ZeY oh ok t (List.mem_filter.mp ht).1
theorem Zdy (h:Ho) (ts:List Atm):(X2 h ts).length≤ts.length+1:=by
  cases h with
  | one n=>show (ts++[_]).length≤_; rw [length_append]; exact le_refl _
  | kids n a=>exact le_succ _
theorem Zcv (S:Mo) (h:Ho) (ts:List Atm):(XJ S h ts).length≤ts.length+1:=le_trans (length_filter_le _ _) (Zdy h ts)
theorem ZgO {S:Mo} {h:Ho} {ts:List Atm} (oh:h.ok S) (ok:∀ t∈ts,t.ok S):∀ n∈Y6 S h ts,okN S n:=fun n hn=>by
  obtain ⟨t,h1,h2⟩:=List.mem_filterMap.mp hn;exact Atm.ok_who (Zdt oh ok t h1) h2
theorem ZeW (S:Mo) (h:Ho) (ts:List Atm):(Y6 S h ts).length≤ts.length+1:=le_trans (List.length_filterMap_le _ _) (Zcv S h ts)
theorem Zi6 {S:Mo} {h:Ho} {ts:List Atm} (W:Wf S.bs S.ds) (hl:S.bs.length≤98) (oh:h.ok S) (ok:∀ t∈ts,t.ok S):∀ q∈prs S h ts,has S.bs q.1=true∧0≤q.2∧q.2≤100:=by
  intro q hq;have one:∀ n,okN S n→has S.bs n=false→has S.bs (nr S.bs n)=true∧0≤ctn S n∧ctn S n≤100:=fun n o hn=>by
    have:=ct_at W o hn;exact ⟨Zfu o,by omega,by omega⟩
  rcases List.mem_append.mp hq with hq | hq
  · obtain ⟨n,h1,rfl⟩:=List.mem_map.mp hq;obtain ⟨h1,h2⟩:=List.mem_filter.mp h1;exact one n (ZgO oh ok n h1) (by simpa using h2)
  · cases h with
    | one n=>cases hq
    | kids n a =>
      have hq:q∈(if al S.bs S.ds n=true then [(n,(nk S.bs n:Int)+1)] else if has S.bs n=false then [(nr S.bs n,ctn S n)] else []):=hq;split at hq
      · rename_i c;rw [List.mem_singleton.mp hq];have:=W.few n;unfold al at c;rw [and_eq_true] at c;exact ⟨c.1,by show (0:Int)≤(nk S.bs n:Int)+1; omega,by show (nk S.bs n:Int)+1≤100; omega⟩
      · split at hq
        · rename_i c;rw [List.mem_singleton.mp hq];exact one n oh.1 c
        · cases hq
theorem Zff (S:Mo) (h:Ho) (ts:List Atm):(prs S h ts).length≤ts.length+2:=by
  have h1:(((Y6 S h ts).filter fun n => !has S.bs n).map (fun n=>(nr S.bs n,ctn S n))).length≤ts.length+1:=by
    rw [length_map];exact le_trans (length_filter_le _ _) (ZeW S h ts)
  unfold prs;rw [length_append];have h2:(match h with
    | .one _=>([]:List (Str×Int))
    | .kids n _=>if al S.bs S.ds n=true then [(n,(nk S.bs n:Int)+1)] else if has S.bs n=false then [(nr S.bs n,ctn S n)] else []).length≤1:=by
    cases h with
    | one n=>exact zero_le _
    | kids n a =>
      show (if al S.bs S.ds n=true then [(n,(nk S.bs n:Int)+1)] else if has S.bs n=false then [(nr S.bs n,ctn S n)] else []).length≤1;split
      · exact le_refl _
      · split
        · exact le_refl _
        · exact zero_le _
  omega
noncomputable def Zcy (S:Mo) (m:List (Str×Int)):List Deed:=m.flatMap fun q=>List.replicate (q.2 - (nk S.bs q.1:Int)).toNat (Deed.birth q.1)
noncomputable def dieL (S:Mo):List Deed:=(S.bs.filter fun p => !has S.ds p.1).map fun p=>Deed.death p.1
noncomputable def stoL (S:Mo) (h:Ho) (ts:List Atm) (F tm:Int):List Deed:=
  (ydl (F - S.y).toNat).map Deed.years++Zcy S (mst S h ts)++dieL S++(ydl tm.toNat).map Deed.years
noncomputable def Zec (S:Mo) (h:Ho) (ts:List Atm):List Str:=(Y6 S h ts).map (nr S.bs)++(match h with
  | .one _=>[]
  | .kids n a=>Z8 S n a (Yv S n)++(if al S.bs S.ds n=true then [n] else []))
theorem Zkv {S:Mo} {h:Ho} {ts:List Atm} {F:Int} (D:Dated S) (oh:h.ok S) (ok:∀ t∈ts,t.ok S) (W:Wf S.bs S.ds) (e:Za9 S h ts F):S.y≤F∧F≤S.y+120:=by
  obtain ⟨e,he,hm,hl⟩:=e;refine ⟨hl S.y (by simp),?_⟩;have bl:∀ n,has S.bs n=true→Za6 S n≤S.y:=fun n hn=>by
    obtain ⟨y,hy⟩:=ZiI hn;rw [Zdx hy];exact D.b n y hy
  rcases List.mem_cons.mp hm with rfl | hm
  · omega
  rcases List.mem_cons.mp hm with rfl | hm
  · cases h with
    | one n=>have z:F=S.y:=he; omega
    | kids n a =>
      have z:Zhm S n a F:=he
      by_cases c:(al S.bs S.ds (nr S.bs n) || Xt S n a (Yv S n))=true∨Z8 S n a (Yv S n)=[]
      · have:=z.1 c; omega
      · rw [not_or] at c;obtain ⟨b,h1,h2,rfl⟩:=z.2 (Bool.eq_false_iff.mpr c.1) c.2;obtain ⟨x,hx,rfl⟩:=List.mem_map.mp h1;have:=bl x (Jp W (ZcB hx));have:=oh.2.2;omega
  · unfold agL at hm;obtain ⟨t,h1,rfl⟩:=List.mem_map.mp hm;obtain ⟨h1,h2⟩:=List.mem_filter.mp h1;cases t with
    | age n a =>
      have o:=ok _ h1;have z:al S.bs S.ds n=true:=h2;unfold al at z;rw [and_eq_true] at z;have:=bl n z.1;have:=o.2.2;show Za6 S n+a≤_;omega
    | _=>cases h2
theorem AtmsAt.flt {H H':Hp} {l D:Addr} {tl:List Atm} {ps:List Addr} (A:AtmsAt H l tl ps) (s:Zj H H') (f:Atm→Bool) (h:H' D=some (.lst ((fl (fun i=>(tl[i]?.map f).getD false) tl.length).map (fun i=>((ps.map V.ref)[i]?).getD .non)))) :
    ∃ ps',AtmsAt H' D (tl.filter f) ps':=by
  suffices z:∀ k,k≤tl.length→∃ ps':List Addr,(fl (fun i=>(tl[i]?.map f).getD false) k).map (fun i=>((ps.map V.ref)[i]?).getD .non)=ps'.map V.ref∧ps'.length=((tl.take k).filter f).length∧(∀ (i:Nat) (p:Addr) (t:Atm),ps'[i]? = some p→((tl.take k).filter f)[i]? = some t→H' p=some (.tup t.vals)) by
    obtain ⟨ps',e1,e2,e3⟩:=z tl.length (le_refl _);rw [take_length] at e2 e3;exact ⟨ps',by rw [h,e1],e2,e3⟩
  intro k
  induction k with
  | zero=>intro _; exact ⟨[],rfl,rfl,fun i p t e=>by cases e⟩
  | succ k ih =>
    intro hk;obtain ⟨ps',e1,e2,e3⟩:=ih (by omega);have ht:tl[k]? = some tl[k]:=getElem?_eq_getElem (by omega);have hp:ps[k]? = some (ps[k]'(by rw [A.len]; omega)):=getElem?_eq_getElem (by rw [A.len]; omega);rw [ZfH,take_succ,ht,filter_append,map_append,e1];rw [show (some tl[k]).toList=[tl[k]] from rfl];cases c:f tl[k] with
    | false =>
      rw [if_neg (by rw [map_some,Option.getD_some,c]; decide),filter_cons_of_neg (by rw [c]; decide)];exact ⟨ps',by simp,by simp [e2],by simpa using e3⟩
    | true =>
      rw [if_pos (by rw [map_some,Option.getD_some,c]),filter_cons_of_pos c];refine ⟨ps'++[ps[k]'(by rw [A.len]; omega)],?_,by simp [e2],fun i p t h1 h2=>?_⟩
      · rw [map_append];congr 1;rw [List.map_singleton,List.map_singleton,getElem?_map,hp];rfl
      · rcases lt_or_ge i ps'.length with hi | hi
        · rw [getElem?_append_left hi] at h1;rw [getElem?_append_left (by omega)] at h2;exact e3 i p t h1 h2
        · have hi2:i=ps'.length:=by
            have:=(List.getElem?_eq_some_iff.mp h1).1;rw [length_append] at this;simp at this;omega
          subst hi2;rw [getElem?_append_right (le_refl _),sub_self] at h1;rw [getElem?_append_right (by omega),show ps'.length - (List.filter f (List.take k tl)).length=0 by omega] at h2;cases h1;cases h2;exact s _ _ (A.at_ k _ _ hp ht)
theorem AtmsAt.snoc {H:Hp} {l l' p:Addr} {t:Atm} {tl:List Atm} {ps:List Addr} (A:AtmsAt H l tl ps) (hp:H p=some (.tup t.vals)) (hl:H l'=some (.lst (ps.map V.ref++[V.ref p]))):AtmsAt H l' (tl++[t]) (ps++[p]):=by
  refine ⟨by rw [hl,map_append]; rfl,by simp [A.len],fun i q u h1 h2=>?_⟩;rcases lt_or_ge i ps.length with hi | hi
  · rw [getElem?_append_left hi] at h1;rw [getElem?_append_left (by rw [← A.len]; exact hi)] at h2;exact A.at_ i q u h1 h2
  · have hi2:i=ps.length:=by
      have:=(List.getElem?_eq_some_iff.mp h1).1;rw [length_append] at this;simp at this;omega
    subst hi2;rw [getElem?_append_right (le_refl _),sub_self] at h1;rw [getElem?_append_right (by rw [A.len]; exact le_refl _),A.len,sub_self] at h2;cases h1;cases h2;exact hp
theorem DeedsAt.app {H:Hp} {l1 l2 l3:Addr} {d1 d2:List Deed} {p1 p2:List Addr} (A:DeedsAt H l1 d1 p1) (B:DeedsAt H l2 d2 p2) {H':Hp} (hl:H' l3=some (.lst (p1.map V.ref++p2.map V.ref)))
    (hk:∀ p∈p1++p2,∀ o,H p=some o→H' p=some o):DeedsAt H' l3 (d1++d2) (p1++p2):=by
  refine ⟨by rw [hl,map_append],by simp [A.len,B.len],fun i q u h1 h2=>?_⟩;refine hk q (mem_of_getElem? h1) _ ?_;rcases lt_or_ge i p1.length with hi | hi
  · rw [getElem?_append_left hi] at h1;rw [getElem?_append_left (by rw [← A.len]; exact hi)] at h2;exact A.at_ i q u h1 h2
  · rw [getElem?_append_right hi] at h1;rw [getElem?_append_right (by rw [← A.len]; exact hi),← A.len] at h2;exact B.at_ _ q u h1 h2
section
variable {K:Frag} {caps:List (Str×Nat)} {tt:TT} {tl te:TE} {ta:TA} {σ:St} {H:Hp} {Q:VK}
theorem Zjo {α:Type} (A:Addr→Hp→α→Prop) (xs:α→List V) (htl:∀ R:VK,(∀ a H1 d,A a H1 d→R (.ref a) H1)→tl σ H R) (hA:∀ a H1 d,A a H1 d→SqL K H1 a (xs d)) (hn:∀ a H1 d,A a H1 d→(xs d).length≤900) (f:Nat→Bool) (g:α→Nat→V)
    (step:∀ a H1 d i x H2,A a H1 d→(xs d)[i]? = some x→Zj H1 H2→∀ R:Bool→Hp→Prop,(∀ H3,Zj H2 H3→R (f i) H3)→tt (some x::ZR caps σ) H2 R)
    (elt:∀ a H1 d i x H2,A a H1 d→(xs d)[i]? = some x→f i=true→Zj H1 H2→∀ R:VK,(∀ H3,Zj H2 H3→R (g d i) H3)→te (some x::ZR caps σ) H2 R)
    (q:∀ a H1 d D H2,A a H1 d→H1 D=none→Zj H1 H2→H2 D=some (.lst ((fl f (xs d).length).map (g d)))→Q (.ref D) H2):tLC caps (Zct K tl) tt te σ H Q:=
  htl _ fun a H1 d h=>⟨a,rfl,⟨xs d,hA a H1 d h⟩,lcLv (hA a H1 d h) (hn a H1 d h) f (g d) (fun i x H2=>step a H1 d i x H2 h) (fun i x H2=>elt a H1 d i x H2 h) (fun D H2=>q a H1 d D H2 h)⟩
theorem Zjp {tl':List Atm} (htl:∀ R:VK,(∀ a ps' H1,Zj H H1→H a=none→AtmsAt H1 a tl' ps'→R (.ref a) H1)→tl σ H R) (hn:tl'.length≤900) (f:Atm→Bool) (g:Atm→V)
    (step:∀ p t H2,Zj H H2→t∈tl'→H2 p=some (.tup t.vals)→∀ R:Bool→Hp→Prop,(∀ H3,Zj H2 H3→R (f t) H3)→tt (some (.ref p)::ZR caps σ) H2 R)
    (elt:∀ p t H2,Zj H H2→t∈tl'→f t=true→H2 p=some (.tup t.vals)→∀ R:VK,(∀ H3,Zj H2 H3→R (g t) H3)→te (some (.ref p)::ZR caps σ) H2 R)
    (q:∀ D H2,Zj H H2→H D=none→H2 D=some (.lst ((tl'.filter f).map g))→Q (.ref D) H2):tLC caps (Zct K tl) tt te σ H Q:=by
  refine Zjo (α:=List Addr) (fun a H1 ps'=>Zj H H1∧H a=none∧AtmsAt H1 a tl' ps') (fun ps'=>ps'.map V.ref) (fun R r=>htl R fun a ps' H1 s f A=>r a H1 ps' ⟨s,f,A⟩) (fun a H1 d h=>SqL.of h.2.2.lst) (fun a H1 d h=>by rw [length_map,h.2.2.len]; exact hn)
    (fun i=>(tl'[i]?.map f).getD false) (fun _ i=>(tl'[i]?.map g).getD .non) ?_ ?_ ?_
  · rintro a H1 d i x H2 ⟨s1,_,A⟩ hx s R r;obtain ⟨p,t,rfl,ht,hp⟩:=(A.same s).at' hx;rw [ht] at r;exact step p t H2 (s1.trans s) (mem_of_getElem? ht) hp R r
  · rintro a H1 d i x H2 ⟨s1,_,A⟩ hx hf s R r;obtain ⟨p,t,rfl,ht,hp⟩:=(A.same s).at' hx;rw [ht] at r hf;exact elt p t H2 (s1.trans s) (mem_of_getElem? ht) hf hp R r
  · rintro a H1 d D H2 ⟨s1,_,A⟩ hD s h;have e:=ZfI tl' f g false .non tl'.length (le_refl _);rw [take_length] at e;rw [length_map,A.len,e] at h;exact q D H2 (s1.trans s) (s1.free hD) h
theorem lcAtR {tl':List Atm} (htl:∀ R:VK,(∀ a ps' H1,Zj H H1→H a=none→AtmsAt H1 a tl' ps'→R (.ref a) H1)→tl σ H R) (hn:tl'.length≤900) (f:Atm→Bool)
    (step:∀ p t H2,Zj H H2→t∈tl'→H2 p=some (.tup t.vals)→∀ R:Bool→Hp→Prop,(∀ H3,Zj H2 H3→R (f t) H3)→tt (some (.ref p)::ZR caps σ) H2 R)
    (elt:∀ x H2,Zj H H2→∀ R:VK,(∀ H3,Zj H2 H3→R x H3)→te (some x::ZR caps σ) H2 R)
    (q:∀ D ps' H2,Zj H H2→H D=none→AtmsAt H2 D (tl'.filter f) ps'→Q (.ref D) H2):tLC caps (Zct K tl) tt te σ H Q:=by
  refine Zjo (α:=List Addr) (fun a H1 ps'=>Zj H H1∧H a=none∧AtmsAt H1 a tl' ps') (fun ps'=>ps'.map V.ref) (fun R r=>htl R fun a ps' H1 s f A=>r a H1 ps' ⟨s,f,A⟩) (fun a H1 d h=>SqL.of h.2.2.lst) (fun a H1 d h=>by rw [length_map,h.2.2.len]; exact hn)
    (fun i=>(tl'[i]?.map f).getD false) (fun d i=>((d.map V.ref)[i]?).getD .non) ?_ ?_ ?_
  · rintro a H1 d i x H2 ⟨s1,_,A⟩ hx s R r;obtain ⟨p,t,rfl,ht,hp⟩:=(A.same s).at' hx;rw [ht] at r;exact step p t H2 (s1.trans s) (mem_of_getElem? ht) hp R r
  · rintro a H1 d i x H2 ⟨s1,_,A⟩ hx hf s R r;rw [hx] at r;exact elt x H2 (s1.trans s) R r
  · rintro a H1 d D H2 ⟨s1,_,A⟩ hD s h;rw [length_map,A.len] at h;obtain ⟨ps',A2⟩:=A.flt s f h;exact q D ps' H2 (s1.trans s) (s1.free hD) A2
end
theorem ZjH (bs:List Bool):(bs.map V.bl).all Zbw=true:=by
  rw [List.all_map,List.all_eq_true];intro b _;rfl
theorem Zkq (bs:List Bool):inV (.bl true) (bs.map V.bl)=bs.any id:=by
  unfold inV;rw [List.any_map];congr 1;funext b;cases b <;> rfl
theorem Zho {β:Type} (l:List Atm) (g:Str→β) (d:Str):(l.filter fun t=>t.who.isSome).map (fun t=>g (t.who.getD d))=(l.filterMap Atm.who).map g:=by
  induction l with
  | nil=>rfl
  | cons t r ih =>
    cases e:t.who with
    | none=>rw [filter_cons_of_neg (by rw [e]; decide),filterMap_cons,e,ih]
    | some n=>rw [filter_cons_of_pos (by rw [e]; rfl),map_cons,filterMap_cons,e,ih]; rfl
theorem ZjD (m:List (Str×Int)) (p:Str):has m p=true↔p∈m.map (·.1):=by
  unfold has yr;rw [isSome_map];rw [List.find?_isSome];simp only [decide_eq_true_eq,mem_map]
theorem Zh9 {m:List (Str×Int)} {p:Str} {v:Int} (h:(m.map (·.1)).Nodup):((ZgZ m p v).map (·.1)).Nodup:=by
  unfold ZgZ;split
  · rw [map_map];have e:m.map ((·.1)∘fun q=>if q.1=p then (q.1,v) else q)=m.map (·.1):=map_congr_left fun q _=>by
      show (if q.1=p then (q.1,v) else q).1=q.1;split <;> rfl
    rw [e];exact h
  · rename_i c;rw [map_append,nodup_append];refine ⟨h,by simp,fun a ha b hb e=>c ?_⟩;simp at hb;rw [ZjD,← hb,← e];exact ha
theorem ZeN:∀ (l m:List (Str×Int)),(m.map (·.1)).Nodup→((l.foldl Xj m).map (·.1)).Nodup
  | [],_,h=>h
  | q::r,m,h=>ZeN r (Xj m q) (Zh9 h)
theorem ZhN {S:Mo}:∀ (l m:List (Str×Int)),mOk S m→(∀ q∈l,has S.bs q.1=true∧0≤q.2∧q.2≤100)→mOk S (l.foldl Xj m)
  | [],_,h,_=>h
  | q::r,m,h,hl=>ZhN r (Xj m q) (h.step (hl q (by simp))) fun x hx=>hl x (mem_cons_of_mem _ hx)
theorem ZgC:∀ (l m:List (Str×Int)),(l.foldl Xj m).length≤m.length+l.length
  | [],m=>le_refl _
  | q::r,m=>by
    have:=ZgC r (Xj m q);have:=ZeG m q;rw [foldl_cons,length_cons];omega
theorem ZfS:∀ {m:List (Str×Int)} {q:Str×Int},(m.map (·.1)).Nodup→q∈m→yr m q.1=some q.2
  | x::r,q,h,hq=>by
    rw [map_cons,List.nodup_cons] at h;unfold yr;rw [find?_cons]
    by_cases e:x.1=q.1
    · rw [decide_eq_true e];rcases List.mem_cons.mp hq with rfl | hq
      · rfl
      · exact absurd (List.mem_map.mpr ⟨q,hq,e.symm⟩) h.1
    · rw [decide_eq_false e];rcases List.mem_cons.mp hq with rfl | hq
      · exact absurd rfl e
      · exact ZfS h.2 hq
theorem Zin (S:Mo) (h:Ho) (ts:List Atm):((mst S h ts).map (·.1)).Nodup:=ZeN _ [] List.nodup_nil
theorem ZiH {S:Mo} {m:List (Str×Int)} {i:Nat} {q:Str×Int} (e:m[i]? = some q):Zcy S (m.take (i+1))=Zcy S (m.take i)++List.replicate (q.2 - (nk S.bs q.1:Int)).toNat (Deed.birth q.1):=by
  unfold Zcy;rw [take_succ,e,List.flatMap_append];congr 1;show List.flatMap _ [q]=_;simp
theorem ZgM {S:Mo} {m:List (Str×Int)} (h:mOk S m):(Zcy S m).length≤m.length * 100:=by
  induction m with
  | nil=>exact le_refl _
  | cons q r ih =>
    unfold Zcy at ih ⊢;rw [List.flatMap_cons,length_append,length_replicate,length_cons];have:=ih fun x hx=>h x (mem_cons_of_mem _ hx);have:=h q (by simp);omega
theorem DeedsAt.tup_of {H:Hp} {l:Addr} {ds:List Deed} {ps:List Addr} (D:DeedsAt H l ds ps) {p:Addr} (h:p∈ps):∃ vs,H p=some (.tup vs):=by
  obtain ⟨i,hi⟩:=List.mem_iff_getElem?.mp h;have hj:i<ds.length:=by rw [← D.len]; exact (List.getElem?_eq_some_iff.mp hi).1
  exact ⟨_,D.at_ i p _ hi (getElem?_eq_getElem hj)⟩
theorem DeedsAt.ext {H:Hp} {l1 l2:Addr} {d1 d2:List Deed} {p1 p2:List Addr} (A:DeedsAt H l1 d1 p1) (B:DeedsAt H l2 d2 p2):DeedsAt (upd H l1 (.lst (p1.map V.ref++p2.map V.ref))) l1 (d1++d2) (p1++p2):=by
  refine A.app B Zd fun p hp o e=>?_;rw [Zh ?_]
  · exact e
  · rintro rfl;rcases List.mem_append.mp hp with hp | hp
    · obtain ⟨vs,z⟩:=A.tup_of hp;rw [A.lst] at z; cases z
    · obtain ⟨vs,z⟩:=B.tup_of hp;rw [A.lst] at z; cases z
theorem Zhi {H:Hp} {l p:Addr} {d:Deed} {k:Nat} (hp:H p=some (.tup d.vals)) (hl:H l=some (.lst (List.replicate k [V.ref p]).flatten)):DeedsAt H l (List.replicate k d) (List.replicate k p):=by
  refine ⟨?_,by rw [length_replicate,length_replicate],fun i q u h1 h2=>?_⟩
  · rw [hl,List.map_replicate];congr 2;clear hl
    induction k with
    | zero=>rfl
    | succ k ih=>rw [replicate_succ,flatten_cons,ih,replicate_succ]; rfl
  · have e1:=List.eq_of_mem_replicate (mem_of_getElem? h1);have e2:=List.eq_of_mem_replicate (mem_of_getElem? h2);rw [e1,e2];exact hp
theorem Zez {H:Hp} {l:Addr} {ds:List Deed} {ps:List Addr} (T:TupsAt H l (ds.map Deed.vals) ps):DeedsAt H l ds ps:=
  ⟨T.lst,by rw [T.len,length_map],fun i p d h1 h2=>T.at_ i p _ h1 (by rw [getElem?_map,h2]; rfl)⟩
structure DtX (H:Hp) (S:Mo) (xs:Unit) (RX:List Addr):Prop where
  d:Dated S
  e:RX=[]
theorem DtX.keep {H H':Hp} {S:Mo} {xs:Unit} {RX X:List Addr} (E:DtX H S xs RX) (_:Z3 X H H') (_:Dj RX X):DtX H' S xs RX:=⟨E.d,E.e⟩
theorem DtX.same {H H':Hp} {S:Mo} {xs:Unit} {RX:List Addr} (E:DtX H S xs RX) (_:Zj H H'):DtX H' S xs RX:=⟨E.d,E.e⟩
theorem DtX.step {H:Hp} {S:Mo} {xs:Unit} {RX:List Addr} {far:Int} {d:Deed} {i:Nat} (E:DtX H S xs RX) (hg:S.good far d) (_:S.Ok i):DtX H (S.step d) xs RX:=⟨E.d.step hg,E.e⟩
theorem DtX.live {H:Hp} {S:Mo} {xs:Unit} {RX:List Addr} (E:DtX H S xs RX):ZfQ H RX:=fun x hx=>by rw [E.e] at hx; cases hx
noncomputable def YdI (H:Hp) (n:Int) (l:Addr) (m:Nat) (σ:St) (H2:Hp):Prop:=∃ (j:Int) (ds:List Deed) (ps:List Addr),σ=[some (.int j),some (.ref l)]∧m=j.toNat∧j≤500∧Zj H H2∧H l=none∧DeedsAt H2 l ds ps∧(∀ x∈ps,H x=none)∧ds.length+j.toNat≤500∧(ydl n.toNat).map Deed.years=ds++(ydl j.toNat).map Deed.years
noncomputable def ZbV (H:Hp) (r l:Addr) (S:Mo) (h:Ho) (ts:List Atm) (tm:Int):Prop:=
  (whS S h ts (h.out S)≠("hangs":Str)∧H r=some (.tup [.str "sure", .ref l])∧H l=some (.lst [])) ∨
  (whS S h ts (h.out S)=("hangs":Str)∧∃ F ps,Za9 S h ts F∧JJ S h ts F tm=true∧H r=some (.tup [.str "late", .ref l])∧DeedsAt H l (stoL S h ts F tm) ps) ∨
  (whS S h ts (h.out S)=("hangs":Str)∧∃ F ss,Za9 S h ts F∧JJ S h ts F tm=false∧ss.Perm (ddl (Zec S h ts))∧PyProof.Rows.sortedS ss=true∧H r=some (.tup [.str "sure", .ref l])∧H l=some (.lst (ss.map V.str)))
theorem ZbV.same {H H':Hp} {r l:Addr} {S:Mo} {h:Ho} {ts:List Atm} {tm:Int} (J:ZbV H r l S h ts tm) (s:Zj H H'):ZbV H' r l S h ts tm:=by
  rcases J with J | J | J
  · exact .inl ⟨J.1,s _ _ J.2.1,s _ _ J.2.2⟩
  · obtain ⟨a,F,ps,b,c,d,e⟩:=J;exact .inr (.inl ⟨a,F,ps,b,c,s _ _ d,e.same s⟩)
  · obtain ⟨a,F,ss,b,c,d,e,f,g⟩:=J;exact .inr (.inr ⟨a,F,ss,b,c,d,e,s _ _ f,s _ _ g⟩)
theorem nam_ok {S:Mo} {h:Ho} {ts:List Atm} (W:Wf S.bs S.ds) (oh:h.ok S) (ok:∀ t∈ts,t.ok S):∀ c∈Zec S h ts,has S.bs c=true:=by
  intro c hc;rcases List.mem_append.mp hc with hc | hc
  · obtain ⟨n,h1,rfl⟩:=List.mem_map.mp hc;exact Zfu (ZgO oh ok n h1)
  · cases h with
    | one n=>cases hc
    | kids n a =>
      rcases List.mem_append.mp hc with hc | hc
      · exact Jp W (ZcB hc)
      · split at hc
        · rename_i c1;rw [List.mem_singleton.mp hc];unfold al at c1;rw [and_eq_true] at c1;exact c1.1
        · cases hc
structure JsAt (H:Hp) (lp:Addr) (S:Mo) (h:Ho) (ts:List Atm) (tms:List Int) (rs:List (Addr×Addr)):Prop where
  lst:H lp=some (.lst (rs.map fun q=>V.ref q.1))
  len:rs.length=tms.length
  at_:∀ (i:Nat) (q:Addr×Addr) (t:Int),rs[i]? = some q→tms[i]? = some t→ZbV H q.1 q.2 S h ts t
  ne:∀ q∈rs,q.2≠lp
end L2
set_option Elab.async false
set_option linter.all false
set_option maxRecDepth 100000
namespace L2
open PySem PySem.Spec
theorem Zbv {ss:List Str}:Yl ss=("hangs":Str)↔("failed":Str)∉ss∧("hangs":Str)∈ss:=by
  unfold Yl
  by_cases c:("failed":Str)∈ss
  · rw [if_pos c];exact ⟨fun z=>absurd z (by decide +kernel),fun z=>absurd c z.1⟩
  · rw [if_neg c]
    by_cases c2:("hangs":Str)∈ss
    · rw [if_pos c2];exact ⟨fun _=>⟨c,c2⟩,fun _=>rfl⟩
    · rw [if_neg c2];exact ⟨fun z=>absurd z (by decide +kernel),fun z=>absurd z.2 c2⟩
theorem ZfG {ss:List Str}:Yl ss=("failed":Str)↔("failed":Str)∈ss:=by
  unfold Yl
  by_cases c:("failed":Str)∈ss
  · rw [if_pos c]; exact ⟨fun _=>c,fun _=>rfl⟩
  · rw [if_neg c];refine ⟨fun z=>?_,fun z=>absurd z c⟩
    by_cases c2:("hangs":Str)∈ss
    · rw [if_pos c2] at z; exact absurd z (by decide +kernel)
    · rw [if_neg c2] at z; exact absurd z (by decide +kernel)
theorem ZeO {a b:List Str} (h:∀ x,x∈a↔x∈b):Yl a=Yl b:=by
  unfold Yl
  by_cases c:("failed":Str)∈a
  · rw [if_pos c,if_pos ((h _).mp c)]
  · rw [if_neg c,if_neg (fun z=>c ((h _).mpr z))]
    by_cases c2:("hangs":Str)∈a
    · rw [if_pos c2,if_pos ((h _).mp c2)]
    · rw [if_neg c2,if_neg (fun z=>c2 ((h _).mpr z))]
section
variable {S:Mo} {h:Ho} {ts ts':List Atm}
theorem Zdr {α β:Type} {f:α→β} {a b:List α} (h:∀ x,x∈a↔x∈b) (y:β):y∈a.map f↔y∈b.map f:=by
  rw [mem_map,mem_map];exact ⟨fun ⟨x,h1,h2⟩=>⟨x,(h x).mp h1,h2⟩,fun ⟨x,h1,h2⟩=>⟨x,(h x).mpr h1,h2⟩⟩
theorem ZfT (hm:∀ t,t∈ts↔t∈ts'):∀ t,t∈X2 h ts↔t∈X2 h ts':=by
  intro t;cases h with
  | one n=>show t∈ts++_↔t∈ts'++_; rw [mem_append,mem_append,hm t]
  | kids n a=>exact hm t
theorem Zcu (hm:∀ t,t∈ts↔t∈ts'):∀ t,t∈XJ S h ts↔t∈XJ S h ts':=by
  intro t;unfold XJ;rw [mem_filter,mem_filter,ZfT hm t]
theorem Zj2 (hm:∀ t,t∈ts↔t∈ts') (os:List Str):whS S h ts os=whS S h ts' os:=by
  cases h with
  | one n=>exact ZeO (Zdr (ZfT hm))
  | kids n a =>
    have e:=ZeO (Zdr (f:=Atm.stand S) hm);show (if _ then _ else _)=(if _ then _ else _);rw [e]
theorem ag_mem (hm:∀ t,t∈ts↔t∈ts'):∀ x,x∈agL S ts↔x∈agL S ts':=by
  intro x;unfold agL;refine Zdr (fun t=>?_) x;rw [mem_filter,mem_filter,hm t]
theorem ZgD (hm:∀ t,t∈ts↔t∈ts') {F:Int} (e:Za9 S h ts F):Za9 S h ts' F:=by
  obtain ⟨e0,h1,h2,h3⟩:=e;have key:∀ x,x∈S.y::e0::agL S ts↔x∈S.y::e0::agL S ts':=fun x=>by
    rw [mem_cons,mem_cons,mem_cons,mem_cons,ag_mem hm x]
  exact ⟨e0,h1,(key F).mp h2,fun x hx=>h3 x ((key x).mpr hx)⟩
theorem ZgB (hm:∀ t,t∈ts↔t∈ts') (F tm:Int):JJ S h ts F tm=JJ S h ts' F tm:=by
  unfold JJ;congr 1;rw [Bool.eq_iff_iff,any_eq_true,any_eq_true];exact ⟨fun ⟨t,a,b⟩=>⟨t,(Zcu hm t).mp a,b⟩,fun ⟨t,a,b⟩=>⟨t,(Zcu hm t).mpr a,b⟩⟩
theorem Zkj (hm:∀ t,t∈ts↔t∈ts'):∀ c,c∈Zec S h ts↔c∈Zec S h ts':=by
  intro c;have hw:∀ n,n∈Y6 S h ts↔n∈Y6 S h ts':=fun n=>by
    unfold Y6;rw [List.mem_filterMap,List.mem_filterMap];exact ⟨fun ⟨t,a,b⟩=>⟨t,(Zcu hm t).mp a,b⟩,fun ⟨t,a,b⟩=>⟨t,(Zcu hm t).mpr a,b⟩⟩
  unfold Zec;rw [mem_append,mem_append,Zdr hw c]
theorem Zga {a b:List Str} (na:a.Nodup) (nb:b.Nodup) (h:∀ x,x∈a↔x∈b):a.Perm b:=by
  rw [List.perm_iff_count];intro x;rw [na.count,nb.count]
  by_cases c:x∈a
  · rw [if_pos c,if_pos ((h x).mp c)]
  · rw [if_neg c,if_neg (fun z=>c ((h x).mpr z))]
theorem ZjR (hm:∀ t,t∈ts↔t∈ts'):(ddl (Zec S h ts)).Perm (ddl (Zec S h ts')):=
  Zga (ZcX _) (ZcX _) fun x=>by rw [ZfJ,ZfJ,Zkj hm x]
theorem Zcq {H:Hp} {r1 l1 r2 l2:Addr} {tm:Int} (W:Wf S.bs S.ds) (oh:h.ok S) (ok:∀ t∈ts,t.ok S) (hm:∀ t,t∈ts↔t∈ts') (J1:ZbV H r1 l1 S h ts tm) (J2:ZbV H r2 l2 S h ts' tm) :
    (H r1=some (.tup [.str "late", .ref l1])∧H r2=some (.tup [.str "late", .ref l2])) ∨
    (∃ ss:List Str,H r1=some (.tup [.str "sure", .ref l1])∧H r2=some (.tup [.str "sure", .ref l2])∧H l1=some (.lst (ss.map V.str))∧H l2=some (.lst (ss.map V.str))∧∀ c∈ss,PyData.strOk c=true):=by
  have ew:=Zj2 (S:=S) (h:=h) hm (h.out S);unfold ZbV at J2;rw [← ew] at J2;rcases J1 with J1 | J1 | J1
  · rcases J2 with J2 | J2 | J2
    · exact .inr ⟨[],J1.2.1,J2.2.1,J1.2.2,J2.2.2,fun c hc=>by cases hc⟩
    · exact absurd J2.1 J1.1
    · exact absurd J2.1 J1.1
  · obtain ⟨a,F,ps,b,c,d,e⟩:=J1;rcases J2 with J2 | J2 | J2
    · exact absurd a J2.1
    · obtain ⟨a2,F2,ps2,b2,c2,d2,e2⟩:=J2;exact .inl ⟨d,d2⟩
    · obtain ⟨a2,F2,ss2,b2,c2,_⟩:=J2;rw [← (ZgD hm b).uniq b2,← ZgB hm,c] at c2;cases c2
  · obtain ⟨a,F,ss,b,c,d,e,f,g⟩:=J1;rcases J2 with J2 | J2 | J2
    · exact absurd a J2.1
    · obtain ⟨a2,F2,ps2,b2,c2,_⟩:=J2;rw [← (ZgD hm b).uniq b2,← ZgB hm,c] at c2;cases c2
    · obtain ⟨a2,F2,ss2,b2,c2,d2,e2,f2,g2⟩:=J2;have ess:=ZiX (ZcX _) d (d2.trans (ZjR hm).symm) e e2;rw [← ess] at g2;exact .inr ⟨ss,f,f2,g,g2,fun c hc=>W.ok (nam_ok W oh ok c ((ZfJ _ c).mp (d.mem_iff.mp hc)))⟩
noncomputable def TagJ (S:Mo) (h:Ho) (ts:List Atm) (tm:Int) (g:Str):Prop:=
  (g="late"∧whS S h ts (h.out S)=("hangs":Str)∧∃ F,Za9 S h ts F∧JJ S h ts F tm=true)∨(g="sure"∧(whS S h ts (h.out S)≠("hangs":Str)∨∃ F,Za9 S h ts F∧JJ S h ts F tm=false))
theorem ZbV.tagJ {H:Hp} {r l:Addr} {tm:Int} (J:ZbV H r l S h ts tm):∃ g,H r=some (.tup [.str g, .ref l])∧TagJ S h ts tm g:=by
  rcases J with J | J | J
  · exact ⟨"sure",J.2.1, .inr ⟨rfl, .inl J.1⟩⟩
  · obtain ⟨a,F,ps,b,c,d,e⟩:=J;exact ⟨"late",d, .inl ⟨rfl,a,F,b,c⟩⟩
  · obtain ⟨a,F,ss,b,c,d,e,f,g⟩:=J;exact ⟨"sure",f, .inr ⟨rfl, .inr ⟨F,b,c⟩⟩⟩
theorem Zeg {F F' tm:Int} (hF:F'≤F):∀ t,XZ S F tm t=true→XZ S F' tm t=true
  | .year y,e=>decide_eq_true (by have:=of_decide_eq_true e; omega)
  | .comes _,_=>rfl
  | .born n,e=>e
  | .dead n,e=>e
  | .age n a,e=>e
theorem ZjI {t:Atm} {F F':Int} (ht:t∈ts) (e:Za9 S h ts F) (e':Za9 S h [t] F'):F'≤F:=by
  obtain ⟨e0,h1,h2,h3⟩:=e;obtain ⟨e1,h1',h2',h3'⟩:=e';obtain rfl:=h1.uniq h1';refine h3 F' ?_;rcases List.mem_cons.mp h2' with z | z
  · rw [z]; simp
  rcases List.mem_cons.mp z with z | z
  · rw [z]; simp
  refine mem_cons_of_mem _ (mem_cons_of_mem _ ?_);unfold agL at z ⊢;obtain ⟨t',a,b⟩:=List.mem_map.mp z;obtain ⟨a1,a2⟩:=List.mem_filter.mp a;rw [List.mem_singleton.mp a1] at a2 b;exact List.mem_map.mpr ⟨t,List.mem_filter.mpr ⟨ht,a2⟩,b⟩
theorem ZjU {n:Str} {a tm:Int} {os:List Str} (W:Wf S.bs S.ds) (on:okN S n) (h:Zhj S tm (.kids n a)=true) (hf:clS S n a os≠("failed":Str)):clS S n a os=("hangs":Str):=by
  have h':(if has S.bs n=false then true else al S.bs S.ds n && decide (a>tm))=true:=h;have key:al S.bs S.ds (nr S.bs n)=true→clS S n a os=("hangs":Str):=fun z=>by unfold clS; rw [z,Bool.true_or,if_pos rfl]
  cases hk:has S.bs n with
  | true =>
    rw [if_neg (by rw [hk]; decide),and_eq_true] at h';refine key ?_;rw [ZaA (XU on.1) hk];exact h'.1
  | false =>
    cases ha:al S.bs S.ds (nr S.bs n) with
    | true=>exact key ha
    | false =>
      refine absurd ?_ hf;have e1:Z8 S n a os=[]:=by unfold Z8 Zb3; rw [Zbt W hk]; rfl
      have e2:Xt S n a os=false:=by unfold Xt Zb3; rw [Zbt W hk]; rfl
      unfold clS;rw [ha,e1,e2];rfl
theorem ZgP {n:Str} {os:List Str}:whS S (.one n) ts os=("hangs":Str)↔(∀ t∈X2 (.one n) ts,t.stand S≠("failed":Str))∧∃ t∈X2 (.one n) ts,t.stand S=("hangs":Str):=by
  show Yl _=_↔_;rw [Zbv,mem_map,mem_map];exact ⟨fun ⟨a,b⟩=>⟨fun t ht z=>a ⟨t,ht,z⟩,b⟩,fun ⟨a,b⟩=>⟨fun ⟨t,ht,z⟩=>a t ht z,b⟩⟩
theorem ZeX {n:Str} {a:Int} {os:List Str}:whS S (.kids n a) ts os=("hangs":Str)↔(∀ t∈ts,t.stand S≠("failed":Str))∧clS S n a os≠("failed":Str)∧((∃ t∈ts,t.stand S=("hangs":Str))∨clS S n a os=("hangs":Str)):=by
  have e:whS S (.kids n a) ts os=(if Yl (ts.map (Atm.stand S))=("failed":Str) then ("failed":Str) else Yl [Yl (ts.map (Atm.stand S)),clS S n a os]):=rfl;have hfl:Yl (ts.map (Atm.stand S))=("failed":Str)↔∃ t∈ts,t.stand S=("failed":Str):=by rw [ZfG,mem_map]
  have hhg:Yl (ts.map (Atm.stand S))=("hangs":Str)↔(∀ t∈ts,t.stand S≠("failed":Str))∧∃ t∈ts,t.stand S=("hangs":Str):=by
    rw [Zbv,mem_map,mem_map];exact ⟨fun ⟨a,b⟩=>⟨fun t ht z=>a ⟨t,ht,z⟩,b⟩,fun ⟨a,b⟩=>⟨fun ⟨t,ht,z⟩=>a t ht z,b⟩⟩
  rw [e]
  by_cases c:Yl (ts.map (Atm.stand S))=("failed":Str)
  · rw [if_pos c];refine ⟨fun z=>absurd z (by decide +kernel),fun z=>?_⟩;obtain ⟨t,h1,h2⟩:=hfl.mp c;exact absurd h2 (z.1 t h1)
  · rw [if_neg c,Zbv];have nf:∀ t∈ts,t.stand S≠("failed":Str):=fun t ht z=>c (hfl.mpr ⟨t,ht,z⟩);simp only [mem_cons,List.mem_nil_iff,or_false,not_or];constructor
    · rintro ⟨⟨_,h2⟩,h3⟩;refine ⟨nf,fun z=>h2 z.symm,?_⟩;rcases h3 with h3 | h3
      · exact .inl (hhg.mp h3.symm).2
      · exact .inr h3.symm
    · rintro ⟨_,h2,h3⟩;refine ⟨⟨fun z=>c z.symm,fun z=>h2 z.symm⟩,?_⟩;rcases h3 with h3 | h3
      · exact .inl (hhg.mpr ⟨nf,h3⟩).symm
      · exact .inr h3.symm
theorem Zcw {t:Atm}:t∈XJ S h ts↔t∈X2 h ts∧t.stand S=("hangs":Str):=by
  unfold XJ;rw [mem_filter];exact ⟨fun z=>⟨z.1,of_decide_eq_true z.2⟩,fun z=>⟨z.1,decide_eq_true z.2⟩⟩
theorem Zit {F tm:Int} (W:Wf S.bs S.ds) (oh:h.ok S) (ne:ts≠[]) (hw:whS S h ts (h.out S)=("hangs":Str)) (hF:Za9 S h ts F) (hl:JJ S h ts F tm=true) :
    ∃ t∈ts,whS S h [t] (h.out S)=("hangs":Str)∧∀ F',Za9 S h [t] F'→JJ S h [t] F' tm=true:=by
  unfold JJ at hl;rw [or_eq_true,any_eq_true] at hl;obtain ⟨t0,ht0⟩:∃ t0,t0∈ts:=by
    cases ts with
    | nil=>exact absurd rfl ne
    | cons x r=>exact ⟨x,by simp⟩
  have mk:∀ t∈ts,∀ u∈XJ S h [t],(∀ F',F'≤F→XZ S F' tm u=true)→∀ F',Za9 S h [t] F'→JJ S h [t] F' tm=true:=fun t ht u hu hlu F' hF'=>by
    unfold JJ;rw [or_eq_true,any_eq_true];exact .inl ⟨u,hu,hlu F' (ZjI ht hF hF')⟩
  cases h with
  | one n =>
    obtain ⟨nf,_⟩:=ZgP.mp hw;have sub:∀ t∈ts,∀ u∈X2 (.one n) [t],u∈X2 (.one n) ts:=fun t ht u hu=>by
      rcases List.mem_append.mp hu with z | z
      · rw [List.mem_singleton.mp z]; exact mem_append_left _ ht
      · exact mem_append_right _ z
    rcases hl with ⟨t,h1,h2⟩ | hl
    · obtain ⟨h1a,h1b⟩:=Zcw.mp h1;rcases List.mem_append.mp h1a with ht | ht
      · have hin:t∈X2 (.one n) [t]:=mem_append_left _ (List.mem_singleton.mpr rfl);exact ⟨t,ht,ZgP.mpr ⟨fun u hu=>nf u (sub t ht u hu),t,hin,h1b⟩,mk t ht t (Zcw.mpr ⟨hin,h1b⟩) fun F' hF'=>Zeg hF' t h2⟩
      · have hin:t∈X2 (.one n) [t0]:=mem_append_right _ ht;exact ⟨t0,ht0,ZgP.mpr ⟨fun u hu=>nf u (sub t0 ht0 u hu),t,hin,h1b⟩,mk t0 ht0 t (Zcw.mpr ⟨hin,h1b⟩) fun F' hF'=>Zeg hF' t h2⟩
    · cases hl
  | kids n a =>
    obtain ⟨nf,nc,_⟩:=ZeX.mp hw;rcases hl with ⟨t,h1,h2⟩ | hl
    · obtain ⟨ht,h1b⟩:=Zcw.mp h1;have ht:t∈ts:=ht;have hin:t∈X2 (.kids n a) [t]:=List.mem_singleton.mpr rfl;exact ⟨t,ht,ZeX.mpr ⟨fun u hu=>by rw [List.mem_singleton.mp hu]; exact nf t ht,nc, .inl ⟨t,List.mem_singleton.mpr rfl,h1b⟩⟩,mk t ht t (Zcw.mpr ⟨hin,h1b⟩) fun F' hF'=>Zeg hF' t h2⟩
    · refine ⟨t0,ht0,ZeX.mpr ⟨fun u hu=>by rw [List.mem_singleton.mp hu]; exact nf t0 ht0,nc, .inr (ZjU W oh.1 hl nc)⟩,fun F' _=>?_⟩;unfold JJ;rw [hl,Bool.or_true]
theorem ZiR {tm:Int} {g:Str} {gs:List Str} (W:Wf S.bs S.ds) (oh:h.ok S) (ne:ts≠[]) (hg:TagJ S h ts tm g) (hl:gs.length=ts.length) (hgs:∀ (i:Nat) (t:Atm) (x:Str),ts[i]? = some t→gs[i]? = some x→TagJ S h [t] tm x) (hn:("late":Str)∉gs):g="sure":=by
  rcases hg with ⟨_,a,F,b,c⟩ | ⟨e,_⟩
  · obtain ⟨t,ht,hw,hall⟩:=Zit W oh ne a b c;obtain ⟨i,hi⟩:=List.mem_iff_getElem?.mp ht;have hi2:i<gs.length:=by rw [hl]; exact (List.getElem?_eq_some_iff.mp hi).1
    have hx:=hgs i t gs[i] hi (getElem?_eq_getElem hi2);rcases hx with ⟨e,_⟩ | ⟨_,z | ⟨F',b',c'⟩⟩
    · exact absurd (e▸getElem_mem hi2) hn
    · exact absurd hw z
    · rw [hall F' b'] at c'; cases c'
  · exact e
end
open PySem PySem.Spec
theorem Zep (xs:List V) (k:Nat):ZfL xs none (some (k:Int))=xs.take k:=by
  unfold ZfL;rw [HT.sIx_none,HT.sIx_nat,List.drop_zero,Nat.sub_zero];rcases Nat.le_total k xs.length with h | h
  · rw [Nat.min_eq_left h]
  · rw [Nat.min_eq_right h,take_length,List.take_of_length_le h]
theorem AtmsAt.take {H H':Hp} {l l':Addr} {tl:List Atm} {ps:List Addr} {k:Nat} (A:AtmsAt H l tl ps) (s:Zj H H') (h:H' l'=some (.lst ((ps.map V.ref).take k))):AtmsAt H' l' (tl.take k) (ps.take k):=
  ⟨by rw [h,List.map_take],by rw [length_take,length_take,A.len],fun i p t h1 h2=>by
    have hi:i<k:=by
      have:=(List.getElem?_eq_some_iff.mp h1).1;rw [length_take] at this;omega
    rw [List.getElem?_take,if_pos hi] at h1 h2;exact s _ _ (A.at_ i p t h1 h2)⟩
theorem AtmsAt.rev {H H':Hp} {l l':Addr} {tl:List Atm} {ps:List Addr} (A:AtmsAt H l tl ps) (s:Zj H H') (h:H' l'=some (.lst (ps.map V.ref).reverse)):AtmsAt H' l' tl.reverse ps.reverse:=
  ⟨by rw [h,List.map_reverse],by rw [length_reverse,length_reverse,A.len],fun i p t h1 h2=>by
    have hi:i<ps.length:=by
      have:=(List.getElem?_eq_some_iff.mp h1).1;rw [length_reverse] at this;exact this
    rw [List.getElem?_reverse hi] at h1;rw [List.getElem?_reverse (by rw [← A.len]; exact hi),← A.len] at h2;exact s _ _ (A.at_ _ p t h1 h2)⟩
theorem AtmsAt.app2 {H:Hp} {l1 l2 l3:Addr} {d1 d2:List Atm} {p1 p2:List Addr} (A:AtmsAt H l1 d1 p1) (B:AtmsAt H l2 d2 p2) {H':Hp} (s:Zj H H') (hl:H' l3=some (.lst (p1.map V.ref++p2.map V.ref))):AtmsAt H' l3 (d1++d2) (p1++p2):=by
  refine ⟨by rw [hl,map_append],by simp [A.len,B.len],fun i q u h1 h2=>s _ _ ?_⟩;rcases lt_or_ge i p1.length with hi | hi
  · rw [getElem?_append_left hi] at h1;rw [getElem?_append_left (by rw [← A.len]; exact hi)] at h2;exact A.at_ i q u h1 h2
  · rw [getElem?_append_right hi] at h1;rw [getElem?_append_right (by rw [← A.len]; exact hi),← A.len] at h2;exact B.at_ _ q u h1 h2
noncomputable def notC:Atm→Bool
  | .comes _=>false
  | _=>true
theorem ZeF {P:Nat→Str→Prop}:∀ {js:List Nat} {ys:List V},Paired (fun j v=>∃ g:Str,v=V.str g∧P j g) js ys→∃ gs:List Str,ys=gs.map V.str∧gs.length=js.length∧∀ (i j:Nat) (g:Str),js[i]? = some j→gs[i]? = some g→P j g
  | _,_, .nil=>⟨[],rfl,rfl,fun i j g h=>by cases h⟩
  | _,_, .cons ⟨g,e,p⟩ t=>by
    obtain ⟨gs,e1,e2,e3⟩:=ZeF t;refine ⟨g::gs,by rw [e,e1]; rfl,by rw [length_cons,length_cons,e2],fun i j x h1 h2=>?_⟩;cases i with
    | zero=>cases h1; cases h2; exact p
    | succ i=>exact e3 i j x h1 h2
section
variable {K:Frag} {caps:List (Str×Nat)} {tt:TT} {tl te:TE} {σ:St} {H:Hp} {Q:VK}
theorem lcAtQ {tl':List Atm} (htl:∀ R:VK,(∀ a ps' H1,Zj H H1→AtmsAt H1 a tl' ps'→R (.ref a) H1)→tl σ H R) (hn:tl'.length≤900) (f:Atm→Bool)
    (step:∀ p t H2,Zj H H2→t∈tl'→H2 p=some (.tup t.vals)→∀ R:Bool→Hp→Prop,(∀ H3,Zj H2 H3→R (f t) H3)→tt (some (.ref p)::ZR caps σ) H2 R)
    (elt:∀ x H2,Zj H H2→∀ R:VK,(∀ H3,Zj H2 H3→R x H3)→te (some x::ZR caps σ) H2 R)
    (q:∀ D ps' H2,Zj H H2→H D=none→AtmsAt H2 D (tl'.filter f) ps'→Q (.ref D) H2):tLC caps (Zct K tl) tt te σ H Q:=by
  refine Zjo (α:=List Addr) (fun a H1 ps'=>Zj H H1∧AtmsAt H1 a tl' ps') (fun ps'=>ps'.map V.ref) (fun R r=>htl R fun a ps' H1 s A=>r a H1 ps' ⟨s,A⟩) (fun a H1 d h=>SqL.of h.2.lst) (fun a H1 d h=>by rw [length_map,h.2.len]; exact hn)
    (fun i=>(tl'[i]?.map f).getD false) (fun d i=>((d.map V.ref)[i]?).getD .non) ?_ ?_ ?_
  · rintro a H1 d i x H2 ⟨s1,A⟩ hx s R r;obtain ⟨p,t,rfl,ht,hp⟩:=(A.same s).at' hx;rw [ht] at r;exact step p t H2 (s1.trans s) (mem_of_getElem? ht) hp R r
  · rintro a H1 d i x H2 ⟨s1,A⟩ hx hf s R r;rw [hx] at r;exact elt x H2 (s1.trans s) R r
  · rintro a H1 d D H2 ⟨s1,A⟩ hD s h;rw [length_map,A.len] at h;obtain ⟨ps',A2⟩:=A.flt s f h;exact q D ps' H2 (s1.trans s) (s1.free hD) A2
end
open PySem PySem.Spec PyProof.Rows
section
variable {X:Cx} {e st:Expr} {te ts:TE} {p2 pos:Pos}
noncomputable def tRev (K:Frag) (te ts:TE):TE:=fun σ H Q=>te σ H fun x H1=>ts σ H1 fun y H2=>∃ a xs,y = .int (-1)∧x = .ref a∧SqL K H2 a xs∧∀ p,H2 p=none→Q (.ref p) (upd H2 p (.lst xs.reverse))
theorem ZF.rev:∀ {xs:List V} {us:List Value},ZF xs us→ZF xs.reverse us.reverse
  | _,_, .nil => .nil
  | _,_, .cons r t=>by rw [List.reverse_cons,List.reverse_cons]; exact (ZF.rev t).append (.cons r .nil)
theorem pe_rev (he:PE X e te) (hs:PE X st ts):PE X (.Subscript e (.Slice none none (some st) p2) pos) (tRev X.K te ts):=by
  intro pins s σ H Q I h;refine Subscript_ (thn (he pins s σ H _ I h) fun v s1 zz9=>?_);obtain ⟨x,H1,I1,r1,q1⟩:=zz9;refine wpAny_Slice (wpAny_evalPart_none (wpAny_evalPart_none (wpAny_evalPart_some (thn (hs pins s1 σ H1 _ I1 q1) fun vs s3 zz9=>?_))));obtain ⟨y,H3,I3,r3,a,xs,ey,ex,hx,q⟩:=zz9;subst ey ex;cases r1;obtain ⟨t3,rfl⟩:=r3;have I4:Inv X pins σ H3 { s3 with heap:=s3.heap.push { cls := .type "slice",data := .fields #[.none, .none, .int (-1) t3] } }:=I3.kept (t':=s3.toks) fun b ob q=>Heap.get?_push_of_some _ q;obtain ⟨its,r,ht,hz⟩:=I4.list hx;have hlen:=r.length;show wpAny (model X.prog X.w) X.A (subscriptTail e (.Slice none none (some st) p2) (.ref a) (.ref s3.heap.objs.size)) (EP X pins σ Q) X.xe { s3 with heap:=s3.heap.push { cls := .type "slice",data := .fields #[.none, .none, .int (-1) t3] } };refine tail_any (ops:=[.ref a, .ref s3.heap.objs.size]) ht.isList.typeIs slot_list_getitem.lookup ?_ (by with_unfolding_all rfl);refine wpAny_getItem_list_slice (lo:=none) (hi:=none) (st:=some (-1)) ht.isList (Heap.IsSliceOf.new ..) .none .none (.int ..) (by decide) ?_ (by rw [size_toArray] <;> omega);rw [PySem.W.krv_pick];refine ⟨.ref _,_,I4.laid (t':=s3.toks) (o := .lst xs.reverse) (fun b ob q=>Heap.get?_push_of_some _ q) (le_refl _) ?_,rfl,q _ (I4.hok.fresh (le_refl _))⟩;exact ⟨by rw [length_reverse]; exact hz,_,0,ZF.rev r,Heap.get?_push_size _ rfl⟩
end
end L2
set_option maxHeartbeats 0
namespace L2
open PySem PySem.W
theorem us0 (us:List Value) (h:us.length=0):us=[]:=List.eq_nil_of_length_eq_zero h
theorem us1 (us:List Value) (h:us.length=1):∃ a0,us=[a0]:=by
  cases us with
  | nil=>cases h
  | cons a0 us=>exact ⟨a0,by rw [us0 us (Nat.succ.inj h)]⟩
theorem us2 (us:List Value) (h:us.length=2):∃ a0 a1,us=[a0,a1]:=by
  cases us with
  | nil=>cases h
  | cons a0 us =>
    obtain ⟨a1,e⟩:=us1 us (Nat.succ.inj h);exact ⟨a0,a1,by rw [e]⟩
theorem us3 (us:List Value) (h:us.length=3):∃ a0 a1 a2,us=[a0,a1,a2]:=by
  cases us with
  | nil=>cases h
  | cons a0 us =>
    obtain ⟨a1,a2,e⟩:=us2 us (Nat.succ.inj h);exact ⟨a0,a1,a2,by rw [e]⟩
theorem us4 (us:List Value) (h:us.length=4):∃ a0 a1 a2 a3,us=[a0,a1,a2,a3]:=by
  cases us with
  | nil=>cases h
  | cons a0 us =>
    obtain ⟨a1,a2,a3,e⟩:=us3 us (Nat.succ.inj h);exact ⟨a0,a1,a2,a3,by rw [e]⟩
theorem walkX_of {q:Program} {loose:List Str} {XP:(Str→Option Value)→Heap→Prop} {K:Params→Frag} {as:List Addr} {n t:Nat} {r:RowW} {d:DefRec} {kwd:List (Str×Expr)} {run:Value→List Value→Sem Value} (e:∀ P,as=(K P).map (·.1))
    (h:WalkO q loose XP (fun w h=>(K w.params).In h) r d kwd run):WalkX q loose XP (X.obsZ as) (X.valZ K n t) r d kwd run:=
  fun w s₀ s₁ mg mb G y a o pm cd doc dV kV h1 h2 h3 h4 h5 h6 args vals as' L hpre hlay hrd hwl hlo =>
    h w s₀ s₁ mg mb G (InK.keeps w _ _ (X.z_facts e y).2.1 L.keeps) a o pm cd doc dV kV h1 h2 h3 h4 h5 h6 args vals as' hpre hlay hrd hwl hlo
end L2
namespace My
open PySem L2
noncomputable def top (i:Nat):Stmt:=PySem.Challenge.pw_deadhand_k26_needs_joined.main.body.getD i (.Pass ⟨0,0,0,0⟩)
noncomputable def Xb (s:Stmt) (j:Nat):Stmt:=match s with
  | .ClassDef _ _ _ body _ _ _ _ _ _ _=>body.getD j (.Pass ⟨0,0,0,0⟩)
  | _ => .Pass ⟨0,0,0,0⟩
noncomputable def ZfF (s:Stmt):List Stmt:=match s with
  | .For _ _ b _ _=>b
  | .While _ b _ _=>b
  | .If _ b _ _=>b
  | _=>[]
noncomputable abbrev ZaG:Stmt:=top 32
theorem ZeE:FnScope ["text","low","high","sign"] ["text","low","high"] (Zb ZaG):=⟨rfl,rfl,rfl,by decide +kernel,rfl,by decide +kernel,by decide +kernel⟩
noncomputable abbrev XD:Stmt:=top 33
theorem Zfa:FnScope ["word"] ["word"] (Zb XD):=⟨rfl,rfl,rfl,by decide +kernel,rfl,by decide +kernel,by decide +kernel⟩
noncomputable abbrev YT:Stmt:=top 35
theorem ZdG:FnScope ["text"] ["text"] (Zb YT):=⟨rfl,rfl,rfl,by decide +kernel,rfl,by decide +kernel,by decide +kernel⟩
noncomputable abbrev ZbD:Stmt:=top 36
theorem Zce:FnScope ["name","word","numbers","number"] ["name"] (Zb ZbD):=⟨rfl,rfl,rfl,by decide +kernel,rfl,by decide +kernel,by decide +kernel⟩
noncomputable abbrev Xy:Stmt:=top 37
theorem Ze6:FnScope ["name"] ["name"] (Zb Xy):=⟨rfl,rfl,rfl,by decide +kernel,rfl,by decide +kernel,by decide +kernel⟩
noncomputable abbrev Yr:Stmt:=Xb (top 38) 16
theorem X8:FnScope ["self","name","beginning"] ["self","name"] (Zb Yr):=⟨rfl,rfl,rfl,by decide +kernel,rfl,by decide +kernel,by decide +kernel⟩
noncomputable abbrev Yn:Stmt:=top 13
theorem ZaE:FnScope ["world","name","found"] ["world","name"] (Zb Yn):=⟨rfl,rfl,rfl,by decide +kernel,rfl,by decide +kernel,by decide +kernel⟩
noncomputable abbrev Y0:Stmt:=Xb (top 38) 8
theorem ZdN:FnScope ["self","name"] ["self","name"] (Zb Y0):=⟨rfl,rfl,rfl,by decide +kernel,rfl,by decide +kernel,by decide +kernel⟩
noncomputable abbrev ZZ:Stmt:=Xb (top 38) 3
theorem ZbM:FnScope ["self","name"] ["self","name"] (Zb ZZ):=⟨rfl,rfl,rfl,by decide +kernel,rfl,by decide +kernel,by decide +kernel⟩
noncomputable abbrev YF:Stmt:=Xb (top 38) 12
theorem Zdc:FnScope ["self","name","year"] ["self","name","year"] (Zb YF):=⟨rfl,rfl,rfl,by decide +kernel,rfl,by decide +kernel,by decide +kernel⟩
noncomputable abbrev XH:Stmt:=Xb (top 50) 8
theorem Zfc:FnScope ["self","name"] ["self","name"] (Zb XH):=⟨rfl,rfl,rfl,by decide +kernel,rfl,by decide +kernel,by decide +kernel⟩
noncomputable abbrev Y4:Stmt:=Xb (top 38) 9
theorem ZdQ:FnScope ["self","name"] ["self","name"] (Zb Y4):=⟨rfl,rfl,rfl,by decide +kernel,rfl,by decide +kernel,by decide +kernel⟩
noncomputable abbrev XG:Stmt:=top 14
theorem Zfb:FnScope ["world","name","age"] ["world","name","age"] (Zb XG):=⟨rfl,rfl,rfl,by decide +kernel,rfl,by decide +kernel,by decide +kernel⟩
noncomputable abbrev YA:Stmt:=top 15
theorem Za5:FnScope ["world","atom","kind","name"] ["world","atom"] (Zb YA):=⟨rfl,rfl,rfl,by decide +kernel,rfl,by decide +kernel,by decide +kernel⟩
noncomputable abbrev Yq:Stmt:=Xb (top 50) 7
theorem ZcH:FnScope ["self","word"] ["self","word"] (Zb Yq):=⟨rfl,rfl,rfl,by decide +kernel,rfl,by decide +kernel,by decide +kernel⟩
noncomputable abbrev Xg:Stmt:=top 16
theorem ZbS:FnScope ["world","atom","kind"] ["world","atom"] (Zb Xg):=⟨rfl,rfl,rfl,by decide +kernel,rfl,by decide +kernel,by decide +kernel⟩
noncomputable abbrev X9:Stmt:=top 17
theorem Zf3:FnScope ["stands"] ["stands"] (Zb X9):=⟨rfl,rfl,rfl,by decide +kernel,rfl,by decide +kernel,by decide +kernel⟩
noncomputable abbrev ZbC:Stmt:=top 18
theorem Zi1:FnScope ["world","atoms"] ["world","atoms"] (Zb ZbC):=⟨rfl,rfl,rfl,by decide +kernel,rfl,by decide +kernel,by decide +kernel⟩
noncomputable abbrev Yh:Stmt:=Xb (top 38) 13
theorem Zcg:FnScope ["self","name"] ["self","name"] (Zb Yh):=⟨rfl,rfl,rfl,by decide +kernel,rfl,by decide +kernel,by decide +kernel⟩
noncomputable abbrev ZbE:Stmt:=top 20
theorem Zi2:FnScope ["world","name"] ["world","name"] (Zb ZbE):=⟨rfl,rfl,rfl,by decide +kernel,rfl,by decide +kernel,by decide +kernel⟩
noncomputable abbrev Jd:Stmt:=top 21
theorem Zf5:FnScope ["world","name"] ["world","name"] (Zb Jd):=⟨rfl,rfl,rfl,by decide +kernel,rfl,by decide +kernel,by decide +kernel⟩
noncomputable abbrev JU:Stmt:=top 22
theorem ZgW:FnScope ["world","name","out"] ["world","name","out"] (Zb JU):=⟨rfl,rfl,rfl,by decide +kernel,rfl,by decide +kernel,by decide +kernel⟩
noncomputable abbrev Jn:Stmt:=top 23
theorem Zc1:FnScope ["world","name","age","out","child"] ["world","name","age","out"] (Zb Jn):=⟨rfl,rfl,rfl,by decide +kernel,rfl,by decide +kernel,by decide +kernel⟩
noncomputable abbrev JT:Stmt:=top 24
theorem ZgV:FnScope ["world","name","age","out"] ["world","name","age","out"] (Zb JT):=⟨rfl,rfl,rfl,by decide +kernel,rfl,by decide +kernel,by decide +kernel⟩
noncomputable abbrev Jc:Stmt:=top 25
theorem Zf4:FnScope ["world","name"] ["world","name"] (Zb Jc):=⟨rfl,rfl,rfl,by decide +kernel,rfl,by decide +kernel,by decide +kernel⟩
noncomputable abbrev YU:Stmt:=top 26
theorem ZdH:FnScope ["world","name","age","out"] ["world","name","age","out"] (Zb YU):=⟨rfl,rfl,rfl,by decide +kernel,rfl,by decide +kernel,by decide +kernel⟩
noncomputable abbrev Xx:Stmt:=top 34
theorem Ze5:FnScope ["word"] ["word"] (Zb Xx):=⟨rfl,rfl,rfl,by decide +kernel,rfl,by decide +kernel,by decide +kernel⟩
noncomputable abbrev Yi:Stmt:=Xb (top 38) 0
theorem Zch:FnScope ["self"] ["self"] (Zb Yi):=⟨rfl,rfl,rfl,by decide +kernel,rfl,by decide +kernel,by decide +kernel⟩
noncomputable abbrev Y1:Stmt:=Xb (top 38) 2
theorem ZdO:FnScope ["self","name","year"] ["self","name","year"] (Zb Y1):=⟨rfl,rfl,rfl,by decide +kernel,rfl,by decide +kernel,by decide +kernel⟩
noncomputable abbrev Z0:Stmt:=Xb (top 38) 4
theorem ZbN:FnScope ["self","name"] ["self","name"] (Zb Z0):=⟨rfl,rfl,rfl,by decide +kernel,rfl,by decide +kernel,by decide +kernel⟩
noncomputable abbrev YE:Stmt:=Xb (top 38) 5
theorem Zdb:FnScope ["self","word","born"] ["self","word","born"] (Zb YE):=⟨rfl,rfl,rfl,by decide +kernel,rfl,by decide +kernel,by decide +kernel⟩
noncomputable abbrev Y3:Stmt:=Xb (top 38) 6
theorem Zbm:FnScope ["self","name","year","child"] ["self","name","year"] (Zb Y3):=⟨rfl,rfl,rfl,by decide +kernel,rfl,by decide +kernel,by decide +kernel⟩
noncomputable abbrev Y2:Stmt:=Xb (top 38) 7
theorem ZdP:FnScope ["self","name","year"] ["self","name","year"] (Zb Y2):=⟨rfl,rfl,rfl,by decide +kernel,rfl,by decide +kernel,by decide +kernel⟩
noncomputable abbrev Ys:Stmt:=Xb (top 38) 10
theorem ZcI:FnScope ["self","name"] ["self","name"] (Zb Ys):=⟨rfl,rfl,rfl,by decide +kernel,rfl,by decide +kernel,by decide +kernel⟩
noncomputable abbrev YZ:Stmt:=Xb (top 38) 14
theorem ZdM:FnScope ["self"] ["self"] (Zb YZ):=⟨rfl,rfl,rfl,by decide +kernel,rfl,by decide +kernel,by decide +kernel⟩
noncomputable abbrev YD:Stmt:=Xb (top 38) 15
theorem Zda:FnScope ["self"] ["self"] (Zb YD):=⟨rfl,rfl,rfl,by decide +kernel,rfl,by decide +kernel,by decide +kernel⟩
noncomputable abbrev Jm:Stmt:=top 41
theorem Zf6:FnScope ["holder"] ["holder"] (Zb Jm):=⟨rfl,rfl,rfl,by decide +kernel,rfl,by decide +kernel,by decide +kernel⟩
noncomputable abbrev YR:Stmt:=top 42
theorem ZdD:FnScope ["world","holder"] ["world","holder"] (Zb YR):=⟨rfl,rfl,rfl,by decide +kernel,rfl,by decide +kernel,by decide +kernel⟩
noncomputable abbrev ZaH:Stmt:=top 43
theorem Zh5:FnScope ["holder","atoms"] ["holder","atoms"] (Zb ZaH):=⟨rfl,rfl,rfl,by decide +kernel,rfl,by decide +kernel,by decide +kernel⟩
noncomputable abbrev YQ:Stmt:=top 44
theorem Zbj:FnScope ["world","holder","atoms","out","how"] ["world","holder","atoms","out"] (Zb YQ):=⟨rfl,rfl,rfl,by decide +kernel,rfl,by decide +kernel,by decide +kernel⟩
noncomputable abbrev Yz:Stmt:=top 49
theorem Zc8:FnScope ["number","low","high"] ["number","low","high"] (Zb Yz):=⟨rfl,rfl,rfl,by decide +kernel,rfl,by decide +kernel,by decide +kernel⟩
noncomputable abbrev Yg:Stmt:=Xb (top 50) 0
theorem Zcf:FnScope ["self","year"] ["self","year"] (Zb Yg):=⟨rfl,rfl,rfl,by decide +kernel,rfl,by decide +kernel,by decide +kernel⟩
noncomputable abbrev ZY:Stmt:=Xb (top 50) 2
theorem ZbL:FnScope ["self","many"] ["self","many"] (Zb ZY):=⟨rfl,rfl,rfl,by decide +kernel,rfl,by decide +kernel,by decide +kernel⟩
noncomputable abbrev YC:Stmt:=Xb (top 50) 3
theorem Zc9:FnScope ["self","word","age"] ["self","word","age"] (Zb YC):=⟨rfl,rfl,rfl,by decide +kernel,rfl,by decide +kernel,by decide +kernel⟩
noncomputable abbrev YY:Stmt:=Xb (top 50) 4
theorem ZdL:FnScope ["self","name"] ["self","name"] (Zb YY):=⟨rfl,rfl,rfl,by decide +kernel,rfl,by decide +kernel,by decide +kernel⟩
noncomputable abbrev YW:Stmt:=Xb (top 50) 5
theorem ZdJ:FnScope ["self","name"] ["self","name"] (Zb YW):=⟨rfl,rfl,rfl,by decide +kernel,rfl,by decide +kernel,by decide +kernel⟩
noncomputable abbrev YX:Stmt:=Xb (top 50) 6
theorem ZdK:FnScope ["self","word"] ["self","word"] (Zb YX):=⟨rfl,rfl,rfl,by decide +kernel,rfl,by decide +kernel,by decide +kernel⟩
noncomputable abbrev XF:Stmt:=top 54
theorem ZaZ:FnScope ["world","name","age","out","births"] ["world","name","age"] (Zb XF):=⟨rfl,rfl,rfl,by decide +kernel,rfl,by decide +kernel,by decide +kernel⟩
noncomputable abbrev XE:Stmt:=top 55
theorem ZaY:FnScope ["world","holder","atoms","lives","years"] ["world","holder","atoms"] (Zb XE):=⟨rfl,rfl,rfl,by decide +kernel,rfl,by decide +kernel,by decide +kernel⟩
noncomputable abbrev YV:Stmt:=top 56
theorem ZdI:FnScope ["world","name"] ["world","name"] (Zb YV):=⟨rfl,rfl,rfl,by decide +kernel,rfl,by decide +kernel,by decide +kernel⟩
noncomputable abbrev YB:Stmt:=top 57
theorem JG:FnScope ["world","atom","end","term","kind","away"] ["world","atom","end","term"] (Zb YB):=⟨rfl,rfl,rfl,by decide +kernel,rfl,by decide +kernel,by decide +kernel⟩
noncomputable abbrev Yo:Stmt:=top 58
theorem ZcG:FnScope ["world","name","age","term"] ["world","name","age","term"] (Zb Yo):=⟨rfl,rfl,rfl,by decide +kernel,rfl,by decide +kernel,by decide +kernel⟩
noncomputable abbrev JX:Stmt:=top 59
theorem ZgX:FnScope ["world","holder","atoms"] ["world","holder","atoms"] (Zb JX):=⟨rfl,rfl,rfl,by decide +kernel,rfl,by decide +kernel,by decide +kernel⟩
noncomputable abbrev JV:Stmt:=top 60
theorem ZdF:FnScope ["world","holder","atoms","term","end"] ["world","holder","atoms","term"] (Zb JV):=⟨rfl,rfl,rfl,by decide +kernel,rfl,by decide +kernel,by decide +kernel⟩
noncomputable abbrev YO:Stmt:=top 61
theorem Zaf:FnScope ["many","deeds"] ["many"] (Zb YO):=⟨rfl,rfl,rfl,by decide +kernel,rfl,by decide +kernel,by decide +kernel⟩
noncomputable abbrev Yp:Stmt:=top 62
theorem ZaF:FnScope ["world","name","above"] ["world","name"] (Zb Yp):=⟨rfl,rfl,rfl,by decide +kernel,rfl,by decide +kernel,by decide +kernel⟩
noncomputable abbrev ZO:Stmt:=top 63
theorem ZW:FnScope ["world","holder","atoms","names","pairs","most","parent","number"] ["world","holder","atoms"] (Zb ZO):=⟨rfl,rfl,rfl,by decide +kernel,rfl,by decide +kernel,by decide +kernel⟩
noncomputable abbrev Ja:Stmt:=top 64
theorem Zar:FnScope ["world","holder","atoms","term","most","deeds","parent"] ["world","holder","atoms","term"] (Zb Ja):=⟨rfl,rfl,rfl,by decide +kernel,rfl,by decide +kernel,by decide +kernel⟩
noncomputable abbrev Jb:Stmt:=top 65
theorem ZcZ:FnScope ["world","holder","atoms","names"] ["world","holder","atoms"] (Zb Jb):=⟨rfl,rfl,rfl,by decide +kernel,rfl,by decide +kernel,by decide +kernel⟩
noncomputable abbrev ZaJ:Stmt:=top 66
theorem Zh7:FnScope ["world","holder","atoms","term"] ["world","holder","atoms","term"] (Zb ZaJ):=⟨rfl,rfl,rfl,by decide +kernel,rfl,by decide +kernel,by decide +kernel⟩
noncomputable abbrev YS:Stmt:=top 68
theorem ZdE:FnScope ["_law_script","_law_k"] ["_law_script","_law_k"] (Zb YS):=⟨rfl,rfl,rfl,by decide +kernel,rfl,by decide +kernel,by decide +kernel⟩
noncomputable abbrev Jf:Stmt:=top 69
theorem Zbk:FnScope ["_law_cell","_law_place","_law_one","_law_two"] ["_law_cell","_law_place"] (Zb Jf):=⟨rfl,rfl,rfl,by decide +kernel,rfl,by decide +kernel,by decide +kernel⟩
noncomputable abbrev Je:Stmt:=top 70
theorem Y7:FnScope ["_law_n","_law_size","_law_word_here","_law_k"] ["_law_n"] (Zb Je):=⟨rfl,rfl,rfl,by decide +kernel,rfl,by decide +kernel,by decide +kernel⟩
noncomputable abbrev XB:Stmt:=top 71
theorem Ze8:FnScope ["_law_year"] ["_law_year"] (Zb XB):=⟨rfl,rfl,rfl,by decide +kernel,rfl,by decide +kernel,by decide +kernel⟩
noncomputable abbrev Jl:Stmt:=top 72
theorem Zc0:FnScope ["_law_model_here","_law_name","_law_found"] ["_law_model_here","_law_name"] (Zb Jl):=⟨rfl,rfl,rfl,by decide +kernel,rfl,by decide +kernel,by decide +kernel⟩
noncomputable abbrev Xf:Stmt:=top 73
theorem Zet:FnScope ["_law_model_here"] ["_law_model_here"] (Zb Xf):=⟨rfl,rfl,rfl,by decide +kernel,rfl,by decide +kernel,by decide +kernel⟩
noncomputable abbrev Jg:Stmt:=top 74
theorem Jy:FnScope ["_law_model_here","_law_deed","_law_clock","_law_born","_law_dead","_law_came"] ["_law_model_here","_law_deed"] (Zb Jg):=⟨rfl,rfl,rfl,by decide +kernel,rfl,by decide +kernel,by decide +kernel⟩
noncomputable abbrev Zz:Stmt:=top 75
theorem ZV:FnScope ["_law_model_here","_law_n","_law_far","_law_some","_law_kind","_law_word_here","_law_name"] ["_law_model_here","_law_n","_law_far"] (Zb Zz):=⟨rfl,rfl,rfl,by decide +kernel,rfl,by decide +kernel,by decide +kernel⟩
noncomputable abbrev Xz:Stmt:=top 76
theorem Xe:FnScope ["_law_n","_law_deeds","_law_words","_law_k","_law_word_here"] ["_law_n"] (Zb Xz):=⟨rfl,rfl,rfl,by decide +kernel,rfl,by decide +kernel,by decide +kernel⟩
noncomputable abbrev ZaI:Stmt:=top 77
theorem Zh6:FnScope ["_law_world","_law_deed"] ["_law_world","_law_deed"] (Zb ZaI):=⟨rfl,rfl,rfl,by decide +kernel,rfl,by decide +kernel,by decide +kernel⟩
noncomputable abbrev Jh:Stmt:=top 78
theorem Y8:FnScope ["_law_model_here","_law_n","_law_names","_law_name","_law_k"] ["_law_model_here","_law_n"] (Zb Jh):=⟨rfl,rfl,rfl,by decide +kernel,rfl,by decide +kernel,by decide +kernel⟩
noncomputable abbrev Ji:Stmt:=top 79
theorem Zas:FnScope ["_law_model_here","_law_n","_law_kind","_law_name"] ["_law_model_here","_law_n"] (Zb Ji):=⟨rfl,rfl,rfl,by decide +kernel,rfl,by decide +kernel,by decide +kernel⟩
noncomputable abbrev XA:Stmt:=top 80
theorem Ze7:FnScope ["_law_model_here","_law_n","_law_most"] ["_law_model_here","_law_n","_law_most"] (Zb XA):=⟨rfl,rfl,rfl,by decide +kernel,rfl,by decide +kernel,by decide +kernel⟩
noncomputable abbrev Jk:Stmt:=top 81
theorem Zbl:FnScope ["_law_model_here","_law_name"] ["_law_model_here","_law_name"] (Zb Jk):=⟨rfl,rfl,rfl,by decide +kernel,rfl,by decide +kernel,by decide +kernel⟩
noncomputable abbrev Z1:Stmt:=top 82
theorem Jt:FnScope ["_law_model_here","_law_n","_law_name","_law_near_here"] ["_law_model_here","_law_n"] (Zb Z1):=⟨rfl,rfl,rfl,by decide +kernel,rfl,by decide +kernel,by decide +kernel⟩
noncomputable abbrev Yf:Stmt:=top 83
theorem Zat:FnScope ["_law_model_here","_law_n","_law_some"] ["_law_model_here","_law_n"] (Zb Yf):=⟨rfl,rfl,rfl,by decide +kernel,rfl,by decide +kernel,by decide +kernel⟩
noncomputable abbrev XC:Stmt:=top 84
theorem Ze9:FnScope ["_law_one","_law_other"] ["_law_one","_law_other"] (Zb XC):=⟨rfl,rfl,rfl,by decide +kernel,rfl,by decide +kernel,by decide +kernel⟩
noncomputable abbrev Zag:Stmt:=top 85
theorem Xl:FnScope ["_law_script","_law_n","_law_model_here","_law_world","_law_deeds","_law_k","_law_m","_law_deed","_law_holder_here","_law_atoms","_law_term","_law_alone","_law_whole"] ["_law_script"] (Zb Zag):=⟨rfl,rfl,rfl,by decide +kernel,rfl,by decide +kernel,by decide +kernel⟩
structure Txt (K:Frag) (g:Ga) (mg:Str→Option Value):Prop where
  z_int:mg "int"=none
  z_len:mg "len"=none
  z_range:mg "range"=none
  z_list:mg "list"=none
  z_str:mg "str"=none
  z_min:mg "min"=none
  z_max:mg "max"=none
  z_sorted:mg "sorted"=none
  z_set:mg "set"=none
  QdC:mg "ValueError"=none
  QdD:mg "LandError"=some (.ref g.LandError)
  Qbi:mg "NoText"=some (.ref g.NoText)
  Qdd:mg "OutOfBound"=some (.ref g.OutOfBound)
  QcL:mg "Taken"=some (.ref g.Taken)
  QcM:mg "NoPerson"=some (.ref g.NoPerson)
  Qde:mg "Gone"=some (.ref g.Gone)
  Qdf:mg "TooDeep"=some (.ref g.TooDeep)
  Qdg:XAt K g.Gone
  QcN:XAt K g.NoPerson
  Qbj:XAt K g.NoText
  Qdh:XAt K g.OutOfBound
  QcO:XAt K g.Taken
  Qdi:XAt K g.TooDeep
  Qdj:mg "Lives"=some (.ref g.Lives)
  Qab:Cls K g.Lives
  Qam:Jq K g.Lives "births"
  QaB:Jq K g.Lives "deaths"
  QaC:Jq K g.Lives "broods"
  Qdk:mg "World"=some (.ref g.World)
  Qaa:Cls K g.World
  Qau:Jq K g.World "year"
  Qah:Jq K g.World "lives"
  QaZ:Jq K g.World "happened"
  QaD:mg "MET"=some (.str "met" g.MET)
  QaE:mg "FAILED"=some (.str "failed" g.FAILED)
  Qak:mg "HANGS"=some (.str "hangs" g.HANGS)
  Qdl:mg "LONGEST_WORD"=some (.int 8 g.LONGEST_WORD)
  Qdm:mg "LONGEST_NUMBER"=some (.int 2 g.LONGEST_NUMBER)
  QcP:mg "MOST_NUMBERS"=some (.int 5 g.MOST_NUMBERS)
  Qdn:mg "BARRED"=some (.ref g.BARRED)
  QcQ:∀ H,SqT K H g.BARRED [.str "crown", .str "kids"]
  Qdo:mg "LATE"=some (.str "late" g.LATE)
  Qdp:mg "LAST_FIRST_YEAR"=some (.int 9999 g.LAST_FIRST_YEAR)
  Qbk:mg "MOST_YEARS"=some (.int 60 g.MOST_YEARS)
  Qdq:mg "OLDEST"=some (.int 120 g.OLDEST)
  QcR:mg "SURE"=some (.str "sure" g.SURE)
  QcS:mg "ABOUT_PEOPLE"=some (.ref g.ABOUT_PEOPLE)
  Qal:∀ H,SqT K H g.ABOUT_PEOPLE [.str "born", .str "dead", .str "age"]
local macro_rules | `(tactic| walk_at "ss") => `(tactic| first | exact rfl | assumption | exact ZE (Nat.le_of_ble_eq_true rfl) | (show (0:Int)<_; decide) | exact ⟨by decide,by decide⟩ | exact .inl ⟨by decide,by decide⟩ | exact .inr ⟨by decide,by decide⟩ | exact Yx.k (k:=Sum.inr _) (by assumption) | exact SqL.of (by assumption) | exact SqL.of Zd | exact SqT.of Zd | exact SqT.of (by assumption) | exact .inl (SqL.of (by assumption)) | exact .inr (SqT.of (by assumption)) | exact .inl ⟨_,SqL.of (by assumption),rfl⟩ | exact ⟨_,SqL.of (by assumption)⟩ | exact ⟨_,SqL.of Zd⟩ | exact .inl ⟨rfl,_,SqL.of (by assumption)⟩ | exact Txt.Qab (by assumption) | exact Txt.Qam (by assumption) | exact Txt.QaB (by assumption) | exact Txt.QaC (by assumption) | exact Txt.Qaa (by assumption) | exact Txt.Qau (by assumption) | exact Txt.Qah (by assumption) | exact Txt.QaZ (by assumption) | exact Txt.QcQ (by assumption) | exact Txt.Qal (by assumption) | decide)
local macro_rules | `(tactic| walk_at "rd") => `(tactic| repeat (first | (apply And.intro; · walk_at "ss") | apply Exists.intro))
local macro_rules | `(tactic| walk_at "go") => `(tactic| repeat (first | (apply And.intro; · walk_at "ss") | ((fail_if_success (show ∃ _:Nat→Nat→St→Hp→Prop,_)); (fail_if_success (show ∃ _:Nat→St→Hp→Prop,_)); apply Exists.intro)))
local macro_rules | `(tactic| walk_at "v") => `(tactic| first | exact Or.inl rfl | exact Or.inr (Or.inl rfl) | exact Or.inr (Or.inr rfl))
local macro_rules | `(tactic| walk_at "u") => `(tactic| first | exact .inl rfl | exact .inr rfl | assumption)
local macro_rules | `(tactic| walk_at "n") => `(tactic| first | exact nobehind _ (by decide) (by decide) | rfl)
local macro_rules | `(tactic| walk_at "w") => `(tactic| exact ⟨by rfl,by walk_at "v",by decide,by decide⟩)
theorem qv {X:Cx} (i:Nat) {x:Str} {pos:Pos} (h:X.N[i]? = some x∧Vis X.env.scope x∧(x == ("__debug__":Str))=false∧(x == ("__classdict__":Str))=false):PE X (.Name x pos) (Ze2 i):=@pv X i x pos h.1 h.2.1 h.2.2.1 h.2.2.2
local macro_rules|`(tactic|walk_at "0")=>`(tactic|exact @qv _ 0 _ _ (by walk_at "w"))
local macro_rules|`(tactic|walk_at "1")=>`(tactic|exact @qv _ 1 _ _ (by walk_at "w"))
local macro_rules|`(tactic|walk_at "2")=>`(tactic|exact @qv _ 2 _ _ (by walk_at "w"))
local macro_rules|`(tactic|walk_at "3")=>`(tactic|exact @qv _ 3 _ _ (by walk_at "w"))
local macro_rules|`(tactic|walk_at "4")=>`(tactic|exact @qv _ 4 _ _ (by walk_at "w"))
local macro_rules|`(tactic|walk_at "5")=>`(tactic|exact @qv _ 5 _ _ (by walk_at "w"))
local macro_rules|`(tactic|walk_at "6")=>`(tactic|exact @qv _ 6 _ _ (by walk_at "w"))
local macro_rules|`(tactic|walk_at "7")=>`(tactic|exact @qv _ 7 _ _ (by walk_at "w"))
local macro_rules|`(tactic|walk_at "8")=>`(tactic|exact @qv _ 8 _ _ (by walk_at "w"))
local macro_rules|`(tactic|walk_at "9")=>`(tactic|exact @qv _ 9 _ _ (by walk_at "w"))
local macro_rules|`(tactic|walk_at "10")=>`(tactic|exact @qv _ 10 _ _ (by walk_at "w"))
local macro_rules|`(tactic|walk_at "11")=>`(tactic|exact @qv _ 11 _ _ (by walk_at "w"))
local macro_rules|`(tactic|walk_at "12")=>`(tactic|exact @qv _ 12 _ _ (by walk_at "w"))
noncomputable def ZbA (K:Frag) (g:Ga):Sp:=fun vs H Q E=>∃ (x:Str) (a b:Nat),vs=[.str x, .str ⟨#[a]⟩, .str ⟨#[b]⟩]∧Q (.bl (x.cps.toList.all (inR a b))) H
noncomputable def JM (K:Frag) (g:Ga):Sp:=fun vs H Q E=>∃ x:Str,vs=[.str x]∧x.length≤200∧Q (.bl (gw x)) H
noncomputable def J7 (K:Frag) (g:Ga):Sp:=fun vs H Q E=>∃ x:Str,vs=[.str x]∧x.length≤200∧Q (.bl (gn x)) H
noncomputable def Zcb (K:Frag) (g:Ga):Sp:=fun vs H Q E=>∃ x:Str,vs=[.str x]∧x.length≤200∧(pok x=false→∀ H',Zj H H'→E (.ref g.NoText) none H')∧(pok x=true→∀ l H',Zj H H'→H l=none→H' l=some (.lst (pvl x))→Q (.ref l) H')
noncomputable def ZaR (K:Frag) (g:Ga):Sp:=fun vs H Q E=>∃ x:Str,vs=[.str x]∧x.length≤200∧∀ H',Zj H H'→Q (.str (up x)) H'
noncomputable def ZU (K:Frag) (g:Ga):Sp:=fun vs H Q E=>∃ (b:Addr) (bs ds:List (Str×Int)) (R:List Addr) (n:Str),vs=[.ref b, .str n]∧LivesAt g.Lives H b bs ds R∧n.length≤200∧(pok n=false→∀ H',Zj H H'→E (.ref g.NoText) none H')∧(pok n=true→∀ H',Zj H H'→Q (.str (nr bs n)) H')
noncomputable def X3 (K:Frag) (g:Ga):Sp:=fun vs H Q E=>∃ (w:Addr) (S:Mo) (R:List Addr) (n:Str),vs=[.ref w, .str n]∧WorldAt g H w S R∧n.length≤200∧(pok n=false→∀ H',Zj H H'→E (.ref g.NoText) none H')∧(pok n=true→nr S.bs n=("":Str)→∀ H',Zj H H'→E (.ref g.NoPerson) none H')∧(pok n=true→nr S.bs n≠("":Str)→∀ H',Zj H H'→Q (.str (nr S.bs n)) H')
noncomputable def Z5 (K:Frag) (g:Ga):Sp:=fun vs H Q E=>∃ (b:Addr) (bs ds:List (Str×Int)) (R:List Addr) (n:Str),vs=[.ref b, .str n]∧LivesAt g.Lives H b bs ds R∧Q (.bl (has bs n)) H
noncomputable def ZS (K:Frag) (g:Ga):Sp:=fun vs H Q E=>∃ (b:Addr) (bs ds:List (Str×Int)) (R:List Addr) (n:Str),vs=[.ref b, .str n]∧LivesAt g.Lives H b bs ds R∧(has bs n=false→E (.ref g.NoPerson) none H)∧(has bs n=true→Q .non H)
noncomputable def JF (K:Frag) (g:Ga):Sp:=fun vs H Q E=>∃ (b:Addr) (bs ds:List (Str×Int)) (R:List Addr) (n:Str) (t:Int),vs=[.ref b, .str n, .int t]∧LivesAt g.Lives H b bs ds R∧(has bs n=false→E (.ref g.NoPerson) none H)∧(∀ y,yr bs n=some y→Q (.int ((yr ds n).getD t - y)) H)
noncomputable def JP (K:Frag) (g:Ga):Sp:=fun vs H Q E=>∃ (w:Addr) (S:Mo) (R:List Addr) (n:Str),vs=[.ref w, .str n]∧WorldAt g H w S R∧(has S.bs n=false→E (.ref g.NoPerson) none H)∧(∀ y,yr S.bs n=some y→Q (.int ((yr S.ds n).getD S.y - y)) H)
noncomputable def ZK (K:Frag) (g:Ga):Sp:=fun vs H Q E=>∃ (b:Addr) (bs ds:List (Str×Int)) (R:List Addr) (n:Str),vs=[.ref b, .str n]∧LivesAt g.Lives H b bs ds R∧Q (.bl (al bs ds n)) H
noncomputable def JO (K:Frag) (g:Ga):Sp:=fun vs H Q E=>∃ (w:Addr) (S:Mo) (R:List Addr) (n:Str) (a y:Int),vs=[.ref w, .str n, .int a]∧WorldAt g H w S R∧has S.bs n=true∧yr S.bs n=some y∧Q (.str (ZdA S n y a)) H
noncomputable def JA (K:Frag) (g:Ga):Sp:=fun vs H Q E=>∃ (w:Addr) (S:Mo) (R:List Addr) (p:Addr) (t:Atm) (n:Str),vs=[.ref w, .ref p]∧WorldAt g H w S R∧H p=some (.tup t.vals)∧t.who=some n∧n.length≤200∧(∀ e,t.bad S=some e→∀ H',Zj H H'→E (.ref (e.ad g)) none H')∧(t.bad S=none→∀ H',Zj H H'→Q (.str (t.stand S)) H')
noncomputable def X7 (K:Frag) (g:Ga):Sp:=fun vs H Q E=>∃ (w:Addr) (S:Mo) (R:List Addr) (n:Str),vs=[.ref w, .str n]∧WorldAt g H w S R∧Q (((yr S.cs n).map V.int).getD .non) H
noncomputable def Js (K:Frag) (g:Ga):Sp:=fun vs H Q E=>∃ (w:Addr) (S:Mo) (R:List Addr) (p:Addr) (t:Atm),vs=[.ref w, .ref p]∧WorldAt g H w S R∧H p=some (.tup t.vals)∧(∀ n,t.who=some n→n.length≤200)∧(∀ e,t.bad S=some e→∀ H',Zj H H'→E (.ref (e.ad g)) none H')∧(t.bad S=none→∀ H',Zj H H'→Q (.str (t.stand S)) H')
noncomputable def Zal (K:Frag) (g:Ga):Sp:=fun vs H Q E=>∃ (l:Addr) (ss:List Str),vs=[.ref l]∧SqL K H l (ss.map V.str)∧Q (.str (Yl ss)) H
noncomputable def ZdB (K:Frag) (g:Ga):Sp:=fun vs H Q E=>∃ (w:Addr) (S:Mo) (R:List Addr) (l:Addr) (ts:List Atm) (ps:List Addr),vs=[.ref w, .ref l]∧WorldAt g H w S R∧AtmsAt H l ts ps∧(∀ t∈ts,t.ok S)∧ts.length≤900∧∀ H',Zj H H'→Q (.str (Yl (ts.map (Atm.stand S)))) H'
noncomputable def Yu (K:Frag) (g:Ga):Sp:=fun vs H Q E=>∃ (b:Addr) (bs ds:List (Str×Int)) (R:List Addr) (n:Str),vs=[.ref b, .str n]∧LivesAt g.Lives H b bs ds R∧(has bs n=false→E (.ref g.NoPerson) none H)∧(has bs n=true→∀ l H',Zj H H'→H l=none→H' l=some (.lst (YH n (nk bs n)))→Q (.ref l) H')
noncomputable def Zcc (K:Frag) (g:Ga):Sp:=fun vs H Q E=>∃ (w:Addr) (S:Mo) (R:List Addr) (n:Str),vs=[.ref w, .str n]∧WorldAt g H w S R∧∀ l H',Zj H H'→H l=none→H' l=some (.lst ((Xm S n).map V.str))→Q (.ref l) H'
noncomputable def Zan (K:Frag) (g:Ga):Sp:=fun vs H Q E=>∃ (w:Addr) (S:Mo) (R:List Addr) (n:Str),vs=[.ref w, .str n]∧WorldAt g H w S R∧S.bs.length≤900∧∀ l H',Zj H H'→H l=none→H' l=some (.lst ((Yv S n).map V.str))→Q (.ref l) H'
noncomputable def ZaS (K:Frag) (g:Ga):Sp:=fun vs H Q E=>∃ (w:Addr) (S:Mo) (R:List Addr) (n:Str) (o:Addr) (os:List Str),vs=[.ref w, .str n, .ref o]∧WorldAt g H w S R∧SqL K H o (os.map V.str)∧S.bs.length≤900∧∀ l H',Zj H H'→H l=none→H' l=some (.lst ((Zb3 S n os).map V.str))→Q (.ref l) H'
noncomputable def Zaq (K:Frag) (g:Ga):Sp:=fun vs H Q E=>∃ (w:Addr) (S:Mo) (R:List Addr) (n:Str) (a:Int) (o:Addr) (os:List Str),vs=[.ref w, .str n, .int a, .ref o]∧WorldAt g H w S R∧SqL K H o (os.map V.str)∧S.bs.length≤900∧∀ H',Zj H H'→Q (.bl (Xt S n a os)) H'
noncomputable def J4 (K:Frag) (g:Ga):Sp:=fun vs H Q E=>∃ (w:Addr) (S:Mo) (R:List Addr) (n:Str) (a:Int) (o:Addr) (os:List Str),vs=[.ref w, .str n, .int a, .ref o]∧WorldAt g H w S R∧SqL K H o (os.map V.str)∧S.bs.length≤900∧∀ l H',Zj H H'→H l=none→H' l=some (.lst ((Z8 S n a os).map V.str))→Q (.ref l) H'
noncomputable def Zam (K:Frag) (g:Ga):Sp:=fun vs H Q E=>∃ (w:Addr) (S:Mo) (R:List Addr) (n:Str),vs=[.ref w, .str n]∧WorldAt g H w S R∧pok n=true∧∀ H',Zj H H'→Q (.bl (al S.bs S.ds (nr S.bs n))) H'
noncomputable def J8 (K:Frag) (g:Ga):Sp:=fun vs H Q E=>∃ (w:Addr) (S:Mo) (R:List Addr) (n:Str) (a:Int) (o:Addr) (os:List Str),vs=[.ref w, .str n, .int a, .ref o]∧WorldAt g H w S R∧SqL K H o (os.map V.str)∧S.bs.length≤900∧pok n=true∧∀ H',Zj H H'→Q (.str (clS S n a os)) H'
noncomputable def JL (K:Frag) (g:Ga):Sp:=fun vs H Q E=>∃ x:Str,vs=[.str x]∧x.length≤200∧(gw x=false→E (.ref g.NoText) none H)∧(gw x=true→Q .non H)
noncomputable def XR (K:Frag) (g:Ga):Sp:=fun vs H Q E=>∃ (b dx:Addr),vs=[.ref b]∧H b=some (.ins g.Lives dx [])∧∀ R H',Z3 [b] H H'→(∀ a∈R,a=b∨H a=none)→LivesAt g.Lives H' b [] [] R→Q .non H'
noncomputable def XQ (K:Frag) (g:Ga):Sp:=fun vs H Q E=>∃ (b d1 d2 d3:Addr) (bs ds:List (Str×Int)) (ws:List (Str×Addr×Nat)) (n:Str) (y:Int),vs=[.ref b, .str n, .int y]∧Book g.Lives H b d1 d2 d3 bs ds ws∧has bs n=false∧Xc (brs ws) (Sum.inr n:Key)=none∧bs.length≤900∧ws.length≤900∧∀ l H',H l=none→Z3 [d1,d3] H H'→Book g.Lives H' b d1 d2 d3 (bs++[(n,y)]) ds (ws++[(n,l,0)])→Q .non H'
noncomputable def Yy (K:Frag) (g:Ga):Sp:=fun vs H Q E=>∃ (b:Addr) (bs ds:List (Str×Int)) (R:List Addr) (n:Str),vs=[.ref b, .str n]∧LivesAt g.Lives H b bs ds R∧(has bs n=false→E (.ref g.NoPerson) none H)∧(has bs n=true→has ds n=true→E (.ref g.Gone) none H)∧(has bs n=true→has ds n=false→Q .non H)
noncomputable def JE (K:Frag) (g:Ga):Sp:=fun vs H Q E=>∃ (b:Addr) (bs ds:List (Str×Int)) (R:List Addr) (n:Str) (y:Int),vs=[.ref b, .str n, .int y]∧LivesAt g.Lives H b bs ds R∧n.length≤200∧bs.length<800∧(gw n=false→E (.ref g.NoText) none H)∧(gw n=true→has bs n=true→E (.ref g.Taken) none H)∧(gw n=true→has bs n=false→∀ R' H',Z3 R H H'→ZaB H R R'→LivesAt g.Lives H' b (bs++[(n,y)]) ds R'→Q .non H')
noncomputable def Zae (K:Frag) (g:Ga):Sp:=fun vs H Q E=>∃ (b:Addr) (bs ds:List (Str×Int)) (R:List Addr) (n:Str) (y:Int),vs=[.ref b, .str n, .int y]∧LivesAt g.Lives H b bs ds R∧bs.length<800∧nk bs n<99∧(has bs n=false→E (.ref g.NoPerson) none H)∧(has bs n=true→has ds n=true→E (.ref g.Gone) none H)∧(has bs n=true→has ds n=false→5≤Xv n→E (.ref g.TooDeep) none H)∧(has bs n=true→has ds n=false→Xv n<5→∀ R' H',Z3 R H H'→ZaB H R R'→LivesAt g.Lives H' b (bs++[(kid n (nk bs n),y)]) ds R'→Q (.str (kid n (nk bs n))) H')
noncomputable def Zad (K:Frag) (g:Ga):Sp:=fun vs H Q E=>∃ (b:Addr) (bs ds:List (Str×Int)) (R:List Addr) (n:Str) (y:Int),vs=[.ref b, .str n, .int y]∧LivesAt g.Lives H b bs ds R∧ds.length<800∧(has bs n=false→E (.ref g.NoPerson) none H)∧(has bs n=true→has ds n=true→E (.ref g.Gone) none H)∧(has bs n=true→has ds n=false→∀ H',Z3 R H H'→LivesAt g.Lives H' b bs (ds++[(n,y)]) R→Q .non H')
noncomputable def Xd (K:Frag) (g:Ga):Sp:=fun vs H Q E=>∃ (b:Addr) (bs ds:List (Str×Int)) (R:List Addr) (n:Str),vs=[.ref b, .str n]∧LivesAt g.Lives H b bs ds R∧(has bs n=false→E (.ref g.NoPerson) none H)∧(∀ y,yr bs n=some y→Q (.int y) H)
noncomputable def Zbi (K:Frag) (g:Ga):Sp:=fun vs H Q E=>∃ (b:Addr) (bs ds:List (Str×Int)) (R:List Addr),vs=[.ref b]∧LivesAt g.Lives H b bs ds R∧∀ l H',Zj H H'→H l=none→H' l=some (.lst (bs.map fun p=>V.str p.1))→Q (.ref l) H'
noncomputable def JD (K:Frag) (g:Ga):Sp:=fun vs H Q E=>∃ (b:Addr) (bs ds:List (Str×Int)) (R:List Addr),vs=[.ref b]∧LivesAt g.Lives H b bs ds R∧∀ l H',Zj H H'→H l=none→H' l=some (.lst ((bs.filter fun p => !has ds p.1).map fun p=>V.str p.1))→Q (.ref l) H'
noncomputable def Yt (K:Frag) (g:Ga):Sp:=fun vs H Q E=>∃ (p:Addr) (h:Ho),vs=[.ref p]∧H p=some (.tup h.vals)∧Q (.bl h.isK) H
noncomputable def XM (K:Frag) (g:Ga):Sp:=fun vs H Q E=>∃ (w:Addr) (S:Mo) (R:List Addr) (p:Addr) (h:Ho),vs=[.ref w, .ref p]∧WorldAt g H w S R∧S.bs.length≤98∧H p=some (.tup h.vals)∧∀ l H',Zj H H'→H l=none→H' l=some (.lst ((h.out S).map V.str))→Q (.ref l) H'
noncomputable def ZbB (K:Frag) (g:Ga):Sp:=fun vs H Q E=>∃ (p l:Addr) (h:Ho) (ts:List Atm) (ps:List Addr),vs=[.ref p, .ref l]∧H p=some (.tup h.vals)∧AtmsAt H l ts ps∧ts.length≤100∧∀ l' ps' H',Zj H H'→H l'=none→AtmsAt H' l' (X2 h ts) ps'→Q (.ref l') H'
noncomputable def J0 (K:Frag) (g:Ga):Sp:=fun vs H Q E=>∃ (w:Addr) (S:Mo) (R:List Addr) (p l:Addr) (h:Ho) (ts:List Atm) (ps:List Addr) (o:Addr),vs=[.ref w, .ref p, .ref l, .ref o]∧WorldAt g H w S R∧S.bs.length≤98∧H p=some (.tup h.vals)∧AtmsAt H l ts ps∧h.ok S∧(∀ t∈ts,t.ok S)∧ts.length≤20∧H o=some (.lst ((h.out S).map V.str))∧∀ H',Zj H H'→Q (.str (whS S h ts (h.out S))) H'
noncomputable def YM (K:Frag) (g:Ga):Sp:=fun vs H Q E=>∃ n lo hi:Int,vs=[.int n, .int lo, .int hi]∧(¬ (lo≤n∧n≤hi)→E (.ref g.OutOfBound) none H)∧(lo≤n∧n≤hi→Q .non H)
noncomputable def XO (K:Frag) (g:Ga):Sp:=fun vs H Q E=>∃ (w dx:Addr) (y:Int),vs=[.ref w, .int y]∧H w=some (.ins g.World dx [])∧(¬ (0≤y∧y≤9999)→E (.ref g.OutOfBound) none H)∧(0≤y∧y≤9999→∀ R H',Z3 [w] H H'→(∀ a∈R,a=w∨H a=none)→WorldAt g H' w (mo0 y) R→Q .non H')
noncomputable def Xk (K:Frag) (g:Ga):Sp:=fun vs H Q E=>∃ (w:Addr) (S:Mo) (R:List Addr) (k:Int),vs=[.ref w, .int k]∧WorldAt g H w S R∧(¬ (1≤k∧k≤60)→E (.ref g.OutOfBound) none H)∧(1≤k∧k≤60→∀ H',Z3 R H H'→WorldAt g H' w { S with y:=S.y+k } R→Q .non H')
noncomputable def JC (K:Frag) (g:Ga):Sp:=fun vs H Q E=>∃ (w:Addr) (S:Mo) (R:List Addr) (n:Str) (a:Int),vs=[.ref w, .str n, .int a]∧WorldAt g H w S R∧n.length≤200∧S.bs.length<800∧(¬ (0≤a∧a≤120)→E (.ref g.OutOfBound) none H)∧(0≤a∧a≤120→gw n=false→E (.ref g.NoText) none H)∧(0≤a∧a≤120→gw n=true→has S.bs n=true→E (.ref g.Taken) none H)∧(0≤a∧a≤120→gw n=true→has S.bs n=false→∀ R' H',Z3 R H H'→ZaB H R R'→WorldAt g H' w (S.step (.arrive n a)) R'→Q .non H')
noncomputable def Zac (K:Frag) (g:Ga):Sp:=fun vs H Q E=>∃ (w:Addr) (S:Mo) (R:List Addr) (n:Str),vs=[.ref w, .str n]∧WorldAt g H w S R∧S.bs.length<800∧nk S.bs n<99∧(has S.bs n=false→E (.ref g.NoPerson) none H)∧(has S.bs n=true→has S.ds n=true→E (.ref g.Gone) none H)∧(has S.bs n=true→has S.ds n=false→5≤Xv n→E (.ref g.TooDeep) none H)∧(has S.bs n=true→has S.ds n=false→Xv n<5→∀ R' H',Z3 R H H'→ZaB H R R'→WorldAt g H' w (S.step (.birth n)) R'→Q (.str (kid n (nk S.bs n))) H')
noncomputable def Zaa (K:Frag) (g:Ga):Sp:=fun vs H Q E=>∃ (w:Addr) (S:Mo) (R:List Addr) (n:Str),vs=[.ref w, .str n]∧WorldAt g H w S R∧S.ds.length<800∧(has S.bs n=false→E (.ref g.NoPerson) none H)∧(has S.bs n=true→has S.ds n=true→E (.ref g.Gone) none H)∧(has S.bs n=true→has S.ds n=false→∀ H',Z3 R H H'→WorldAt g H' w (S.step (.death n)) R→Q .non H')
noncomputable def Zab (K:Frag) (g:Ga):Sp:=fun vs H Q E=>∃ (w:Addr) (S:Mo) (R:List Addr) (n:Str),vs=[.ref w, .str n]∧WorldAt g H w S R∧n.length≤200∧S.cs.length<800∧(gw n=false→E (.ref g.NoText) none H)∧(gw n=true→has S.cs n=true→E (.ref g.Taken) none H)∧(gw n=true→has S.cs n=false→∀ H',Z3 R H H'→WorldAt g H' w (S.step (.comes n)) R→Q .non H')
noncomputable def ZaX (K:Frag) (g:Ga):Sp:=fun vs H Q E=>∃ (w:Addr) (S:Mo) (R:List Addr) (n:Str) (a:Int),vs=[.ref w, .str n, .int a]∧WorldAt g H w S R∧S.bs.length≤98∧okN S n∧0≤a∧a≤120∧∀ M H',Zhm S n a M→Zj H H'→Q (.int M) H'
noncomputable def JN (K:Frag) (g:Ga):Sp:=fun vs H Q E=>∃ (w:Addr) (S:Mo) (R:List Addr) (p l:Addr) (h:Ho) (ts:List Atm) (ps:List Addr),vs=[.ref w, .ref p, .ref l]∧WorldAt g H w S R∧S.bs.length≤98∧H p=some (.tup h.vals)∧AtmsAt H l ts ps∧h.ok S∧(∀ t∈ts,t.ok S)∧ts.length≤100∧∀ M H',Za9 S h ts M→Zj H H'→Q (.int M) H'
noncomputable def J9 (K:Frag) (g:Ga):Sp:=fun vs H Q E=>∃ (w:Addr) (S:Mo) (R:List Addr) (n:Str),vs=[.ref w, .str n]∧WorldAt g H w S R∧okN S n∧∀ H',Zj H H'→Q (.int (ZaQ S n)) H'
noncomputable def JB (K:Frag) (g:Ga):Sp:=fun vs H Q E=>∃ (w:Addr) (S:Mo) (R:List Addr) (p:Addr) (t:Atm) (F tm:Int),vs=[.ref w, .ref p, .int F, .int tm]∧WorldAt g H w S R∧H p=some (.tup t.vals)∧t.ok S∧∀ H',Zj H H'→Q (.bl (XZ S F tm t)) H'
noncomputable def X5 (K:Frag) (g:Ga):Sp:=fun vs H Q E=>∃ (w:Addr) (S:Mo) (R:List Addr) (n:Str) (a tm:Int),vs=[.ref w, .str n, .int a, .int tm]∧WorldAt g H w S R∧Q (.bl (Zhj S tm (.kids n a))) H
noncomputable def J6 (K:Frag) (g:Ga):Sp:=fun vs H Q E=>∃ (w:Addr) (S:Mo) (R:List Addr) (p l:Addr) (h:Ho) (ts:List Atm) (ps:List Addr),vs=[.ref w, .ref p, .ref l]∧WorldAt g H w S R∧H p=some (.tup h.vals)∧AtmsAt H l ts ps∧h.ok S∧(∀ t∈ts,t.ok S)∧ts.length≤20∧∀ l' ps' H',Zj H H'→H l'=none→AtmsAt H' l' (XJ S h ts) ps'→Q (.ref l') H'
noncomputable def ZbX (K:Frag) (g:Ga):Sp:=fun vs H Q E=>∃ (w:Addr) (S:Mo) (R:List Addr) (p l:Addr) (h:Ho) (ts:List Atm) (ps:List Addr) (tm:Int),vs=[.ref w, .ref p, .ref l, .int tm]∧WorldAt g H w S R∧S.bs.length≤98∧H p=some (.tup h.vals)∧AtmsAt H l ts ps∧h.ok S∧(∀ t∈ts,t.ok S)∧ts.length≤20∧∀ F H',Za9 S h ts F→Zj H H'→Q (.bl (JJ S h ts F tm)) H'
noncomputable def JZ (K:Frag) (g:Ga):Sp:=fun vs H Q E=>∃ (n:Int),vs=[.int n]∧n≤500∧∀ l ps H',Zj H H'→H l=none→(∀ x∈ps,H x=none)→DeedsAt H' l ((ydl n.toNat).map Deed.years) ps→Q (.ref l) H'
noncomputable def X6 (K:Frag) (g:Ga):Sp:=fun vs H Q E=>∃ (w:Addr) (S:Mo) (R:List Addr) (n:Str),vs=[.ref w, .str n]∧WorldAt g H w S R∧okN S n∧has S.bs n=false∧∀ p H',Zj H H'→H p=none→H' p=some (.tup [.str (nr S.bs n), .int (ctn S n)])→Q (.ref p) H'
noncomputable def Xu (K:Frag) (g:Ga):Sp:=fun vs H Q E=>∃ (w:Addr) (S:Mo) (R:List Addr) (p l:Addr) (h:Ho) (ts:List Atm) (ps:List Addr),vs=[.ref w, .ref p, .ref l]∧WorldAt g H w S R∧S.bs.length≤98∧H p=some (.tup h.vals)∧AtmsAt H l ts ps∧h.ok S∧(∀ t∈ts,t.ok S)∧ts.length≤20∧∀ d H',Zj H H'→H d=none→H' d=some (.dK (yrs (mst S h ts)))→Q (.ref d) H'
noncomputable def Zbc (K:Frag) (g:Ga):Sp:=fun vs H Q E=>∃ (w:Addr) (S:Mo) (R:List Addr) (p l:Addr) (h:Ho) (ts:List Atm) (ps:List Addr) (tm:Int),vs=[.ref w, .ref p, .ref l, .int tm]∧WorldAt g H w S R∧S.bs.length≤98∧Dated S∧tm≤100∧H p=some (.tup h.vals)∧AtmsAt H l ts ps∧h.ok S∧(∀ t∈ts,t.ok S)∧ts.length≤20∧∀ F l' ps' H',Za9 S h ts F→Zj H H'→H l'=none→DeedsAt H' l' (stoL S h ts F tm) ps'→Q (.ref l') H'
noncomputable def Zbd (K:Frag) (g:Ga):Sp:=fun vs H Q E=>∃ (w:Addr) (S:Mo) (R:List Addr) (p l:Addr) (h:Ho) (ts:List Atm) (ps:List Addr),vs=[.ref w, .ref p, .ref l]∧WorldAt g H w S R∧S.bs.length≤40∧H p=some (.tup h.vals)∧AtmsAt H l ts ps∧h.ok S∧(∀ t∈ts,t.ok S)∧ts.length≤20∧∀ ss l' H',ss.Perm (ddl (Zec S h ts))→PyProof.Rows.sortedS ss=true→Zj H H'→H l'=none→H' l'=some (.lst (ss.map V.str))→Q (.ref l') H'
noncomputable def ZcF (K:Frag) (g:Ga):Sp:=fun vs H Q E=>∃ (w:Addr) (S:Mo) (R:List Addr) (p l:Addr) (h:Ho) (ts:List Atm) (ps:List Addr) (tm:Int),vs=[.ref w, .ref p, .ref l, .int tm]∧WorldAt g H w S R∧S.bs.length≤40∧Dated S∧tm≤100∧H p=some (.tup h.vals)∧AtmsAt H l ts ps∧h.ok S∧(∀ t∈ts,t.ok S)∧ts.length≤20∧∀ r l' H',Zj H H'→H r=none→H l'=none→ZbV H' r l' S h ts tm→Q (.ref r) H'
noncomputable def J5 (K:Frag) (g:Ga):Sp:=fun vs H Q E=>∃ (a:Addr) (ns:List Int) (k:Int),vs=[.ref a, .int k]∧SqL K H a (ns.map V.int)∧0≤k∧∀ c:Int,Q (.int c) H
noncomputable def Zao (K:Frag) (g:Ga):Sp:=fun vs H Q E=>∃ c p:Int,vs=[.int c, .int p]∧∀ r:Int,Q (.int r) H
noncomputable def Jx (K:Frag) (g:Ga):Sp:=fun vs H Q E=>∃ n:Int,vs=[.int n]∧∀ z:Str,gw z=true→Q (.str z) H
noncomputable def ZaV (K:Frag) (g:Ga):Sp:=fun vs H Q E=>∃ y:Int,vs=[.int y]∧∀ m R H',Zj H H'→(∀ a∈R,H a=none)→Jr H' m (mo0 y) R→Q (.ref m) H'
noncomputable def Zbh (K:Frag) (g:Ga):Sp:=fun vs H Q E=>∃ (m:Addr) (S:Mo) (R:List Addr) (n:Str),vs=[.ref m, .str n]∧Jr H m S R∧Wf S.bs S.ds∧n.length≤200∧nk S.bs n≤100∧∀ l H',Zj H H'→H l=none→H' l=some (.lst (YH n (nk S.bs n)))→Q (.ref l) H'
noncomputable def Zaw (K:Frag) (g:Ga):Sp:=fun vs H Q E=>∃ (m:Addr) (S:Mo) (R:List Addr),vs=[.ref m]∧Jr H m S R∧S.bs.length≤900∧∀ l H',Zj H H'→H l=none→H' l=some (.lst (Zef S.bs S.ds))→Q (.ref l) H'
noncomputable def Zbe (K:Frag) (g:Ga):Sp:=fun vs H Q E=>∃ (m:Addr) (S:Mo) (R:List Addr) (p:Addr) (d:Deed) (far:Int) (k:Nat),vs=[.ref m, .ref p]∧Jr H m S R∧H p=some (.tup d.vals)∧S.Ok k∧k<98∧S.good far d∧∀ H',Z3 R H H'→Jr H' m (S.step d) R→Q .non H'
noncomputable def X4 (K:Frag) (g:Ga):Sp:=fun vs H Q E=>∃ (m:Addr) (S:Mo) (R:List Addr) (n far:Int),vs=[.ref m, .int n, .int far]∧Jr H m S R∧S.bs.length≤900∧0<far∧(∀ d p H',S.good far d→Zj H H'→H p=none→H' p=some (.tup d.vals)→Q (.ref p) H')
noncomputable def ZaT (K:Frag) (g:Ga):Sp:=fun vs H Q E=>∃ n:Int,vs=[.int n]∧∀ l was ps H',Zj H H'→(∀ a∈l::ps,H a=none)→First was→was≠[]→DeedsAt H' l (was.map arr) ps→Q (.ref l) H'
noncomputable def ZcE (K:Frag) (g:Ga):Sp:=fun vs H Q E=>∃ (w:Addr) (S:Mo) (R:List Addr) (p:Addr) (d:Deed) (far:Int) (k:Nat),vs=[.ref w, .ref p]∧WorldAt g H w S R∧H p=some (.tup d.vals)∧S.Ok k∧k<98∧S.good far d∧far≤60∧∀ v R' H',Z3 R H H'→ZaB H R R'→WorldAt g H' w (S.step d) R'→Q v H'
noncomputable def Zap (K:Frag) (g:Ga):Sp:=fun vs H Q E=>∃ (m:Addr) (S:Mo) (R:List Addr) (n:Int),vs=[.ref m, .int n]∧Jr H m S R∧Wf S.bs S.ds∧S.bs.length≤98∧Zdm S∧∀ z H',Zj H H'→pok z=true→nr S.bs z≠Str.empty→Q (.str z) H'
noncomputable def Zbf (K:Frag) (g:Ga):Sp:=fun vs H Q E=>∃ (m:Addr) (S:Mo) (R:List Addr) (n:Int),vs=[.ref m, .int n]∧Jr H m S R∧Wf S.bs S.ds∧S.bs.length≤98∧Zdm S∧∀ (t:Atm) p H',Zj H H'→H p=none→H' p=some (.tup t.vals)→t.ok S→Q (.ref p) H'
noncomputable def ZaU (K:Frag) (g:Ga):Sp:=fun vs H Q E=>∃ (m:Addr) (S:Mo) (R:List Addr) (n most:Int),vs=[.ref m, .int n, .int most]∧Jr H m S R∧Wf S.bs S.ds∧S.bs.length≤98∧Zdm S∧0≤most∧most≤100∧∀ l ts ps H',Zj H H'→(∀ a∈l::ps,H a=none)→AtmsAt H' l ts ps→(∀ t∈ts,t.ok S)→(ts.length:Int)≤most→Q (.ref l) H'
noncomputable def Zbg (K:Frag) (g:Ga):Sp:=fun vs H Q E=>∃ (m:Addr) (S:Mo) (RM:List Addr) (n:Str),vs=[.ref m, .str n]∧Jr H m S RM∧n.length≤200∧Q (.str (nr S.bs n)) H
noncomputable def Zax (K:Frag) (g:Ga):Sp:=fun vs H Q E=>∃ (m:Addr) (S:Mo) (R:List Addr) (n:Int),vs=[.ref m, .int n]∧Jr H m S R∧Wf S.bs S.ds∧S.bs.length≤98∧Zdm S∧∀ (h:Ho) p H',Zj H H'→H p=none→H' p=some (.tup h.vals)→h.ok S→Q (.ref p) H'
noncomputable def XN (K:Frag) (g:Ga):Sp:=fun vs H Q E=>∃ (m:Addr) (S:Mo) (R:List Addr) (n:Int),vs=[.ref m, .int n]∧Jr H m S R∧Wf S.bs S.ds∧S.bs.length≤98∧Zdm S∧∀ (h:Ho) (ts:List Atm) (ps:List Addr) r p l H',Zj H H'→H' r=some (.tup [.ref p, .ref l])→H' p=some (.tup h.vals)→h.ok S→AtmsAt H' l ts ps→(∀ t∈ts,t.ok S)→ts.length≤6→Q (.ref r) H'
noncomputable def ZaW (K:Frag) (g:Ga):Sp:=fun vs H Q E=>∃ (r1 r2 l1 l2:Addr),vs=[.ref r1, .ref r2]∧((H r1=some (.tup [.str "late", .ref l1])∧H r2=some (.tup [.str "late", .ref l2]))∨(∃ ss:List Str,H r1=some (.tup [.str "sure", .ref l1])∧H r2=some (.tup [.str "sure", .ref l2])∧H l1=some (.lst (ss.map V.str))∧H l2=some (.lst (ss.map V.str))∧∀ c∈ss,PyData.strOk c=true))∧Q (.bl true) H
noncomputable def Ze3 (K:Frag) (g:Ga):Sp:=fun vs H Q E=>∃ (a:Addr) (ns:List Int),vs=[.ref a]∧SqL K H a (ns.map V.int)∧ns.length≤63∧∀ H',Q (.bl true) H'
section
variable {P:Program} {w0:World} {K:Frag} {g:Ga} {mg:Str→Option Value} {base:Heap}
theorem Zig {f:Addr} {fd:FuncData} (F:Fun K "within" "within" ZaG f fd) (T:Txt K g mg)  : FnOk P w0 K mg base CX0 1 f fd ["text","low","high"] (ZbA K g):=by
  refine F.ok ZeE (fun vs H Q E h=>?_) (fun cdv A outer s H vs Q E hr h=>?_)
  · obtain ⟨x,a,b,rfl,_⟩:=h;rfl
  obtain ⟨x,a,b,rfl,q⟩:=h;refine ⟨_,(
(@Ze _ _ _ _ _ (@Za0 _ _ _ _ _ _ _ _ PassesOwn.never rfl (@pi_str _ _ _ _ (by walk_at "0")) (@Yk _ _ (3) _ ZeE.nd rfl (Or.inl rfl) (by walk_at "u")) (@Zg _ _ _ (@Zy _ _ _ _ _ _ _ _ (@PW.pt _ _ _ (@ZbT _ _ _ _ _ _ _ (@Zp _ _ _ _ _ _ _ _ (@Zid _) (by walk_at "3") (by walk_at "1") (Zu _)) (@Zay _ _ _ _ (@Zp _ _ _ _ _ _ _ _ (@Zif _) (by walk_at "3") (by walk_at "2") (Zu _))))) (@Zg _ _ _ (@Zm _ _ _ _ (@Zau _ _ _ _))) (@Zq _))) (by intro _ ; rfl)) (@Zg _ _ _ (@Zm _ _ _ _ (@Zau _ _ _ _))))),?_⟩
  have fin:∀ v,v=x.cps.toList.all (inR a b)→Q (.bl v) H:=fun v hv=>by rw [hv]; exact q
  refine ⟨_,rfl,x,rfl,Zku (fun i σ H2=>H2=H∧(x.cps.toList.take i).all (inR a b)=true∧∃ v,σ=[some (.str x),some (.str ⟨#[a]⟩),some (.str ⟨#[b]⟩),v]) ⟨rfl,rfl,_,rfl⟩ ?_ ?_⟩
  · rintro i c σ H2 hc ⟨rfl,ha,v,rfl⟩;refine ⟨_,rfl,_,rfl,_,_,rfl,rfl,_,rfl,?_⟩;refine Yj (fun e=>Yw ?_) (fun e=>?_)
    · have e':c<a:=(ZfA c a).mp (of_decide_eq_true e);exact fin _ (ZhW hc (by unfold inR; rw [decide_eq_false (by omega)]; rfl)).symm
    · have e':¬ c<a:=fun z=>e (decide_eq_true ((ZfA c a).mpr z));refine ⟨_,rfl,_,rfl,_,_,rfl,rfl,_,rfl,?_⟩;refine Yj (fun f=>?_) (fun f=>?_)
      · have f':b<c:=(ZfA b c).mp (of_decide_eq_true f);exact fin _ (ZhW hc (by unfold inR; rw [decide_eq_false (show ¬ c≤b by omega),Bool.and_false])).symm
      · have f':¬ b<c:=fun z=>f (decide_eq_true ((ZfA b c).mpr z));exact ⟨rfl,ZjX ha hc (by unfold inR; rw [decide_eq_true (show a≤c by omega),decide_eq_true (show c≤b by omega)]; rfl),_,rfl⟩
  · rintro σ H2 ⟨rfl,ha,v,rfl⟩;rw [take_length] at ha;exact fin _ ha.symm
theorem Zfp {f:Addr} {fd:FuncData} (F:Fun K "good_word" "good_word" XD f fd) (T:Txt K g mg) (QaF:Dn P w0 K mg base 1 "within" ["text","low","high"] (ZbA K g)):FnOk P w0 K mg base CX0 2 f fd ["word"] (JM K g):=by
  refine F.ok Zfa (fun vs H Q E h=>?_) (fun cdv A outer s H vs Q E hr h=>?_)
  · obtain ⟨x,rfl,_⟩:=h;rfl
  obtain ⟨x,rfl,hx,q⟩:=h;refine ⟨_,(
(@Zg _ _ _ (@Zm _ _ _ _ (@Zbp _ _ _ _ _ _ _ (@Zgc _ _ _ _ _ _ _ _ _ _ _ _ (@ZhD _) (@ZhD _) (@Zf _ _ _ _) (@ZD _ _ _ _ _ _ _ _ _ (@ZQ _) rfl T.z_len boot_len (@Za _ _ _ _ _ (by walk_at "0") (@Zc _) (by rfl)) (by decide) (by decide) (by rfl) (by rfl)) (@ZA _ _ (.int 8) _ _ rfl T.Qdl ⟨_,rfl⟩ (by decide)) (by with_unfolding_all rfl)) (@Zbp _ _ _ _ _ _ _ (@Zv _ _ _ _ _ _ _ _ _ _ QaF (hr.mono (by decide)) (@Za _ _ _ _ _ (by walk_at "0") (@Za _ _ _ _ _ (@Zo _ _ _ _) (@Za _ _ _ _ _ (@Zo _ _ _ _) (@Zc _) (by rfl)) (by rfl)) (by rfl)) (by rfl) (by decide) (by rfl) (by rfl)) (@Zbo _ _ _ _ _ (@XW _ _ _ _ _ _ _ _ (@Za1 _) (by walk_at "0") (@ZA _ _ (.ref g.BARRED) _ _ rfl T.Qdn rfl (by decide)) rfl))))))),?_⟩
  have fin:∀ v,v=gw x→Q (.bl v) H:=fun v hv=>by rw [hv]; exact q
  refine ⟨_,rfl,_,_,rfl,⟨ZE (by omega),rfl⟩,_,_,rfl,rfl,_,rfl,?_⟩;refine Yj (fun c=>?_) (fun c=>?_)
  · have c':1≤x.length:=by have:=of_decide_eq_true c; omega
    refine ⟨_,_,rfl,rfl,_,rfl,?_⟩;refine Yj (fun d=>?_) (fun d=>?_)
    · have d':x.length≤8:=by have:=of_decide_eq_true d; omega
      refine ⟨_,rfl,x,97,122,rfl,_,rfl,?_⟩;refine Yj (fun e=>?_) (fun e=>?_)
      · refine ⟨_,rfl,g.BARRED,_,rfl, .inr (T.QcQ _),rfl,rfl,fin _ ?_⟩;unfold gw;rw [decide_eq_true c',decide_eq_true d',e];show (!(eqV (.str "crown") (.str x) || (eqV (.str "kids") (.str x) || false)))=_;show (!(("crown":Str) == x || (("kids":Str) == x || false)))=(!(decide (x="crown") || decide (x="kids")));rw [Bool.or_false,ZhU,ZhU]
      · refine fin _ ?_;unfold gw;rw [Bool.eq_false_iff.mpr e,Bool.and_false];rfl
    · refine fin _ ?_;unfold gw;rw [decide_eq_false (show ¬ x.length≤8 from fun z=>d (decide_eq_true (by omega))),Bool.and_false];rfl
  · refine ⟨_,rfl,Yb ?_⟩;refine fin _ ?_;unfold gw;rw [decide_eq_false (show ¬ 1≤x.length from fun z=>c (decide_eq_true (by omega)))];rfl
theorem ZdZ {f:Addr} {fd:FuncData} (F:Fun K "good_number" "good_number" YT f fd) (T:Txt K g mg) (QaF:Dn P w0 K mg base 1 "within" ["text","low","high"] (ZbA K g)):FnOk P w0 K mg base CX0 2 f fd ["text"] (J7 K g):=by
  refine F.ok ZdG (fun vs H Q E h=>?_) (fun cdv A outer s H vs Q E hr h=>?_)
  · obtain ⟨x,rfl,_⟩:=h;rfl
  obtain ⟨x,rfl,hx,q⟩:=h;refine ⟨_,(
(@Zg _ _ _ (@Zm _ _ _ _ (@Zbp _ _ _ _ _ _ _ (@Zgc _ _ _ _ _ _ _ _ _ _ _ _ (@ZhD _) (@ZhD _) (@Zf _ _ _ _) (@ZD _ _ _ _ _ _ _ _ _ (@ZQ _) rfl T.z_len boot_len (@Za _ _ _ _ _ (by walk_at "0") (@Zc _) (by rfl)) (by decide) (by decide) (by rfl) (by rfl)) (@ZA _ _ (.int 2) _ _ rfl T.Qdm ⟨_,rfl⟩ (by decide)) (by with_unfolding_all rfl)) (@Zbp _ _ _ _ _ _ _ (@Zv _ _ _ _ _ _ _ _ _ _ QaF (hr.mono (by decide)) (@Za _ _ _ _ _ (by walk_at "0") (@Za _ _ _ _ _ (@Zo _ _ _ _) (@Za _ _ _ _ _ (@Zo _ _ _ _) (@Zc _) (by rfl)) (by rfl)) (by rfl)) (by rfl) (by decide) (by rfl) (by rfl)) (@Zbo _ _ _ _ _ (@XW _ _ _ _ _ _ _ _ (@ZdT _) (@Zt _ _ _ _ _ _ _ (@Zjy _) (by walk_at "0") (@Zf _ _ _ _) (fun _ _=>rfl)) (@Zo _ _ _ _) (Zu _)))))))),?_⟩
  have fin:∀ v,v=gn x→Q (.bl v) H:=fun v hv=>by rw [hv]; exact q
  refine ⟨_,rfl,_,_,rfl,⟨ZE (by omega),rfl⟩,_,_,rfl,rfl,_,rfl,?_⟩;refine Yj (fun c=>?_) (fun c=>?_)
  · have c':1≤x.length:=by have:=of_decide_eq_true c; omega
    refine ⟨_,_,rfl,rfl,_,rfl,?_⟩;refine Yj (fun d=>?_) (fun d=>?_)
    · have d':x.length≤2:=by have:=of_decide_eq_true d; omega
      refine ⟨_,rfl,x,48,57,rfl,_,rfl,?_⟩;refine Yj (fun e=>?_) (fun e=>?_)
      · have hl:x.cps.toList.length=x.length:=length_toList;obtain ⟨c0,hc0⟩:∃ c0,x.cps.toList[0]? = some c0:=⟨_,getElem?_eq_getElem (by omega)⟩;have hat:atI x.cps.toList ((0:Nat):Int)=some c0:=Za4 hc0;refine ⟨_,rfl,x,_,c0,rfl,rfl,ZE (by omega),hat,rfl,fin _ ?_⟩;unfold gn;rw [decide_eq_true c',decide_eq_true d',e];show (!decide (V.str ⟨#[c0]⟩=V.str "0"))=(!decide (x.cps.toList.head? = some 48));have z:(V.str ⟨#[c0]⟩=V.str "0")↔c0=48:=by
          rw [show ("0":Str)=⟨#[48]⟩ by decide +kernel];constructor
          · intro w;injection w with w;injection w with w;simpa using w
          · rintro rfl; rfl
        rw [List.head?_eq_getElem?,hc0];congr 1;rw [Bool.eq_iff_iff,decide_eq_true_iff,decide_eq_true_iff,z];simp
      · refine fin _ ?_;unfold gn;rw [Bool.eq_false_iff.mpr e,Bool.and_false];rfl
    · refine fin _ ?_;unfold gn;rw [decide_eq_false (show ¬ x.length≤2 from fun z=>d (decide_eq_true (by omega))),Bool.and_false];rfl
  · refine ⟨_,rfl,Yb ?_⟩;refine fin _ ?_;unfold gn;rw [decide_eq_false (show ¬ 1≤x.length from fun z=>c (decide_eq_true (by omega)))];rfl
theorem Zjc {f:Addr} {fd:FuncData} (F:Fun K "parts" "parts" ZbD f fd) (T:Txt K g mg) (QaG:Dn P w0 K mg base 2 "good_word" ["word"] (JM K g)) (Qbl:Dn P w0 K mg base 2 "good_number" ["text"] (J7 K g)):FnOk P w0 K mg base (CXR P w0 base) 3 f fd ["name"] (Zcb K g):=by
  refine F.okX Zce (fun vs H Q E h=>?_) (fun cdv A outer s H vs Q E hr h=>?_)
  · obtain ⟨x,rfl,_⟩:=h;rfl
  obtain ⟨x,rfl,hx,qe,q⟩:=h;refine ⟨_,(
(@Ze _ _ _ _ _ (@Zfe _ _ _ _ _ _ (@Xq _ _ _ _ _ _ _ _ _ _ _ _ plainAttrs_str PySem.F.slot_str_split PySem.F.type_str_split (@Zgy _) (by walk_at "0") (@Za _ _ _ _ _ (@Zo _ _ _ _) (@Zc _) (by rfl)) (by rfl) (by rfl) (by rfl) (by rfl) (by rfl)) (@Zkc _ _ _ _ _ _ _ rfl (@Xo _ _ _ _ _ (@Yk _ _ (1) _ Zce.nd rfl (Or.inl rfl) (by walk_at "u")) (@Xo _ _ _ _ _ (@Yk _ _ (2) _ Zce.nd rfl (Or.inl rfl) (by walk_at "u")) (@Zdq _) (by rfl)) (by rfl)) (by rfl) (by rfl) (by rfl)) (by rfl) (by rfl) (by rfl)) (@Ze _ _ _ _ _ (@Zy _ _ _ _ _ _ _ _ (@PW.pt _ _ _ (@ZbT _ _ _ _ _ _ _ (@Jo _ _ _ _ (@ZP _ _ _ (@Zv _ _ _ _ _ _ _ _ _ _ QaG (hr.mono (by decide)) (@Za _ _ _ _ _ (by walk_at "1") (@Zc _) (by rfl)) (by rfl) (by decide) (by rfl) (by rfl)) (by intro _ ; rfl))) (@Zay _ _ _ _ (@Zp _ _ _ _ _ _ _ _ (@ZbU _) (@ZD _ _ _ _ _ _ _ _ _ (@ZQ _) rfl T.z_len boot_len (@Za _ _ _ _ _ (by walk_at "2") (@Zc _) (by rfl)) (by decide) (by decide) (by rfl) (by rfl)) (@ZA _ _ (.int 5) _ _ rfl T.QcP ⟨_,rfl⟩ (by decide)) (Zu _))))) (@Zg _ _ _ (@Xn _ _ _ _ _ _ _ _ _ _ _ _ _ _ _ _ _ _ _ _ _ _ T.Qbj.x T.Qbi (@Zo _ _ _ _) (by rfl) (by rfl) (by decide))) (@Zq _)) (@Ze _ _ _ _ _ (@Za0 _ _ _ _ _ _ _ _ PassesOwn.leaving rfl (@Yc _ _ _ _ (by walk_at "2")) (@Yk _ _ (3) _ Zce.nd rfl (Or.inl rfl) (by walk_at "u")) (@Zg _ _ _ (@Zy _ _ _ _ _ _ _ _ (@Jo _ _ _ _ (@ZP _ _ _ (@Zv _ _ _ _ _ _ _ _ _ _ Qbl (hr.mono (by decide)) (@Za _ _ _ _ _ (by walk_at "3") (@Zc _) (by rfl)) (by rfl) (by decide) (by rfl) (by rfl)) (by intro _ ; rfl))) (@Zg _ _ _ (@Xn _ _ _ _ _ _ _ _ _ _ _ _ _ _ _ _ _ _ _ _ _ _ T.Qbj.x T.Qbi (@Zo _ _ _ _) (by rfl) (by rfl) (by decide))) (@Zq _))) (by intro _ ; rfl)) (@Zg _ _ _ (@Zm _ _ _ _ (@Zn _ _ _ _ _ _ _ _ (@ZdU _) (@Ym _ _ _ _ (@Za _ _ _ _ _ (by walk_at "1") (@Zc _) (by rfl))) (@ZaM _ _ _ ("number") _ _ _ ([]) _ ([]) _ _ _ rfl (@Yc _ _ _ _ (by walk_at "2")) (fun _ _ _ _ _=>(@Zai _)) (fun _ _ _ _ _=>(@YG _ _ _ _ _ _ _ _ _ (@ZeB _) rfl T.z_int PyProof.Rows.boot_int (@Za _ _ _ _ _ (by walk_at "0") (@Zc _) (by rfl)) (by decide) (by decide) (by rfl) (by rfl))) rfl (by decide +kernel) rfl (by decide +kernel) rfl (fun _ _ h=>nomatch h) (YL rfl) (fun p hp=>nomatch hp) (by decide +kernel) (by intro _ ; rfl))))))))),?_⟩
  have h2:(Builtin.Str.partsBetween x (Builtin.Str.occurrences x dot 0 x.length (x.length+1)) dot.length).length≤sizeLine:=by
    rw [PyProof.Rows.len_partsBetween];have:=StrLaws.occ_length_le x dot 0 x.length (x.length+1);exact ZE (by omega)
  have nl:=Zki x;refine ⟨_,rfl,rfl,x,dot,rfl,rfl,by decide +kernel,ZE (by omega),h2,fun l hl=>?_⟩;have s1:=Zi hl (.lst ((Txt.split x dot).map V.str));have pe:(Txt.split x dot).map V.str = .str (wd x)::(nms x).map V.str:=by rw [show Txt.split x dot=wd x::nms x from XX x]; rfl
  refine ⟨l, .str (wd x),(nms x).map V.str,rfl,SqL.of (by rw [Zd,pe]),by rw [length_map]; omega,fun D hD=>?_⟩;have s2:=s1.trans (Zi hD (.lst ((nms x).map V.str)));have hD2:upd (upd H l (.lst ((Txt.split x dot).map V.str))) D (.lst ((nms x).map V.str)) D=some (.lst ((nms x).map V.str)):=Zd;generalize upd (upd H l (.lst ((Txt.split x dot).map V.str))) D (.lst ((nms x).map V.str))=H2 at *;have wl:(wd x).length≤200:=le_trans (Zja (x:=x) (by rw [XX]; exact mem_cons_self ..)) hx;have pl:∀ p∈nms x,p.length≤200:=fun p hp=>le_trans (Zja (x:=x) (by rw [XX]; exact mem_cons_of_mem _ hp)) hx;refine ⟨_,_,rfl,_,_,rfl,rfl,?_⟩;refine ⟨_,rfl,wd x,rfl,wl,_,rfl,?_⟩;cases g1:gw (wd x) with
  | false =>
    refine Yw ?_;refine Yw ⟨rfl,qe (by unfold pok; rw [g1]; rfl) H2 s2⟩
  | true =>
    refine Yb ?_;refine ⟨_,rfl,_,_,rfl, .inl ⟨_,SqL.of hD2,rfl⟩,_,_,rfl,rfl,_,rfl,?_⟩;refine Yj (fun c=>?_) (fun c=>?_)
    · have c':¬ (nms x).length≤5:=by have:=of_decide_eq_true c; rw [length_map] at this; omega
      exact ⟨rfl,qe (by unfold pok; rw [g1,decide_eq_false c']; rfl) H2 s2⟩
    · have c':(nms x).length≤5:=by
        have c2:¬ ((5:Int)<(((nms x).map V.str).length:Nat)):=fun z=>c (decide_eq_true z);rw [length_map] at c2;omega
      refine ⟨_,rfl,D,rfl,⟨_,SqL.of hD2⟩,Zen (xs:=(nms x).map V.str) (fun i σ H3=>H3=H2∧((nms x).take i).all gn=true∧∃ v,σ=[some (.str x),some (.str (wd x)),some (.ref D),v]) ⟨rfl,rfl,_,rfl⟩ ?_ ?_ ?_⟩
      · rintro i σ H3 _ ⟨rfl,_⟩;exact SqL.of hD2
      · rintro i v σ H3 hv ⟨rfl,ha,w,rfl⟩;rw [getElem?_map] at hv;have ci:i<(nms x).length:=by
          cases z:(nms x)[i]? with
          | none=>rw [z] at hv; cases hv
          | some y=>exact (List.getElem?_eq_some_iff.mp z).1
        rw [getElem?_eq_getElem ci] at hv;cases hv;refine ⟨_,rfl,(nms x)[i],rfl,pl _ (getElem_mem ci),_,rfl,?_⟩;cases g2:gn (nms x)[i] with
        | false =>
          refine Yw ⟨rfl,qe ?_ H3 s2⟩;unfold pok;have z:(nms x).all gn=false:=by
            cases e:(nms x).all gn with
            | false=>rfl
            | true =>
              have:=List.all_eq_true.mp e _ (getElem_mem ci);rw [g2] at this;cases this
          rw [z,Bool.and_false]
        | true =>
          refine Yb ⟨rfl,?_,_,rfl⟩;rw [take_succ,getElem?_eq_getElem ci,all_append,ha];simp [g2]
      · rintro σ H3 ⟨rfl,ha,w,rfl⟩;rw [length_map,take_length] at ha;have pk:pok x=true:=by unfold pok; rw [g1,decide_eq_true c',ha]; rfl
        refine ⟨_,rfl,(by show 1≤sizeLine; decide),fun b1 hb1=>?_⟩;have s3:=Zi hb1 (.lst [V.str (wd x)]);have hb1':upd H3 b1 (.lst [V.str (wd x)]) b1=some (.lst [V.str (wd x)]):=Zd;have hD3:=s3 _ _ hD2;generalize upd H3 b1 (.lst [V.str (wd x)])=H4 at *;refine ⟨_,rfl,D,rfl,⟨_,SqL.of hD3⟩,fun E1 hE1=>⟨fun i m H5=>i≤(nms x).length∧m=(nms x).length - i∧Zj H4 H5∧H5 E1=some (.lst (((nms x).take i).map fun p=>V.int (iv p))),⟨(nms x).length,zero_le _,rfl,Zi hE1 _,Zd⟩,?_⟩⟩;rintro i m H5 ⟨hi,rfl,s5,hE5⟩
        by_cases ci:i<(nms x).length
        · refine .inr ⟨⟨_, .str (nms x)[i],s5.seq (SqL.of hD3),by simp [ci]⟩,fun v H' ⟨e,ev⟩=>?_⟩;subst e;have ev':=ev _ (s5.seq (SqL.of hD3));rw [getElem?_map,getElem?_eq_getElem ci] at ev';cases ev';refine tAll_T ?_;have g3:=List.all_eq_true.mp ha _ (getElem_mem ci);refine ⟨_,rfl,(nms x)[i],_,rfl,(iv_gn g3).1,by have:=pl _ (getElem_mem ci); omega,_,(nms x).length - (i+1),hE5,ZC (by rw [length_map,length_take]; omega),by omega,ci,rfl,ZX s5 hE1,?_⟩;rw [Zd,← ZcD ci,map_append];rfl
        · have e:i=(nms x).length:=by omega
          subst e;rw [take_length] at hE5;refine .inl ⟨⟨_,s5.seq (SqL.of hD3),by rw [length_map]; exact le_refl _⟩,?_⟩;refine ⟨b1,E1,_,_,rfl,rfl,s5 _ _ hb1',hE5,le_of_lt (ZC (by rw [length_map]; show 1+(nms x).length≤1000; omega)),fun R hR=>?_⟩;have s6:=(s2.trans s3).trans s5;exact q pk R _ (s6.trans (Zi hR _)) (s6.free hR) Zd
theorem Zfk {f:Addr} {fd:FuncData} (F:Fun K "shortened" "shortened" Xy f fd) (T:Txt K g mg)  : FnOk P w0 K mg base CX0 1 f fd ["name"] (ZaR K g):=by
  refine F.ok Ze6 (fun vs H Q E h=>?_) (fun cdv A outer s H vs Q E hr h=>?_)
  · obtain ⟨x,rfl,_⟩:=h;rfl
  obtain ⟨x,rfl,hx,q⟩:=h;refine ⟨_,(
(@Zg _ _ _ (@Zm _ _ _ _ (@Zt _ _ _ _ _ _ _ (@Zr _) (@Xq _ _ _ _ _ _ _ _ _ _ _ _ plainAttrs_str PySem.F.slot_str_rpartition PySem.F.type_str_rpartition (@Zjj _) (by walk_at "0") (@Za _ _ _ _ _ (@Zo _ _ _ _) (@Zc _) (by rfl)) (by rfl) (by rfl) (by rfl) (by rfl) (by rfl)) (@Zf _ _ _ _) (fun _ _=>rfl))))),?_⟩
  refine ⟨_,rfl,rfl,x,dot,rfl,rfl,by decide +kernel,ZE (by omega),fun l hl=>?_⟩;have s1:=Zi hl;cases e:Builtin.Str.lastOccurrence x dot 0 x.length with
  | some i =>
    have u:up x=Builtin.Str.strSub x 0 i:=by unfold up; rw [e]
    refine ⟨l,_,_,_,rfl,rfl,SqT.of Zd,rfl,?_⟩;rw [← u];exact q _ (s1 _)
  | none =>
    have u:up x=Str.empty:=by unfold up; rw [e]
    refine ⟨l,_,_,_,rfl,rfl,SqT.of Zd,rfl,?_⟩;rw [← u];exact q _ (s1 _)
theorem ZcR {f:Addr} {fd:FuncData} (F:Fun K "nearest" "Lives.nearest" Yr f fd) (T:Txt K g mg) (QaA:Dx P w0 K mg base 3 "parts" ["name"] (Zcb K g)) (Qbm:Dn P w0 K mg base 1 "shortened" ["name"] (ZaR K g)):FnOk P w0 K mg base (CXR P w0 base) 4 f fd ["self","name"] (ZU K g):=by
  refine F.okX X8 (fun vs H Q E h=>?_) (fun cdv A outer s H vs Q E hr h=>?_)
  · obtain ⟨b,bs,ds,R,n,rfl,_⟩:=h;rfl
  obtain ⟨b,bs,ds,R,n,rfl,L,hx,q1,q⟩:=h;refine ⟨_,(
(@Ze _ _ _ _ _ (@ZH _ _ _ _ (@JI _ _ _ _ _ _ _ _ _ _ _ XY QaA (hr.mono (by decide)) (@Za _ _ _ _ _ (by walk_at "1") (@Zc _) (by rfl)) (by rfl) (by decide) (by rfl) (by rfl)) (by rfl)) (@Ze _ _ _ _ _ (@Zw _ _ (2) _ _ _ _ X8.nd rfl (Or.inl rfl) (by walk_at "1") (by rfl) (by walk_at "u")) (@Ze _ _ _ _ _ (@Zci _ _ _ _ _ _ PassesOwn.leaving (@PW.pt _ _ _ (@Zah _ _ _ _ _ _ _ (@ZdR _ _ _ (by walk_at "2") (fun _=>rfl)) (@Ju _ _ _ _ (@JH _ _ _ _ _ _ (@XI _ _ _ _ _ (Z9 hr) (by walk_at "2") (@Zx _ _ _ _ _ (by walk_at "0") rfl)) (by walk_at "n"))))) (@Zg _ _ _ (@Zw _ _ (2) _ _ _ _ X8.nd rfl (Or.inl rfl) (@Zv _ _ _ _ _ _ _ _ _ _ Qbm (hr.mono (by decide)) (@Za _ _ _ _ _ (by walk_at "2") (@Zc _) (by rfl)) (by rfl) (by decide) (by rfl) (by rfl)) (by rfl) (by walk_at "u")))) (@Zg _ _ _ (@Zm _ _ _ _ (by walk_at "2"))))))),?_⟩
  refine ⟨_,rfl,n,rfl,hx,q1,fun hp l H1 s1 _ _=>?_⟩;refine ⟨_,rfl,fun mm σ H2=>∃ z:Str,mm=z.length∧σ=[some (.ref b),some (.str n),some (.str z)]∧z.length≤200∧nr bs z=nr bs n∧Zj H H2,⟨_,n,rfl,rfl,hx,rfl,s1⟩,?_⟩;rintro mm σ H2 ⟨z,rfl,rfl,hz,hnr,s2⟩;have L2:=L.same s2;obtain ⟨d1,d2,d3,ws,B,k1,k2,eR⟩:=id L2.ex;obtain ⟨dx,hb⟩:=B.obj
  by_cases h0:z.length=0
  · refine ⟨_,rfl,false,⟨ZE (by omega),by rw [h0]; rfl⟩,Yb ?_⟩;refine Yb ⟨_,rfl,?_⟩;have e:nr bs n=z:=by rw [← hnr,len0 h0,Zeb]
    rw [← e];exact q hp H2 s2
  · refine ⟨_,rfl,true,⟨ZE (by omega),?_⟩,Yw ?_⟩
    · have h1:((z.length:Nat):Int)≠0:=by omega
      exact (bne_iff_ne.mpr h1).symm
    refine ⟨_,rfl,_,rfl,b,_,dx,_,_,rfl,hb,T.Qab,T.Qam,rfl,d1,_,rfl,B.births z,_,rfl,?_⟩;rw [Z4];cases hh:has bs z with
    | true =>
      refine Yb ⟨_,rfl,?_⟩;have e:nr bs n=z:=by rw [← hnr,ZaA h0 hh]
      rw [← e];exact q hp H2 s2
    | false =>
      have hu:=ZcC h0;refine Yw ⟨fun σ' H'=>σ'=[some (.ref b),some (.str n),some (.str (up z))]∧Zj H H',fun σ' H' ⟨e1,e2⟩=>⟨(up z).length,hu,up z,rfl,e1,by omega,by rw [← hnr,Zgu h0 hh],e2⟩,?_⟩;exact ⟨_,rfl,z,rfl,hz,fun H3 s3=>⟨rfl,s2.trans s3⟩⟩
theorem ZcM {f:Addr} {fd:FuncData} (F:Fun K "nearest_named" "nearest_named" Yn f fd) (T:Txt K g mg) (Qai:Dm P w0 K mg base (CXR P w0 base) g.Lives 4 "nearest" ["self","name"] (ZU K g)):FnOk P w0 K mg base (CXR P w0 base) 5 f fd ["world","name"] (X3 K g):=by
  refine F.okX ZaE (fun vs H Q E h=>?_) (fun cdv A outer s H vs Q E hr h=>?_)
  · obtain ⟨w,S,R,n,rfl,_⟩:=h;rfl
  obtain ⟨w,S,R,n,rfl,W,hn,q1,q2,q⟩:=h;refine ⟨_,(
(@Ze _ _ _ _ _ (@Zw _ _ (2) _ _ _ _ ZaE.nd rfl (Or.inl rfl) (@ZL _ _ _ _ _ _ _ _ _ _ _ _ _ _ _ _ XY Qai (hr.mono (by decide)) (@Zx _ _ _ _ _ (by walk_at "0") rfl) (@Za _ _ _ _ _ (by walk_at "1") (@Zc _) (by rfl)) (by rfl) (by rfl) (by rfl)) (by rfl) (by walk_at "u")) (@Ze _ _ _ _ _ (@Zy _ _ _ _ _ _ _ _ (@Zp _ _ _ _ _ _ _ _ (@Ya _) (by walk_at "2") (@Zo _ _ _ _) (Zu _)) (@Zg _ _ _ (@Xn _ _ _ _ _ _ _ _ _ _ _ _ _ _ _ _ _ _ _ _ _ _ T.QcN.x T.QcM (@Zo _ _ _ _) (by rfl) (by rfl) (by decide))) (@Zq _)) (@Zg _ _ _ (@Zm _ _ _ _ (by walk_at "2")))))),?_⟩
  obtain ⟨dx,b,hd,RL,hw,L,hh,eR,n1,n2⟩:=W.ex;obtain ⟨dy,y1,y2,y3,hb⟩:=L.obj;refine ⟨_,rfl,w,_,dx,_,_,rfl,hw,T.Qaa,T.Qah,rfl,b,dy,_,rfl,hb,rfl,_,rfl,b,S.bs,S.ds,RL,n,rfl,L,hn,q1,fun hp H' s=>?_⟩
  by_cases e:nr S.bs n=("":Str)
  · rw [e];exact ⟨_,rfl,rfl,_,rfl,Zcs ⟨rfl,q2 hp e H' s⟩⟩
  · exact ⟨_,rfl,rfl,_,rfl,YI (beq_eq_false_iff_ne.mpr e) ⟨_,rfl,q hp e H' s⟩⟩
theorem Zd6 {f:Addr} {fd:FuncData} (F:Fun K "known" "Lives.known" Y0 f fd) (T:Txt K g mg)  : FnOk P w0 K mg base CX0 1 f fd ["self","name"] (Z5 K g):=by
  refine F.ok ZdN (fun vs H Q E h=>?_) (fun cdv A outer s H vs Q E hr h=>?_)
  · obtain ⟨b,bs,ds,R,n,rfl,_⟩:=h;rfl
  obtain ⟨b,bs,ds,R,n,rfl,L,q⟩:=h;refine ⟨_,(
(@Zg _ _ _ (@Zm _ _ _ _ (@Zg2 _ _ _ _ _ _ (@Zb1 _ _ _ _ _ (Z9 hr) (by walk_at "1") (@Zx _ _ _ _ _ (by walk_at "0") rfl)) (by walk_at "n"))))),?_⟩
  obtain ⟨d1,d2,d3,ws,B,k1,k2,eR⟩:=id L.ex;obtain ⟨dx,hb⟩:=B.obj;refine ⟨_,rfl,_,rfl,b,_,dx,_,_,rfl,hb,T.Qab,T.Qam,rfl,d1,_,rfl,B.births n,?_⟩;rw [Z4];exact q
theorem ZbP {f:Addr} {fd:FuncData} (F:Fun K "want_known" "Lives.want_known" ZZ f fd) (T:Txt K g mg) (Qag:Dm P w0 K mg base CX0 g.Lives 1 "known" ["self","name"] (Z5 K g)):FnOk P w0 K mg base (CXR P w0 base) 2 f fd ["self","name"] (ZS K g):=by
  refine F.okX ZbM (fun vs H Q E h=>?_) (fun cdv A outer s H vs Q E hr h=>?_)
  · obtain ⟨b,bs,ds,R,n,rfl,_⟩:=h;rfl
  obtain ⟨b,bs,ds,R,n,rfl,L,qe,q⟩:=h;refine ⟨_,(
(@Zg _ _ _ (@Zy _ _ _ _ _ _ _ _ (@Jo _ _ _ _ (@ZP _ _ _ (@ZL _ _ _ _ _ _ _ _ _ _ _ _ _ _ _ _ Xa Qag (hr.mono (by decide)) (by walk_at "0") (@Za _ _ _ _ _ (by walk_at "1") (@Zc _) (by rfl)) (by rfl) (by rfl) (by rfl)) (by intro _ ; rfl))) (@Zg _ _ _ (@Xn _ _ _ _ _ _ _ _ _ _ _ _ _ _ _ _ _ _ _ _ _ _ T.QcN.x T.QcM (@Zo _ _ _ _) (by rfl) (by rfl) (by decide))) (@Zq _)))),?_⟩
  obtain ⟨d1,d2,d3,ws,B,k1,k2,eR⟩:=id L.ex;obtain ⟨dx,hb⟩:=B.obj;refine ⟨_,rfl,b,dx,_,rfl,hb,rfl,_,rfl,b,bs,ds,R,n,rfl,L,_,rfl,?_⟩;cases e:has bs n with
  | false=>exact Yw ⟨rfl,qe e⟩
  | true=>exact Yb (q e)
theorem Zdj {f:Addr} {fd:FuncData} (F:Fun K "age_in" "Lives.age_in" YF f fd) (T:Txt K g mg) (Qaj:Dm P w0 K mg base (CXR P w0 base) g.Lives 2 "want_known" ["self","name"] (ZS K g)):FnOk P w0 K mg base (CXR P w0 base) 3 f fd ["self","name","year"] (JF K g):=by
  refine F.okX Zdc (fun vs H Q E h=>?_) (fun cdv A outer s H vs Q E hr h=>?_)
  · obtain ⟨b,bs,ds,R,n,t,rfl,_⟩:=h;rfl
  obtain ⟨b,bs,ds,R,n,t,rfl,L,q1,q⟩:=h;refine ⟨_,(
(@Ze _ _ _ _ _ (@ZH _ _ _ _ (@ZL _ _ _ _ _ _ _ _ _ _ _ _ _ _ _ _ XY Qaj (hr.mono (by decide)) (by walk_at "0") (@Za _ _ _ _ _ (by walk_at "1") (@Zc _) (by rfl)) (by rfl) (by rfl) (by rfl)) (by rfl)) (@Zg _ _ _ (@Zm _ _ _ _ (@Zn _ _ _ _ _ _ _ _ (@Zaz _) (@Zgb _ _ _ _ _ _ _ _ _ (Z9 hr) (@Zx _ _ _ _ _ (by walk_at "0") rfl) (by walk_at "1") (by walk_at "2") ⟨rfl,rfl,rfl,rfl⟩) (@ZbF _ _ _ _ _ _ (Z9 hr) (@Zx _ _ _ _ _ (by walk_at "0") rfl) (by walk_at "1") (fun _ _=>rfl))))))),?_⟩
  obtain ⟨d1,d2,d3,ws,B,k1,k2,eR⟩:=id L.ex;obtain ⟨dx,hb⟩:=B.obj;refine ⟨_,rfl,b,dx,_,rfl,hb,rfl,_,rfl,b,bs,ds,R,n,rfl,L,q1,fun hn=>?_⟩;have hn':=hn;unfold has at hn';cases hy:yr bs n with
  | none=>rw [hy] at hn'; cases hn'
  | some y =>
    have g0:=B.births n;rw [XL,hy] at g0;have g1:=B.deaths n;rw [XL] at g1;refine ⟨_,rfl,b,_,dx,_,_,rfl,hb,T.Qab,T.QaB,rfl,d2,rfl, .inl ⟨_, .inl B.h2⟩,_,rfl,_,rfl,_,g1,_,rfl,b,_,dx,_,_,rfl,hb,T.Qab,T.Qam,rfl,_,rfl,d1,_,rfl,g0,(yr ds n).getD t,y,?_,rfl,q y hy⟩;cases yr ds n <;> rfl
theorem Zft {f:Addr} {fd:FuncData} (F:Fun K "age" "World.age" XH f fd) (T:Txt K g mg) (Qbn:Dm P w0 K mg base (CXR P w0 base) g.Lives 3 "age_in" ["self","name","year"] (JF K g)):FnOk P w0 K mg base (CXR P w0 base) 4 f fd ["self","name"] (JP K g):=by
  refine F.okX Zfc (fun vs H Q E h=>?_) (fun cdv A outer s H vs Q E hr h=>?_)
  · obtain ⟨w,S,R,n,rfl,_⟩:=h;rfl
  obtain ⟨w,S,R,n,rfl,W,q0,q⟩:=h;refine ⟨_,(
(@Zg _ _ _ (@Zm _ _ _ _ (@ZL _ _ _ _ _ _ _ _ _ _ _ _ _ _ _ _ XY Qbn (hr.mono (by decide)) (@Zx _ _ _ _ _ (by walk_at "0") rfl) (@Za _ _ _ _ _ (by walk_at "1") (@Za _ _ _ _ _ (@Zx _ _ _ _ _ (by walk_at "0") rfl) (@Zc _) (by rfl)) (by rfl)) (by rfl) (by rfl) (by rfl))))),?_⟩
  obtain ⟨dx,b,hd,RL,hw,L,hh,eR,n1,n2⟩:=W.ex;obtain ⟨dy,y1,y2,y3,hb⟩:=L.obj;exact ⟨_,rfl,w,_,dx,_,_,rfl,hw,T.Qaa,T.Qah,rfl,b,dy,_,rfl,hb,rfl,_,rfl,_,rfl,w,_,dx,_,_,rfl,hw,T.Qaa,T.Qau,rfl,b,S.bs,S.ds,RL,n,_,rfl,L,q0,q⟩
theorem Zea {f:Addr} {fd:FuncData} (F:Fun K "alive" "Lives.alive" Y4 f fd) (T:Txt K g mg)  : FnOk P w0 K mg base CX0 1 f fd ["self","name"] (ZK K g):=by
  refine F.ok ZdQ (fun vs H Q E h=>?_) (fun cdv A outer s H vs Q E hr h=>?_)
  · obtain ⟨b,bs,ds,R,n,rfl,_⟩:=h;rfl
  obtain ⟨b,bs,ds,R,n,rfl,L,q⟩:=h;refine ⟨_,(
(@Zg _ _ _ (@Zm _ _ _ _ (@Zbp _ _ _ _ _ _ _ (@Zg2 _ _ _ _ _ _ (@Zb1 _ _ _ _ _ (Z9 hr) (by walk_at "1") (@Zx _ _ _ _ _ (by walk_at "0") rfl)) (by walk_at "n")) (@Zbo _ _ _ _ _ (@Zg2 _ _ _ _ _ _ (@XI _ _ _ _ _ (Z9 hr) (by walk_at "1") (@Zx _ _ _ _ _ (by walk_at "0") rfl)) (by walk_at "n"))))))),?_⟩
  obtain ⟨d1,d2,d3,ws,B,k1,k2,eR⟩:=id L.ex;obtain ⟨dx,hb⟩:=B.obj;refine ⟨_,rfl,_,rfl,b,_,dx,_,_,rfl,hb,T.Qab,T.Qam,rfl,d1,_,rfl,B.births n,_,rfl,?_⟩;unfold al at q;rw [Z4];cases e:has bs n with
  | false =>
    rw [e] at q;exact Yb q
  | true =>
    rw [e] at q;refine Yw ⟨_,rfl,_,rfl,b,_,dx,_,_,rfl,hb,T.Qab,T.QaB,rfl,d2,_,rfl,B.deaths n,?_⟩;rw [Z4];exact q
theorem Zfs {f:Addr} {fd:FuncData} (F:Fun K "age_stand" "age_stand" XG f fd) (T:Txt K g mg) (QaH:Dm P w0 K mg base (CXR P w0 base) g.World 4 "age" ["self","name"] (JP K g)) (Qac:Dm P w0 K mg base CX0 g.Lives 1 "alive" ["self","name"] (ZK K g)):FnOk P w0 K mg base CX0 5 f fd ["world","name","age"] (JO K g):=by
  refine F.ok Zfb (fun vs H Q E h=>?_) (fun cdv A outer s H vs Q E hr h=>?_)
  · obtain ⟨w,S,R,n,a,y,rfl,_⟩:=h;rfl
  obtain ⟨w,S,R,n,a,y,rfl,W,hk,hy,q⟩:=h;refine ⟨_,(
(@Ze _ _ _ _ _ (@Zy _ _ _ _ _ _ _ _ (@Zp _ _ _ _ _ _ _ _ (@Zgf _) (@ZL _ _ _ _ _ _ _ _ _ _ _ _ _ _ _ _ Xr QaH (hr.mono (by decide)) (by walk_at "0") (@Za _ _ _ _ _ (by walk_at "1") (@Zc _) (by rfl)) (by rfl) (by rfl) (by rfl)) (by walk_at "2") (Zu _)) (@Zg _ _ _ (@Zm _ _ _ _ (@ZA _ _ (.str "met") _ _ rfl T.QaD ⟨_,rfl⟩ (by decide)))) (@Zq _)) (@Zg _ _ _ (@Zm _ _ _ _ (@Xp _ _ _ _ _ _ _ _ (@ZP _ _ _ (@ZL _ _ _ _ _ _ _ _ _ _ _ _ _ _ _ _ Xa Qac (hr.mono (by decide)) (@Zx _ _ _ _ _ (by walk_at "0") rfl) (@Za _ _ _ _ _ (by walk_at "1") (@Zc _) (by rfl)) (by rfl) (by rfl) (by rfl)) (by intro _ ; rfl)) (@ZA _ _ (.str "hangs") _ _ rfl T.Qak ⟨_,rfl⟩ (by decide)) (@ZA _ _ (.str "failed") _ _ rfl T.QaE ⟨_,rfl⟩ (by decide))))))),?_⟩
  obtain ⟨dx,b,hd,RL,hw,L,hh,eR,n1,n2⟩:=W.ex;obtain ⟨dy,y1,y2,y3,hb⟩:=L.obj;refine ⟨_,rfl,w,dx,_,rfl,hw,rfl,_,rfl,w,S,R,n,rfl,W,(fun e=>by rw [hk] at e; cases e),fun y1 e1=>?_⟩;obtain rfl:y=y1:=Option.some.inj (hy.symm.trans e1);refine ⟨_,rfl,_,_,rfl,rfl,_,rfl,Yj (fun c=>?_) (fun c=>?_)⟩
  · have c':a≤ZhX S n y:=of_decide_eq_true c;unfold ZdA at q;rw [if_pos c'] at q;exact q
  · have c':¬ a≤ZhX S n y:=fun z=>c (decide_eq_true z);unfold ZdA at q;rw [if_neg c'] at q;refine ⟨_,rfl,w,_,dx,_,_,rfl,hw,T.Qaa,T.Qah,rfl,b,dy,_,rfl,hb,rfl,_,rfl,b,S.bs,S.ds,RL,n,rfl,L,?_⟩;have e2:al S.bs S.ds n = !has S.ds n:=by unfold al; rw [hk]; rfl
    rw [e2];cases hx:has S.ds n with
    | true=>rw [hx] at q; exact ⟨_,rfl,q⟩
    | false=>rw [hx] at q; exact ⟨_,rfl,q⟩
theorem Zde {f:Addr} {fd:FuncData} (F:Fun K "person_stand" "person_stand" YA f fd) (T:Txt K g mg) (Qag:Dm P w0 K mg base CX0 g.Lives 1 "known" ["self","name"] (Z5 K g)) (QaI:Dn P w0 K mg base 5 "age_stand" ["world","name","age"] (JO K g)) (Qac:Dm P w0 K mg base CX0 g.Lives 1 "alive" ["self","name"] (ZK K g)) (Qbo:Dx P w0 K mg base 5 "nearest_named" ["world","name"] (X3 K g)):FnOk P w0 K mg base (CXR P w0 base) 6 f fd ["world","atom"] (JA K g):=by
  refine F.okX Za5 (fun vs H Q E h=>?_) (fun cdv A outer s H vs Q E hr h=>?_)
  · obtain ⟨w,S,R,p,t,n,rfl,_⟩:=h;rfl
  obtain ⟨w,S,R,p,t,n,rfl,W,hp,ht,hn,q1,q⟩:=h;refine ⟨_,(
(@Ze _ _ _ _ _ (@ps_par _ _ (2) (3) _ _ _ _ _ _ _ _ _ _ _ rfl Za5.nd rfl rfl (by decide) rfl rfl (@Za _ _ _ _ _ (@Zt _ _ _ _ _ _ _ (@Zr _) (by walk_at "1") (@Zf _ _ _ _) (fun _ _=>rfl)) (@Za _ _ _ _ _ (@Zt _ _ _ _ _ _ _ (@Zr _) (by walk_at "1") (@Zf _ _ _ _) (fun _ _=>rfl)) (@Zc _) (by rfl)) (by rfl)) rfl (by rfl)) (@Ze _ _ _ _ _ (@Zy _ _ _ _ _ _ _ _ (@Jo _ _ _ _ (@ZP _ _ _ (@ZL _ _ _ _ _ _ _ _ _ _ _ _ _ _ _ _ Xa Qag (hr.mono (by decide)) (@Zx _ _ _ _ _ (by walk_at "0") rfl) (@Za _ _ _ _ _ (by walk_at "3") (@Zc _) (by rfl)) (by rfl) (by rfl) (by rfl)) (by intro _ ; rfl))) (@Zg _ _ _ (@Zm _ _ _ _ (@Xp _ _ _ _ _ _ _ _ (@ZP _ _ _ (@ZL _ _ _ _ _ _ _ _ _ _ _ _ _ _ _ _ Xa Qac (hr.mono (by decide)) (@Zx _ _ _ _ _ (by walk_at "0") rfl) (@Za _ _ _ _ _ (@JI _ _ _ _ _ _ _ _ _ _ _ XY Qbo (hr.mono (by decide)) (@Za _ _ _ _ _ (by walk_at "0") (@Za _ _ _ _ _ (by walk_at "3") (@Zc _) (by rfl)) (by rfl)) (by rfl) (by decide) (by rfl) (by rfl)) (@Zc _) (by rfl)) (by rfl) (by rfl) (by rfl)) (by intro _ ; rfl)) (@ZA _ _ (.str "hangs") _ _ rfl T.Qak ⟨_,rfl⟩ (by decide)) (@ZA _ _ (.str "failed") _ _ rfl T.QaE ⟨_,rfl⟩ (by decide))))) (@Zq _)) (@Ze _ _ _ _ _ (@Zy _ _ _ _ _ _ _ _ (@Zp _ _ _ _ _ _ _ _ (@Ya _) (by walk_at "2") (@Zo _ _ _ _) (Zu _)) (@Zg _ _ _ (@Zm _ _ _ _ (@Zv _ _ _ _ _ _ _ _ _ _ QaI (hr.mono (by decide)) (@Za _ _ _ _ _ (by walk_at "0") (@Za _ _ _ _ _ (by walk_at "3") (@Za _ _ _ _ _ (@Zt _ _ _ _ _ _ _ (@Zr _) (by walk_at "1") (@Zf _ _ _ _) (fun _ _=>rfl)) (@Zc _) (by rfl)) (by rfl)) (by rfl)) (by rfl) (by decide) (by rfl) (by rfl)))) (@Zq _)) (@Ze _ _ _ _ _ (@Zy _ _ _ _ _ _ _ _ (@PW.pt _ _ _ (@Zah _ _ _ _ _ _ _ (@Zp _ _ _ _ _ _ _ _ (@Ya _) (by walk_at "2") (@Zo _ _ _ _) (Zu _)) (@Ju _ _ _ _ (@ZP _ _ _ (@ZL _ _ _ _ _ _ _ _ _ _ _ _ _ _ _ _ Xa Qac (hr.mono (by decide)) (@Zx _ _ _ _ _ (by walk_at "0") rfl) (@Za _ _ _ _ _ (by walk_at "3") (@Zc _) (by rfl)) (by rfl) (by rfl) (by rfl)) (by intro _ ; rfl))))) (@Zg _ _ _ (@Zm _ _ _ _ (@ZA _ _ (.str "hangs") _ _ rfl T.Qak ⟨_,rfl⟩ (by decide)))) (@Zq _)) (@Zg _ _ _ (@Zm _ _ _ _ (@ZA _ _ (.str "met") _ _ rfl T.QaD ⟨_,rfl⟩ (by decide))))))))),?_⟩
  obtain ⟨dx,b,hd,RL,hw,L,hh,eR,n1,n2⟩:=W.ex;obtain ⟨dy,y1,y2,y3,hb⟩:=L.obj;cases t with
  | year y=>cases ht
  | comes y=>cases ht
  | born m =>
    obtain rfl:m=n:=Option.some.inj ht;have hk2:=Atm.bad_known (S:=S) ht;refine ⟨_,rfl,p,_,_,_,rfl,rfl,SqT.of hp,rfl,_,rfl,p,_,_,_,rfl,rfl,SqT.of hp,rfl,_,_,rfl,_,rfl,w,_,dx,_,_,rfl,hw,T.Qaa,T.Qah,rfl,b,dy,_,rfl,hb,rfl,_,rfl,b,S.bs,S.ds,RL,m,rfl,L,_,rfl,Yj (fun c=>?_) (fun c=>?_)⟩
    · have hk:has S.bs m=false:=by cases h:has S.bs m with | false=>rfl | true=>rw [h] at c; cases c
      refine ⟨_,rfl,w,_,dx,_,_,rfl,hw,T.Qaa,T.Qah,rfl,b,dy,_,rfl,hb,rfl,_,rfl,_,rfl,w,S,R,m,rfl,W,hn,(fun e=>q1 _ (Atm.bad_text ht hk e)),(fun e e2=>q1 _ (Atm.bad_lost ht hk e e2)),fun e e2 H' s=>?_⟩;have z:=q (Atm.bad_fine ht hk e e2) H' s;rw [Atm.stand_none ht hk] at z;unfold ZbW at z;refine ⟨b,S.bs,S.ds,RL,_,rfl,L.same s,_,rfl,?_⟩;cases ha:al S.bs S.ds (nr S.bs m) with
      | true=>rw [ha] at z; exact z
      | false=>rw [ha] at z; exact z
    · have hk:has S.bs m=true:=by cases h:has S.bs m with | true=>rfl | false=>rw [h] at c; exact absurd rfl c
      have z:=q (hk2 hk);refine ⟨_,rfl,rfl,_,rfl,YI (by decide +kernel) ⟨_,rfl,rfl,_,rfl,YI (by decide +kernel) ?_⟩⟩;have z1:=z H (Zj.refl _);rw [show (Atm.born m).stand S=("met":Str) from if_pos hk] at z1;exact Yb z1
  | dead m =>
    obtain rfl:m=n:=Option.some.inj ht;have hk2:=Atm.bad_known (S:=S) ht;refine ⟨_,rfl,p,_,_,_,rfl,rfl,SqT.of hp,rfl,_,rfl,p,_,_,_,rfl,rfl,SqT.of hp,rfl,_,_,rfl,_,rfl,w,_,dx,_,_,rfl,hw,T.Qaa,T.Qah,rfl,b,dy,_,rfl,hb,rfl,_,rfl,b,S.bs,S.ds,RL,m,rfl,L,_,rfl,Yj (fun c=>?_) (fun c=>?_)⟩
    · have hk:has S.bs m=false:=by cases h:has S.bs m with | false=>rfl | true=>rw [h] at c; cases c
      refine ⟨_,rfl,w,_,dx,_,_,rfl,hw,T.Qaa,T.Qah,rfl,b,dy,_,rfl,hb,rfl,_,rfl,_,rfl,w,S,R,m,rfl,W,hn,(fun e=>q1 _ (Atm.bad_text ht hk e)),(fun e e2=>q1 _ (Atm.bad_lost ht hk e e2)),fun e e2 H' s=>?_⟩;have z:=q (Atm.bad_fine ht hk e e2) H' s;rw [Atm.stand_none ht hk] at z;unfold ZbW at z;refine ⟨b,S.bs,S.ds,RL,_,rfl,L.same s,_,rfl,?_⟩;cases ha:al S.bs S.ds (nr S.bs m) with
      | true=>rw [ha] at z; exact z
      | false=>rw [ha] at z; exact z
    · have hk:has S.bs m=true:=by cases h:has S.bs m with | true=>rfl | false=>rw [h] at c; exact absurd rfl c
      have z:=q (hk2 hk);refine ⟨_,rfl,rfl,_,rfl,YI (by decide +kernel) ⟨_,rfl,rfl,_,rfl,Zcs ⟨_,rfl,w,_,dx,_,_,rfl,hw,T.Qaa,T.Qah,rfl,b,dy,_,rfl,hb,rfl,_,rfl,b,S.bs,S.ds,RL,m,rfl,L,_,rfl,?_⟩⟩⟩;have z1:=z H (Zj.refl _);rw [show (Atm.dead m).stand S=(if has S.ds m=true then ("met":Str) else "hangs") from if_pos hk] at z1;have e2:al S.bs S.ds m = !has S.ds m:=by unfold al; rw [hk]; rfl
      rw [e2];cases hx:has S.ds m with
      | true=>rw [hx] at z1; exact Yb z1
      | false=>rw [hx] at z1; exact Yw z1
  | age m a =>
    obtain rfl:m=n:=Option.some.inj ht;have hk2:=Atm.bad_known (S:=S) ht;refine ⟨_,rfl,p,_,_,_,rfl,rfl,SqT.of hp,rfl,_,rfl,p,_,_,_,rfl,rfl,SqT.of hp,rfl,_,_,rfl,_,rfl,w,_,dx,_,_,rfl,hw,T.Qaa,T.Qah,rfl,b,dy,_,rfl,hb,rfl,_,rfl,b,S.bs,S.ds,RL,m,rfl,L,_,rfl,Yj (fun c=>?_) (fun c=>?_)⟩
    · have hk:has S.bs m=false:=by cases h:has S.bs m with | false=>rfl | true=>rw [h] at c; cases c
      refine ⟨_,rfl,w,_,dx,_,_,rfl,hw,T.Qaa,T.Qah,rfl,b,dy,_,rfl,hb,rfl,_,rfl,_,rfl,w,S,R,m,rfl,W,hn,(fun e=>q1 _ (Atm.bad_text ht hk e)),(fun e e2=>q1 _ (Atm.bad_lost ht hk e e2)),fun e e2 H' s=>?_⟩;have z:=q (Atm.bad_fine ht hk e e2) H' s;rw [Atm.stand_none ht hk] at z;unfold ZbW at z;refine ⟨b,S.bs,S.ds,RL,_,rfl,L.same s,_,rfl,?_⟩;cases ha:al S.bs S.ds (nr S.bs m) with
      | true=>rw [ha] at z; exact z
      | false=>rw [ha] at z; exact z
    · have hk:has S.bs m=true:=by cases h:has S.bs m with | true=>rfl | false=>rw [h] at c; exact absurd rfl c
      have z:=q (hk2 hk);obtain ⟨y,hy⟩:=ZiI hk;refine ⟨_,rfl,rfl,_,rfl,Zcs ⟨_,rfl,_,rfl,_,rfl,p,_,_,_,rfl,rfl,SqT.of hp,rfl,w,S,R,m,a,y,rfl,W,hk,hy,?_⟩⟩;have z1:=z H (Zj.refl _);rw [show (Atm.age m a).stand S=ZdA S m y a from by show (match yr S.bs m with | some y=>_ | none=>_)=_; rw [hy]] at z1;exact z1
theorem ZcQ {f:Addr} {fd:FuncData} (F:Fun K "came_in" "World.came_in" Yq f fd) (T:Txt K g mg)  : FnOk P w0 K mg base CX0 1 f fd ["self","word"] (X7 K g):=by
  refine F.ok ZcH (fun vs H Q E h=>?_) (fun cdv A outer s H vs Q E hr h=>?_)
  · obtain ⟨w,S,R,n,rfl,_⟩:=h;rfl
  obtain ⟨w,S,R,n,rfl,W,q⟩:=h;refine ⟨_,(
(@Zg _ _ _ (@Zm _ _ _ _ (@Zi9 _ _ _ _ _ _ _ (Z9 hr) (@Zx _ _ _ _ _ (by walk_at "0") rfl) (by walk_at "1") ⟨rfl,rfl,rfl,rfl⟩)))),?_⟩
  obtain ⟨dx,b,hd,RL,hw,L,hh,eR,n1,n2⟩:=W.ex;obtain ⟨dy,y1,y2,y3,hb⟩:=L.obj;have g0:Yx H hd (.str n) (Xc (yrs S.cs) (Sum.inr n:Key)):=Yx.k (k:=Sum.inr n) hh;rw [XL] at g0;exact ⟨_,rfl,w,_,dx,_,_,rfl,hw,T.Qaa,T.QaZ,rfl,hd,rfl, .inl ⟨_, .inl hh⟩,_,rfl,_,g0,q⟩
theorem Zew {f:Addr} {fd:FuncData} (F:Fun K "atom_stand" "atom_stand" Xg f fd) (T:Txt K g mg) (Qbp:Dx P w0 K mg base 6 "person_stand" ["world","atom"] (JA K g)) (Qbq:Dm P w0 K mg base CX0 g.World 1 "came_in" ["self","word"] (X7 K g)):FnOk P w0 K mg base (CXR P w0 base) 7 f fd ["world","atom"] (Js K g):=by
  refine F.okX ZbS (fun vs H Q E h=>?_) (fun cdv A outer s H vs Q E hr h=>?_)
  · obtain ⟨w,S,R,p,t,rfl,_⟩:=h;rfl
  obtain ⟨w,S,R,p,t,rfl,W,hp,hn,q1,q⟩:=h;refine ⟨_,(
(@Ze _ _ _ _ _ (@Zw _ _ (2) _ _ _ _ ZbS.nd rfl (Or.inl rfl) (@Zt _ _ _ _ _ _ _ (@Zr _) (by walk_at "1") (@Zf _ _ _ _) (fun _ _=>rfl)) (by rfl) (by walk_at "u")) (@Ze _ _ _ _ _ (@Zy _ _ _ _ _ _ _ _ (@Zp _ _ _ _ _ _ _ _ (@Ya _) (by walk_at "2") (@Zo _ _ _ _) (Zu _)) (@Zg _ _ _ (@Zm _ _ _ _ (@Xp _ _ _ _ _ _ _ _ (@Zp _ _ _ _ _ _ _ _ (@Zgf _) (@Zx _ _ _ _ _ (by walk_at "0") rfl) (@Zt _ _ _ _ _ _ _ (@Zr _) (by walk_at "1") (@Zf _ _ _ _) (fun _ _=>rfl)) (Zu _)) (@ZA _ _ (.str "met") _ _ rfl T.QaD ⟨_,rfl⟩ (by decide)) (@ZA _ _ (.str "hangs") _ _ rfl T.Qak ⟨_,rfl⟩ (by decide))))) (@Zq _)) (@Ze _ _ _ _ _ (@Zy _ _ _ _ _ _ _ _ (@Zp _ _ _ _ _ _ _ _ (@Ya _) (by walk_at "2") (@Zo _ _ _ _) (Zu _)) (@Zg _ _ _ (@Zm _ _ _ _ (@Xp _ _ _ _ _ _ _ _ (@Zp _ _ _ _ _ _ _ _ (@op_isN _) (@ZL _ _ _ _ _ _ _ _ _ _ _ _ _ _ _ _ Xa Qbq (hr.mono (by decide)) (by walk_at "0") (@Za _ _ _ _ _ (@Zt _ _ _ _ _ _ _ (@Zr _) (by walk_at "1") (@Zf _ _ _ _) (fun _ _=>rfl)) (@Zc _) (by rfl)) (by rfl) (by rfl) (by rfl)) (@pe_non _ _ _) (Zu _)) (@ZA _ _ (.str "hangs") _ _ rfl T.Qak ⟨_,rfl⟩ (by decide)) (@ZA _ _ (.str "met") _ _ rfl T.QaD ⟨_,rfl⟩ (by decide))))) (@Zq _)) (@Zg _ _ _ (@Zm _ _ _ _ (@JI _ _ _ _ _ _ _ _ _ _ _ XY Qbp (hr.mono (by decide)) (@Za _ _ _ _ _ (by walk_at "0") (@Za _ _ _ _ _ (by walk_at "1") (@Zc _) (by rfl)) (by rfl)) (by rfl) (by decide) (by rfl) (by rfl)))))))),?_⟩
  obtain ⟨dx,b,hd,RL,hw,L,hh,eR,n1,n2⟩:=W.ex;obtain ⟨dy,y1,y2,y3,hb⟩:=L.obj;cases t with
  | year y =>
    have z:=q rfl H (Zj.refl _);refine ⟨_,rfl,p,_,_,_,rfl,rfl,SqT.of hp,rfl,_,rfl,rfl,_,rfl,Zcs ⟨_,rfl,w,_,dx,_,_,rfl,hw,T.Qaa,T.Qau,rfl,_,rfl,p,_,_,_,rfl,rfl,SqT.of hp,rfl,_,_,rfl,rfl,_,rfl,Yj (fun c=>?_) (fun c=>?_)⟩⟩
    · rw [show (Atm.year y).stand S=("met":Str) from if_pos (of_decide_eq_true c)] at z;exact z
    · rw [show (Atm.year y).stand S=("hangs":Str) from if_neg (fun e=>c (decide_eq_true e))] at z;exact z
  | comes v =>
    have z:=q rfl H (Zj.refl _);refine ⟨_,rfl,p,_,_,_,rfl,rfl,SqT.of hp,rfl,_,rfl,rfl,_,rfl,YI (by decide +kernel) ⟨_,rfl,rfl,_,rfl,Zcs ⟨_,rfl,w,dx,_,rfl,hw,rfl,_,rfl,p,_,_,_,rfl,rfl,SqT.of hp,rfl,w,S,R,v,rfl,W,rfl,_,rfl,?_⟩⟩⟩;cases hy:yr S.cs v with
    | none =>
      rw [show (Atm.comes v).stand S=("hangs":Str) from if_neg (by unfold has; rw [hy]; decide)] at z;exact Yw z
    | some y =>
      rw [show (Atm.comes v).stand S=("met":Str) from if_pos (by unfold has; rw [hy]; rfl)] at z;exact Yb z
  | born m=>exact ⟨_,rfl,p,_,_,_,rfl,rfl,SqT.of hp,rfl,_,rfl,rfl,_,rfl,YI (by decide +kernel) ⟨_,rfl,rfl,_,rfl,YI (by decide +kernel) ⟨_,rfl,_,rfl,w,S,R,p,_,m,rfl,W,hp,rfl,hn m rfl,q1,q⟩⟩⟩
  | dead m=>exact ⟨_,rfl,p,_,_,_,rfl,rfl,SqT.of hp,rfl,_,rfl,rfl,_,rfl,YI (by decide +kernel) ⟨_,rfl,rfl,_,rfl,YI (by decide +kernel) ⟨_,rfl,_,rfl,w,S,R,p,_,m,rfl,W,hp,rfl,hn m rfl,q1,q⟩⟩⟩
  | age m a=>exact ⟨_,rfl,p,_,_,_,rfl,rfl,SqT.of hp,rfl,_,rfl,rfl,_,rfl,YI (by decide +kernel) ⟨_,rfl,rfl,_,rfl,YI (by decide +kernel) ⟨_,rfl,_,rfl,w,S,R,p,_,m,rfl,W,hp,rfl,hn m rfl,q1,q⟩⟩⟩
theorem Zgg {f:Addr} {fd:FuncData} (F:Fun K "together" "together" X9 f fd) (T:Txt K g mg)  : FnOk P w0 K mg base CX0 1 f fd ["stands"] (Zal K g):=by
  refine F.ok Zf3 (fun vs H Q E h=>?_) (fun cdv A outer s H vs Q E hr h=>?_)
  · obtain ⟨l,ss,rfl,_⟩:=h;rfl
  obtain ⟨l,ss,rfl,hl,q⟩:=h;refine ⟨_,(
(@Ze _ _ _ _ _ (@Zy _ _ _ _ _ _ _ _ (@Zp _ _ _ _ _ _ _ _ (@ZaN _) (@ZA _ _ (.str "failed") _ _ rfl T.QaE ⟨_,rfl⟩ (by decide)) (by walk_at "0") rfl) (@Zg _ _ _ (@Zm _ _ _ _ (@ZA _ _ (.str "failed") _ _ rfl T.QaE ⟨_,rfl⟩ (by decide)))) (@Zq _)) (@Zg _ _ _ (@Zm _ _ _ _ (@Xp _ _ _ _ _ _ _ _ (@Zp _ _ _ _ _ _ _ _ (@ZaN _) (@ZA _ _ (.str "hangs") _ _ rfl T.Qak ⟨_,rfl⟩ (by decide)) (by walk_at "0") rfl) (@ZA _ _ (.str "hangs") _ _ rfl T.Qak ⟨_,rfl⟩ (by decide)) (@ZA _ _ (.str "met") _ _ rfl T.QaD ⟨_,rfl⟩ (by decide))))))),?_⟩
  unfold Yl at q;refine ⟨_,rfl,l,_,rfl, .inl hl,rfl,ZcW ss,_,rfl,?_⟩;rw [show (if false=true then !inV (V.str "failed") (ss.map V.str) else inV (V.str "failed") (ss.map V.str))=decide (("failed":Str)∈ss) from Zcr _ _]
  by_cases c:("failed":Str)∈ss
  · rw [if_pos c] at q;rw [decide_eq_true c];exact q
  rw [if_neg c] at q;rw [decide_eq_false c];refine Yb ?_;refine ⟨_,rfl,l,_,rfl, .inl hl,rfl,ZcW ss,_,rfl,?_⟩;rw [show (if false=true then !inV (V.str "hangs") (ss.map V.str) else inV (V.str "hangs") (ss.map V.str))=decide (("hangs":Str)∈ss) from Zcr _ _]
  by_cases c2:("hangs":Str)∈ss
  · rw [if_pos c2] at q;rw [decide_eq_true c2];exact q
  rw [if_neg c2] at q;rw [decide_eq_false c2];exact q
theorem Zjb {f:Addr} {fd:FuncData} (F:Fun K "stand" "stand" ZbC f fd) (T:Txt K g mg) (QaJ:Dn P w0 K mg base 1 "together" ["stands"] (Zal K g)) (QaK:Dx P w0 K mg base 7 "atom_stand" ["world","atom"] (Js K g)):FnOk P w0 K mg base CX0 8 f fd ["world","atoms"] (ZdB K g):=by
  refine F.ok Zi1 (fun vs H Q E h=>?_) (fun cdv A outer s H vs Q E hr h=>?_)
  · obtain ⟨w,S,R,l,ts,ps,rfl,_⟩:=h;rfl
  obtain ⟨w,S,R,l,ts,ps,rfl,W,A,hok,hlen,q⟩:=h;refine ⟨_,(
(@Zg _ _ _ (@Zm _ _ _ _ (@Zv _ _ _ _ _ _ _ _ _ _ QaJ (hr.mono (by decide)) (@Za _ _ _ _ _ (@ZaM _ _ _ ("atom") _ _ _ ([("world",s.heap.objs.size+1)]) _ ([("world",0)]) _ _ _ rfl (@Yc _ _ _ _ (by walk_at "1")) (fun _ _ _ _ _=>(@Zai _)) (fun _ _ _ _ _=>(@JI _ _ _ _ _ _ _ _ _ _ _ Xr QaK (hr.mono (by decide)) (@Za _ _ _ _ _ (by walk_at "1") (@Za _ _ _ _ _ (by walk_at "0") (@Zc _) (by rfl)) (by rfl)) (by rfl) (by decide) (by rfl) (by rfl))) rfl (by decide +kernel) rfl (by decide +kernel) rfl (fun _ _ h=>h) (YL rfl) (fun p hp=>by rw [List.mem_singleton.mp hp]; exact ⟨rfl,rfl,by first | exact .inl rfl | exact .inr rfl⟩) (by decide +kernel) (by intro _ ; rfl)) (@Zc _) (by rfl)) (by rfl) (by decide) (by rfl) (by rfl))))),?_⟩
  unfold ZgT tFn Zhv;refine lcLvT (xs:=ps.map V.ref) (fun a H1=>a=l∧H1=H) ?_ ?_ (by rw [length_map,A.len]; exact hlen) (fun _=>true) (fun i => .str ((ts[i]?.map (Atm.stand S)).getD "")) ?_ ?_ ?_
  · exact fun R0 r=>⟨_,rfl,r l H ⟨rfl,rfl⟩⟩
  · rintro a H1 ⟨rfl,rfl⟩;exact SqL.of A.lst
  · exact fun a H1 i x H2 hA hx s R0 r=>r H2 (Zj.refl _)
  · rintro a H1 i x H2 ⟨rfl,rfl⟩ hx _ s R0 r;obtain ⟨p,t,rfl,ht,hp⟩:=(A.same s).at' hx;have ok:=hok t (mem_of_getElem? ht);have nb:=Atm.ok_bad ok;refine ⟨_,rfl,_,rfl,w,S,R,p,t,rfl,W.same s,hp,Atm.ok_len ok,(fun e he=>by rw [nb] at he; cases he),fun _ H3 s3=>?_⟩;have z:=r H3 s3;rw [ht] at z;exact z
  rintro a H1 D H2 ⟨rfl,rfl⟩ hD s h2;rw [Zhg,length_map,A.len,Zh2] at h2;exact ⟨D,_,rfl,SqL.of h2,q H2 s⟩
theorem Zcm {f:Addr} {fd:FuncData} (F:Fun K "children" "Lives.children" Yh f fd) (T:Txt K g mg) (Qaj:Dm P w0 K mg base (CXR P w0 base) g.Lives 2 "want_known" ["self","name"] (ZS K g)):FnOk P w0 K mg base (CXR P w0 base) 3 f fd ["self","name"] (Yu K g):=by
  refine F.okX Zcg (fun vs H Q E h=>?_) (fun cdv A outer s H vs Q E hr h=>?_)
  · obtain ⟨b,bs,ds,R,n,rfl,_⟩:=h;rfl
  obtain ⟨b,bs,ds,R,n,rfl,L,q1,q⟩:=h;refine ⟨_,(
(@Ze _ _ _ _ _ (@ZH _ _ _ _ (@ZL _ _ _ _ _ _ _ _ _ _ _ _ _ _ _ _ XY Qaj (hr.mono (by decide)) (by walk_at "0") (@Za _ _ _ _ _ (by walk_at "1") (@Zc _) (by rfl)) (by rfl) (by rfl) (by rfl)) (by rfl)) (@Zg _ _ _ (@Zm _ _ _ _ (@YG _ _ _ _ _ _ _ _ _ (show Jz _ (.type "list") (Zfd K) from (@Zb8 _)) rfl T.z_list boot_list (@Za _ _ _ _ _ (@ZbF _ _ _ _ _ _ (Z9 hr) (@Zx _ _ _ _ _ (by walk_at "0") rfl) (by walk_at "1") (fun _ _=>rfl)) (@Zc _) (by rfl)) (by decide) (by decide) (by rfl) (by rfl)))))),?_⟩
  obtain ⟨d1,d2,d3,ws,B,k1,k2,eR⟩:=id L.ex;obtain ⟨dx,hb⟩:=B.obj;refine ⟨_,rfl,b,dx,_,rfl,hb,rfl,_,rfl,b,bs,ds,R,n,rfl,L,q1,fun hn=>?_⟩;obtain ⟨a,hw⟩:=ZjV k1 k2 hn;have g0:Yx H d3 (.str n) (Xc (brs ws) (Sum.inr n:Key)):=Yx.k (k:=Sum.inr n) B.h3;rw [Zdz,hw] at g0;exact ⟨_,rfl,b,_,dx,_,_,rfl,hb,T.Qab,T.QaC,rfl,_,rfl,d3,_,rfl,g0,a,_,rfl, .inl (SqL.of (B.kids _ (Zdw hw))),fun l hl=>q hn l _ (Zi hl _) hl Zd⟩
theorem Zjd {f:Addr} {fd:FuncData} (F:Fun K "brood" "brood" ZbE f fd) (T:Txt K g mg) (Qag:Dm P w0 K mg base CX0 g.Lives 1 "known" ["self","name"] (Z5 K g)) (Qav:Dm P w0 K mg base (CXR P w0 base) g.Lives 3 "children" ["self","name"] (Yu K g)):FnOk P w0 K mg base CX0 4 f fd ["world","name"] (Zcc K g):=by
  refine F.ok Zi2 (fun vs H Q E h=>?_) (fun cdv A outer s H vs Q E hr h=>?_)
  · obtain ⟨w,S,R,n,rfl,_⟩:=h;rfl
  obtain ⟨w,S,R,n,rfl,W,q⟩:=h;refine ⟨_,(
(@Zg _ _ _ (@Zm _ _ _ _ (@Xp _ _ _ _ _ _ _ _ (@ZP _ _ _ (@ZL _ _ _ _ _ _ _ _ _ _ _ _ _ _ _ _ Xa Qag (hr.mono (by decide)) (@Zx _ _ _ _ _ (by walk_at "0") rfl) (@Za _ _ _ _ _ (by walk_at "1") (@Zc _) (by rfl)) (by rfl) (by rfl) (by rfl)) (by intro _ ; rfl)) (@ZL _ _ _ _ _ _ _ _ _ _ _ _ _ _ _ _ Xr Qav (hr.mono (by decide)) (@Zx _ _ _ _ _ (by walk_at "0") rfl) (@Za _ _ _ _ _ (by walk_at "1") (@Zc _) (by rfl)) (by rfl) (by rfl) (by rfl)) (@Ym _ _ _ _ (@Zc _)))))),?_⟩
  obtain ⟨dx,b,hd,RL,hw,L,hh,eR,n1,n2⟩:=W.ex;obtain ⟨dy,y1,y2,y3,hb⟩:=L.obj;have wf:=W.wf;walk_at "go";cases hk:has S.bs n with
  | true =>
    refine Yw ?_;walk_at "go";refine ⟨(fun e=>by rw [hk] at e; cases e),fun _ l H' s f0 h=>q l H' s f0 (by rw [h,kidVL]; rfl)⟩
  | false =>
    refine Yb ?_;exact ⟨zero_le _,fun l hl=>q l _ (Zi hl _) hl (by rw [Zd,Zbt wf hk]; rfl)⟩
theorem Zgk {f:Addr} {fd:FuncData} (F:Fun K "left_out" "left_out" Jd f fd) (T:Txt K g mg) (QaL:Dn P w0 K mg base 4 "brood" ["world","name"] (Zcc K g)) (Qac:Dm P w0 K mg base CX0 g.Lives 1 "alive" ["self","name"] (ZK K g)):FnOk P w0 K mg base CX0 5 f fd ["world","name"] (Zan K g):=by
  refine F.ok Zf5 (fun vs H Q E h=>?_) (fun cdv A outer s H vs Q E hr h=>?_)
  · obtain ⟨w,S,R,n,rfl,_⟩:=h;rfl
  obtain ⟨w,S,R,n,rfl,W,hlen,q⟩:=h;refine ⟨_,(
(@Zg _ _ _ (@Zm _ _ _ _ (@ZaM _ _ _ ("child") _ _ _ ([("world",s.heap.objs.size+1)]) _ ([("world",0)]) _ _ _ rfl (@Yc _ _ _ _ (@Zv _ _ _ _ _ _ _ _ _ _ QaL (hr.mono (by decide)) (@Za _ _ _ _ _ (by walk_at "0") (@Za _ _ _ _ _ (by walk_at "1") (@Zc _) (by rfl)) (by rfl)) (by rfl) (by decide) (by rfl) (by rfl))) (fun _ _ _ _ _=>(@YN _ _ _ (@Jo _ _ _ _ (@ZP _ _ _ (@ZL _ _ _ _ _ _ _ _ _ _ _ _ _ _ _ _ Xa Qac (hr.mono (by decide)) (show PE _ _ (tFld K (Ze2 1) "lives") from (@Zx _ _ _ _ _ (by walk_at "1") rfl)) (@Za _ _ _ _ _ (by walk_at "0") (@Zc _) (by rfl)) (by rfl) (by rfl) (by rfl)) (by intro _ ; rfl))))) (fun _ _ _ _ _=>(by walk_at "0")) rfl (by decide +kernel) rfl (by decide +kernel) rfl (fun _ _ h=>h) (YL rfl) (fun p hp=>by rw [List.mem_singleton.mp hp]; exact ⟨rfl,rfl,by first | exact .inl rfl | exact .inr rfl⟩) (by decide +kernel) (by intro _ ; rfl))))),?_⟩
  have wf:=W.wf;unfold ZgT;refine lcS (ss:=Xm S n) (fun l1 H1=>Zj H H1∧H1 l1=some (.lst ((Xm S n).map V.str))∧H l1=none) (fun c => !al S.bs S.ds c) V.str ?_ (fun a H1 h=>SqL.of h.2.1) (by have:=Zb4 wf n; omega) ?_ ?_ ?_
  · intro R0 r;walk_at "go";exact fun l H' s f h=>r l H' ⟨s,h,f⟩
  · rintro a0 H1 x H2 ⟨s1,h1,_⟩ hx s R0 r;obtain ⟨dx,b,hd,RL,hw,L,hh,eR,n1,n2⟩:=(W.same (s1.trans s)).ex;obtain ⟨dy,y1,y2,y3,hb⟩:=L.obj;walk_at "go";exact r H2 (Zj.refl _)
  · exact fun a H1 x H2 _ hx _ s R0 r=>⟨_,rfl,r H2 (Zj.refl _)⟩
  · rintro a0 H1 D H2 ⟨s1,h1,_⟩ hD s h;exact q D H2 (s1.trans s) (s1.free hD) (by rw [h,out_eq wf])
theorem Zg4 {f:Addr} {fd:FuncData} (F:Fun K "members" "members" JU f fd) (T:Txt K g mg) (QaL:Dn P w0 K mg base 4 "brood" ["world","name"] (Zcc K g)):FnOk P w0 K mg base CX0 5 f fd ["world","name","out"] (ZaS K g):=by
  refine F.ok ZgW (fun vs H Q E h=>?_) (fun cdv A outer s H vs Q E hr h=>?_)
  · obtain ⟨w,S,R,n,o,os,rfl,_⟩:=h;rfl
  obtain ⟨w,S,R,n,o,os,rfl,W,ho,hlen,q⟩:=h;refine ⟨_,(
(@Zg _ _ _ (@Zm _ _ _ _ (@ZaM _ _ _ ("child") _ _ _ ([("out",s.heap.objs.size+1)]) _ ([("out",2)]) _ _ _ rfl (@Yc _ _ _ _ (@Zv _ _ _ _ _ _ _ _ _ _ QaL (hr.mono (by decide)) (@Za _ _ _ _ _ (by walk_at "0") (@Za _ _ _ _ _ (by walk_at "1") (@Zc _) (by rfl)) (by rfl)) (by rfl) (by decide) (by rfl) (by rfl))) (fun _ _ _ _ _=>(@YN _ _ _ (@Zp _ _ _ _ _ _ _ _ (show OpR _ (compareOp .NotIn) (rIn K true) from (@Za1 _)) (by walk_at "0") (by walk_at "1") rfl))) (fun _ _ _ _ _=>(by walk_at "0")) rfl (by decide +kernel) rfl (by decide +kernel) rfl (fun _ _ h=>h) (YL rfl) (fun p hp=>by rw [List.mem_singleton.mp hp]; exact ⟨rfl,rfl,by first | exact .inl rfl | exact .inr rfl⟩) (by decide +kernel) (by intro _ ; rfl))))),?_⟩
  have wf:=W.wf;unfold ZgT;refine lcS (ss:=Xm S n) (fun l1 H1=>Zj H H1∧H1 l1=some (.lst ((Xm S n).map V.str))∧H l1=none) (fun c => !decide (c∈os)) V.str ?_ (fun a H1 h=>SqL.of h.2.1) (by have:=Zb4 wf n; omega) ?_ ?_ ?_
  · intro R0 r;walk_at "go";exact fun l H' s f h=>r l H' ⟨s,h,f⟩
  · rintro a0 H1 x H2 ⟨s1,h1,_⟩ hx s R0 r;refine ⟨_,rfl,_,rfl,o,_,rfl, .inl ((s1.trans s).seq ho),rfl,ZcW os,_,rfl,?_⟩;rw [show (if true=true then !inV (V.str x) (os.map V.str) else inV (V.str x) (os.map V.str)) = !decide (x∈os) from by rw [if_pos rfl,Zcr]];exact r H2 (Zj.refl _)
  · exact fun a H1 x H2 _ hx _ s R0 r=>⟨_,rfl,r H2 (Zj.refl _)⟩
  · rintro a0 H1 D H2 ⟨s1,h1,_⟩ hD s h;exact q D H2 (s1.trans s) (s1.free hD) h
theorem Zgt {f:Addr} {fd:FuncData} (F:Fun K "has_seat" "has_seat" Jn f fd) (T:Txt K g mg) (QaM:Dn P w0 K mg base 5 "members" ["world","name","out"] (ZaS K g)) (QaH:Dm P w0 K mg base (CXR P w0 base) g.World 4 "age" ["self","name"] (JP K g)):FnOk P w0 K mg base CX0 6 f fd ["world","name","age","out"] (Zaq K g):=by
  refine F.ok Zc1 (fun vs H Q E h=>?_) (fun cdv A outer s H vs Q E hr h=>?_)
  · obtain ⟨w,S,R,n,a,o,os,rfl,_⟩:=h;rfl
  obtain ⟨w,S,R,n,a,o,os,rfl,W,ho,hlen,q⟩:=h;refine ⟨_,(
(@Ze _ _ _ _ _ (@Za0 _ _ _ _ _ _ _ _ PassesOwn.never rfl (@Yc _ _ _ _ (@Zv _ _ _ _ _ _ _ _ _ _ QaM (hr.mono (by decide)) (@Za _ _ _ _ _ (by walk_at "0") (@Za _ _ _ _ _ (by walk_at "1") (@Za _ _ _ _ _ (by walk_at "3") (@Zc _) (by rfl)) (by rfl)) (by rfl)) (by rfl) (by decide) (by rfl) (by rfl))) (@Yk _ _ (4) _ Zc1.nd rfl (Or.inl rfl) (by walk_at "u")) (@Zg _ _ _ (@Zy _ _ _ _ _ _ _ _ (@Zp _ _ _ _ _ _ _ _ (@Zgf _) (@ZL _ _ _ _ _ _ _ _ _ _ _ _ _ _ _ _ Xr QaH (hr.mono (by decide)) (by walk_at "0") (@Za _ _ _ _ _ (by walk_at "4") (@Zc _) (by rfl)) (by rfl) (by rfl) (by rfl)) (by walk_at "2") (Zu _)) (@Zg _ _ _ (@Zm _ _ _ _ (@Zau _ _ _ _))) (@Zq _))) (by intro _ ; rfl)) (@Zg _ _ _ (@Zm _ _ _ _ (@Zau _ _ _ _))))),?_⟩
  have wf:=W.wf;refine ⟨_,rfl,_,rfl,_,rfl,w,S,R,n,o,os,rfl,W,ho,hlen,fun l1 H1 s1 f1 h1=>?_⟩;refine ⟨l1,rfl,⟨_,SqL.of h1⟩,Zen (xs:=(Zb3 S n os).map V.str) (fun i σ H2=>∃ v4:Option V,σ=[some (.ref w),some (.str n),some (.int a),some (.ref o),v4]∧Zj H1 H2∧((Zb3 S n os).take i).any (fun c=>decide (a≤Zdl S c))=false) ⟨_,rfl,Zj.refl _,rfl⟩ ?_ ?_ ?_⟩
  · rintro i σ H2 _ ⟨_,rfl,s2,_⟩;exact SqL.of (s2 _ _ h1)
  · rintro i x σ H2 hx ⟨v4,rfl,s2,no⟩;rw [getElem?_map] at hx;cases e:(Zb3 S n os)[i]? with
    | none=>rw [e] at hx; cases hx
    | some c =>
      rw [e] at hx;cases hx;have hm:=mem_of_getElem? e;have hk:=Jp wf (Zed hm);have W2:=(W.same s1).same s2;obtain ⟨dx,b,hd,RL,hw,L,hh,eR,n1,n2⟩:=W2.ex;refine ⟨_,rfl,w,dx,_,rfl,hw,rfl,_,rfl,w,S,R,c,rfl,W2,(fun z=>by rw [hk] at z; cases z),fun y hy=>?_⟩;rw [ZjZ hy];refine ⟨_,rfl,_,_,rfl,rfl,_,rfl,Yj (fun cc=>?_) (fun cc=>?_)⟩
      · have z:Xt S n a os=true:=List.any_eq_true.mpr ⟨c,hm,cc⟩;rw [z] at q;exact q H2 (s1.trans s2)
      · refine ⟨_,rfl,s2,?_⟩;rw [take_succ,e,List.any_append,no];show (false || ([c].any fun c=>decide (a≤Zdl S c)))=false;rw [Bool.false_or,any_cons,List.any_nil,Bool.or_false];exact Bool.eq_false_iff.mpr cc
  · rintro σ H2 ⟨v4,rfl,s2,no⟩;rw [length_map,take_length] at no;have z:Xt S n a os=false:=no;rw [z] at q;exact q H2 (s1.trans s2)
theorem Zg3 {f:Addr} {fd:FuncData} (F:Fun K "waiting" "waiting" JT f fd) (T:Txt K g mg) (QaM:Dn P w0 K mg base 5 "members" ["world","name","out"] (ZaS K g)) (QaI:Dn P w0 K mg base 5 "age_stand" ["world","name","age"] (JO K g)):FnOk P w0 K mg base CX0 6 f fd ["world","name","age","out"] (J4 K g):=by
  refine F.ok ZgV (fun vs H Q E h=>?_) (fun cdv A outer s H vs Q E hr h=>?_)
  · obtain ⟨w,S,R,n,a,o,os,rfl,_⟩:=h;rfl
  obtain ⟨w,S,R,n,a,o,os,rfl,W,ho,hlen,q⟩:=h;refine ⟨_,(
(@Zg _ _ _ (@Zm _ _ _ _ (@ZaM _ _ _ ("child") _ _ _ ([("world",s.heap.objs.size+1),("age",s.heap.objs.size+2)]) _ ([("world",0),("age",2)]) _ _ _ rfl (@Yc _ _ _ _ (@Zv _ _ _ _ _ _ _ _ _ _ QaM (hr.mono (by decide)) (@Za _ _ _ _ _ (by walk_at "0") (@Za _ _ _ _ _ (by walk_at "1") (@Za _ _ _ _ _ (by walk_at "3") (@Zc _) (by rfl)) (by rfl)) (by rfl)) (by rfl) (by decide) (by rfl) (by rfl))) (fun _ _ _ _ _=>(@YN _ _ _ (@Zp _ _ _ _ _ _ _ _ (@Ya _) (@Zv _ _ _ _ _ _ _ _ _ _ QaI (hr.mono (by decide)) (@Za _ _ _ _ _ (by walk_at "1") (@Za _ _ _ _ _ (by walk_at "0") (@Za _ _ _ _ _ (by walk_at "2") (@Zc _) (by rfl)) (by rfl)) (by rfl)) (by rfl) (by decide) (by rfl) (by rfl)) (@ZA _ _ (.str "hangs") _ _ rfl T.Qak ⟨_,rfl⟩ (by decide)) (Zu _)))) (fun _ _ _ _ _=>(by walk_at "0")) rfl (by decide +kernel) rfl (by decide +kernel) rfl (L2.cl_sub (fun p hp=>by simp only [mem_cons,not_mem_nil,or_false] at hp; rcases hp with rfl | rfl <;> rfl)) (YL rfl) (fun p hp=>by simp only [mem_cons,not_mem_nil,or_false] at hp; rcases hp with rfl | rfl <;> exact ⟨rfl,rfl,by first | exact .inl rfl | exact .inr rfl⟩) (by decide +kernel) (by intro _ ; rfl))))),?_⟩
  have wf:=W.wf;unfold ZgT;refine lcS (ss:=Zb3 S n os) (fun l1 H1=>Zj H H1∧H1 l1=some (.lst ((Zb3 S n os).map V.str))∧H l1=none) (fun c => !decide (a≤Zdl S c) && !has S.ds c) V.str ?_ (fun a H1 h=>SqL.of h.2.1) (by have:=Zee wf (n:=n) (os:=os); omega) ?_ ?_ ?_
  · intro R0 r;walk_at "go";exact fun l H' s f h=>r l H' ⟨s,h,f⟩
  · rintro a0 H1 x H2 ⟨s1,h1,_⟩ hx s R0 r;have hk:=Jp wf (Zed hx);obtain ⟨y,hy⟩:=ZiI hk;have W2:=W.same (s1.trans s);refine ⟨_,rfl,_,rfl,_,rfl,w,S,R,x,a,y,rfl,W2,hk,hy,rfl,_,rfl,?_⟩;rw [ZfY hy];exact r H2 (Zj.refl _)
  · exact fun a H1 x H2 _ hx _ s R0 r=>⟨_,rfl,r H2 (Zj.refl _)⟩
  · rintro a0 H1 D H2 ⟨s1,h1,_⟩ hD s h;exact q D H2 (s1.trans s) (s1.free hD) h
theorem Zgj {f:Addr} {fd:FuncData} (F:Fun K "may_grow" "may_grow" Jc f fd) (T:Txt K g mg) (Qac:Dm P w0 K mg base CX0 g.Lives 1 "alive" ["self","name"] (ZK K g)) (Qai:Dm P w0 K mg base (CXR P w0 base) g.Lives 4 "nearest" ["self","name"] (ZU K g)):FnOk P w0 K mg base CX0 5 f fd ["world","name"] (Zam K g):=by
  refine F.ok Zf4 (fun vs H Q E h=>?_) (fun cdv A outer s H vs Q E hr h=>?_)
  · obtain ⟨w,S,R,n,rfl,_⟩:=h;rfl
  obtain ⟨w,S,R,n,rfl,W,hp,q⟩:=h;refine ⟨_,(
(@Zg _ _ _ (@Zm _ _ _ _ (@ZL _ _ _ _ _ _ _ _ _ _ _ _ _ _ _ _ Xa Qac (hr.mono (by decide)) (@Zx _ _ _ _ _ (by walk_at "0") rfl) (@Za _ _ _ _ _ (@ZL _ _ _ _ _ _ _ _ _ _ _ _ _ _ _ _ Xr Qai (hr.mono (by decide)) (@Zx _ _ _ _ _ (by walk_at "0") rfl) (@Za _ _ _ _ _ (by walk_at "1") (@Zc _) (by rfl)) (by rfl) (by rfl) (by rfl)) (@Zc _) (by rfl)) (by rfl) (by rfl) (by rfl))))),?_⟩
  obtain ⟨dx,b,hd,RL,hw,L,hh,eR,n1,n2⟩:=W.ex;obtain ⟨dy,y1,y2,y3,hb⟩:=L.obj;refine ⟨_,rfl,w,_,dx,_,_,rfl,hw,T.Qaa,T.Qah,rfl,b,dy,_,rfl,hb,rfl,_,rfl,w,_,dx,_,_,rfl,hw,T.Qaa,T.Qah,rfl,b,dy,_,rfl,hb,rfl,_,rfl,b,S.bs,S.ds,RL,n,rfl,L,by have:=Xh hp; omega,(fun e=>by rw [hp] at e; cases e),fun _ H' s=>?_⟩;exact ⟨b,S.bs,S.ds,RL,_,rfl,L.same s,q H' s⟩
theorem Zd0 {f:Addr} {fd:FuncData} (F:Fun K "class_stand" "class_stand" YU f fd) (T:Txt K g mg) (QaN:Dn P w0 K mg base 5 "may_grow" ["world","name"] (Zam K g)) (Qaw:Dn P w0 K mg base 6 "waiting" ["world","name","age","out"] (J4 K g)) (QaO:Dn P w0 K mg base 6 "has_seat" ["world","name","age","out"] (Zaq K g)):FnOk P w0 K mg base CX0 7 f fd ["world","name","age","out"] (J8 K g):=by
  refine F.ok ZdH (fun vs H Q E h=>?_) (fun cdv A outer s H vs Q E hr h=>?_)
  · obtain ⟨w,S,R,n,a,o,os,rfl,_⟩:=h;rfl
  obtain ⟨w,S,R,n,a,o,os,rfl,W,ho,hlen,hp,q⟩:=h;refine ⟨_,(
(@Ze _ _ _ _ _ (@Zy _ _ _ _ _ _ _ _ (@PW.pt _ _ _ (@ZbT _ _ _ _ _ _ _ (@ZP _ _ _ (@Zv _ _ _ _ _ _ _ _ _ _ QaN (hr.mono (by decide)) (@Za _ _ _ _ _ (by walk_at "0") (@Za _ _ _ _ _ (by walk_at "1") (@Zc _) (by rfl)) (by rfl)) (by rfl) (by decide) (by rfl) (by rfl)) (by intro _ ; rfl)) (@Zay _ _ _ _ (@ZdR _ _ _ (@Zv _ _ _ _ _ _ _ _ _ _ Qaw (hr.mono (by decide)) (@Za _ _ _ _ _ (by walk_at "0") (@Za _ _ _ _ _ (by walk_at "1") (@Za _ _ _ _ _ (by walk_at "2") (@Za _ _ _ _ _ (by walk_at "3") (@Zc _) (by rfl)) (by rfl)) (by rfl)) (by rfl)) (by rfl) (by decide) (by rfl) (by rfl)) (fun _=>rfl))))) (@Zg _ _ _ (@Zm _ _ _ _ (@ZA _ _ (.str "hangs") _ _ rfl T.Qak ⟨_,rfl⟩ (by decide)))) (@Zq _)) (@Zg _ _ _ (@Zm _ _ _ _ (@Xp _ _ _ _ _ _ _ _ (@ZP _ _ _ (@Zv _ _ _ _ _ _ _ _ _ _ QaO (hr.mono (by decide)) (@Za _ _ _ _ _ (by walk_at "0") (@Za _ _ _ _ _ (by walk_at "1") (@Za _ _ _ _ _ (by walk_at "2") (@Za _ _ _ _ _ (by walk_at "3") (@Zc _) (by rfl)) (by rfl)) (by rfl)) (by rfl)) (by rfl) (by decide) (by rfl) (by rfl)) (by intro _ ; rfl)) (@ZA _ _ (.str "met") _ _ rfl T.QaD ⟨_,rfl⟩ (by decide)) (@ZA _ _ (.str "failed") _ _ rfl T.QaE ⟨_,rfl⟩ (by decide))))))),?_⟩
  unfold clS at q;refine ⟨_,rfl,_,rfl,w,S,R,n,rfl,W,hp,fun H1 s1=>⟨_,rfl,?_⟩⟩;cases ha:al S.bs S.ds (nr S.bs n) with
  | true =>
    rw [ha] at q;exact Yw (q H1 s1)
  | false =>
    rw [ha,Bool.false_or] at q;refine Yb ⟨_,rfl,_,rfl,_,rfl,_,rfl,w,S,R,n,a,o,os,rfl,W.same s1,s1.seq ho,hlen,fun l2 H2 s2 f2 h2=>⟨_, .inl ⟨_,SqL.of h2,rfl⟩,?_⟩⟩;have e2:((Z8 S n a os).map V.str).isEmpty=(Z8 S n a os).isEmpty:=by cases Z8 S n a os <;> rfl
    rw [e2];cases hw:(Z8 S n a os).isEmpty with
    | false =>
      rw [hw] at q;exact Yw (q H2 (s1.trans s2))
    | true =>
      rw [hw] at q;have s12:=s1.trans s2;refine Yb ⟨_,rfl,_,rfl,_,rfl,_,rfl,w,S,R,n,a,o,os,rfl,W.same s12,s12.seq ho,hlen,fun H3 s3=>⟨_,rfl,?_⟩⟩;cases hs:Xt S n a os with
      | true=>rw [hs] at q; exact q H3 (s12.trans s3)
      | false=>rw [hs] at q; exact q H3 (s12.trans s3)
theorem Zfj {f:Addr} {fd:FuncData} (F:Fun K "want_word" "want_word" Xx f fd) (T:Txt K g mg) (QaG:Dn P w0 K mg base 2 "good_word" ["word"] (JM K g)):FnOk P w0 K mg base (CXR P w0 base) 3 f fd ["word"] (JL K g):=by
  refine F.okX Ze5 (fun vs H Q E h=>?_) (fun cdv A outer s H vs Q E hr h=>?_)
  · obtain ⟨x,rfl,_⟩:=h;rfl
  obtain ⟨x,rfl,hx,qe,q⟩:=h;refine ⟨_,(
(@Zg _ _ _ (@Zy _ _ _ _ _ _ _ _ (@Jo _ _ _ _ (@ZP _ _ _ (@Zv _ _ _ _ _ _ _ _ _ _ QaG (hr.mono (by decide)) (@Za _ _ _ _ _ (by walk_at "0") (@Zc _) (by rfl)) (by rfl) (by decide) (by rfl) (by rfl)) (by intro _ ; rfl))) (@Zg _ _ _ (@Xn _ _ _ _ _ _ _ _ _ _ _ _ _ _ _ _ _ _ _ _ _ _ T.Qbj.x T.Qbi (@Zo _ _ _ _) (by rfl) (by rfl) (by decide))) (@Zq _)))),?_⟩
  refine ⟨_,rfl,x,rfl,hx,_,rfl,?_⟩;cases hg:gw x with
  | false=>exact Yw ⟨rfl,qe hg⟩
  | true=>exact Yb (q hg)
theorem Zcn {f:Addr} {fd:FuncData} (F:Fun K "__init__" "Lives.__init__" Yi f fd) (T:Txt K g mg)  : FnOk P w0 K mg base CX0 1 f fd ["self"] (XR K g):=by
  refine F.ok Zch (fun vs H Q E h=>?_) (fun cdv A outer s H vs Q E hr h=>?_)
  · obtain ⟨b,dx,rfl,_⟩:=h;rfl
  obtain ⟨b,dx,rfl,hb,q⟩:=h;refine ⟨_,(
(@Ze _ _ _ _ _ (@ZcK _ _ _ _ _ _ _ _ (by walk_at "0") (@XV _ _) rfl) (@Ze _ _ _ _ _ (@ZcK _ _ _ _ _ _ _ _ (by walk_at "0") (@XV _ _) rfl) (@Zg _ _ _ (@ZcK _ _ _ _ _ _ _ _ (by walk_at "0") (@XV _ _) rfl))))),?_⟩
  intro d1 h1;have n1:b≠d1:=ZB hb h1;refine ⟨_,rfl,b,_,dx,_,rfl,(by rw [Zh n1]; exact hb),T.Qab,T.Qam,by decide,?_⟩;intro d2 h2;have z2:d2≠b:=fun e=>by rw [e,Zd] at h2; cases h2
  rw [Zh z2] at h2;have z21:d2≠d1:=fun e=>by rw [e,Zd] at h2; cases h2
  rw [Zh z21] at h2;refine ⟨_,rfl,b,_,dx,_,rfl,(by rw [Zh (Ne.symm z2),Zd]),T.Qab,T.QaB,(by show 1<1000; decide),?_⟩;intro d3 h3;have z3:d3≠b:=fun e=>by rw [e,Zd] at h3; cases h3
  rw [Zh z3] at h3;have z32:d3≠d2:=fun e=>by rw [e,Zd] at h3; cases h3
  rw [Zh z32,Zh z3] at h3;have z31:d3≠d1:=fun e=>by rw [e,Zd] at h3; cases h3
  rw [Zh z31] at h3;refine ⟨_,rfl,b,_,dx,_,rfl,(by rw [Zh (Ne.symm z3),Zd]),T.Qab,T.QaC,(by show 2<1000; decide),?_⟩;refine q (Zbu b d1 d2 d3 []) _ ⟨fun a o na e=>?_,fun a e=>?_⟩ (fun a ha=>?_) ⟨⟨d1,d2,d3,[],⟨⟨dx,Zd⟩,?_,?_,?_,Ne.symm z21,Ne.symm z31,Ne.symm z32,(fun _ h=>nomatch h), .nil⟩,rfl,(fun _ h=>nomatch h),rfl⟩,Wf.nil⟩
  · have na:a≠b:=fun z=>na (by simp [z]);have a1:a≠d1:=ZB e h1;have a2:a≠d2:=ZB e h2;have a3:a≠d3:=ZB e h3;rw [Zh na,Zh a3,Zh na,Zh a2,Zh na,Zh a1];exact e
  · by_cases na:a=b
    · rw [na,Zd] at e; cases e
    · rw [Zh na] at e
      by_cases a3:a=d3
      · rw [a3,Zd] at e; cases e
      · rw [Zh a3,Zh na] at e
        by_cases a2:a=d2
        · rw [a2,Zd] at e; cases e
        · rw [Zh a2,Zh na] at e
          by_cases a1:a=d1
          · rw [a1,Zd] at e; cases e
          · rw [Zh a1] at e;exact e
  · unfold Zbu at ha;simp only [mem_cons,map_nil,not_mem_nil,or_false] at ha;rcases ha with rfl | rfl | rfl | rfl
    · exact .inl rfl
    · exact .inr h1
    · exact .inr h2
    · exact .inr h3
  · rw [Zh (Ne.symm n1),Zh (Ne.symm z31),Zh (Ne.symm n1),Zh (Ne.symm z21),Zh (Ne.symm n1),Zd];rfl
  · rw [Zh z2,Zh (Ne.symm z32),Zh z2,Zd];rfl
  · rw [Zh z3,Zd];rfl
theorem Zd7 {f:Addr} {fd:FuncData} (F:Fun K "enter" "Lives.enter" Y1 f fd) (T:Txt K g mg)  : FnOk P w0 K mg base CX0 1 f fd ["self","name","year"] (XQ K g):=by
  refine F.ok ZdO (fun vs H Q E h=>?_) (fun cdv A outer s H vs Q E hr h=>?_)
  · obtain ⟨b,d1,d2,d3,bs,ds,ws,n,y,rfl,_⟩:=h;rfl
  obtain ⟨b,d1,d2,d3,bs,ds,ws,n,y,rfl,B,hn,hw,l1,l2,q⟩:=h;refine ⟨_,(
(@Ze _ _ _ _ _ (@Jv _ _ _ _ _ _ _ _ _ (Z9 hr) (@Zx _ _ _ _ _ (by walk_at "0") rfl) (by walk_at "1") (by walk_at "2") rfl) (@Zg _ _ _ (@Jv _ _ _ _ _ _ _ _ _ (Z9 hr) (@Zx _ _ _ _ _ (by walk_at "0") rfl) (by walk_at "1") (@Ym _ _ _ _ (@Zc _)) rfl)))),?_⟩
  obtain ⟨dx,hb⟩:=B.obj;obtain ⟨nb1,nb2,nb3⟩:=B.bne;have v0:Xc (yrs bs) (Sum.inr n:Key)=none:=by
    have z:=Z4 bs n;rw [hn] at z;cases e:Xc (yrs bs) (Sum.inr n:Key) with
    | none=>rfl
    | some v=>rw [e] at z; cases z
  refine ⟨_,rfl,_,rfl,b,_,dx,_,_,rfl,hb,T.Qab,T.Qam,rfl,_,rfl,d1,_,rfl,ZcA.k (k:=Sum.inr n) B.h1 (ZC (by unfold yrs; rw [length_map]; omega)),?_⟩;rw [XT _ v0];have e1:yrs bs++[((Sum.inr n:Key),V.int y)]=yrs (bs++[(n,y)]):=by unfold yrs; rw [map_append]; rfl
  rw [e1];refine ⟨zero_le _,fun l hl=>?_⟩;obtain ⟨B2,kp⟩:=B.entered (n:=n) (y:=y) hl rfl rfl;have hl0:H l=none:=by
    have z:d1≠l:=fun e=>by rw [← e,Zd] at hl; cases hl
    rw [Zh (Ne.symm z)] at hl;exact hl
  have nlb:b≠l:=fun e=>by rw [e,hl0] at hb; cases hb
  have nl3:d3≠l:=fun e=>by have:=B.h3; rw [e,hl0] at this; cases this
  refine ⟨_,rfl,b,_,dx,_,_,rfl,(by rw [Zh nlb,Zh nb1]; exact hb),T.Qab,T.QaC,rfl,_,rfl,d3,_,rfl,ZcA.k (k:=Sum.inr n) (by rw [Zh nl3,Zh (Ne.symm B.n13)]; exact B.h3) (ZC (by unfold brs; rw [length_map]; omega)),?_⟩;rw [XT _ hw];have e3:brs ws++[((Sum.inr n:Key),V.ref l)]=brs (ws++[(n,l,0)]):=by unfold brs; rw [map_append]; rfl
  rw [e3];exact q l _ hl0 kp B2
theorem ZbQ {f:Addr} {fd:FuncData} (F:Fun K "want_alive" "Lives.want_alive" Z0 f fd) (T:Txt K g mg) (Qaj:Dm P w0 K mg base (CXR P w0 base) g.Lives 2 "want_known" ["self","name"] (ZS K g)) (Qac:Dm P w0 K mg base CX0 g.Lives 1 "alive" ["self","name"] (ZK K g)):FnOk P w0 K mg base (CXR P w0 base) 3 f fd ["self","name"] (Yy K g):=by
  refine F.okX ZbN (fun vs H Q E h=>?_) (fun cdv A outer s H vs Q E hr h=>?_)
  · obtain ⟨b,bs,ds,R,n,rfl,_⟩:=h;rfl
  obtain ⟨b,bs,ds,R,n,rfl,L,q1,q2,q⟩:=h;refine ⟨_,(
(@Ze _ _ _ _ _ (@ZH _ _ _ _ (@ZL _ _ _ _ _ _ _ _ _ _ _ _ _ _ _ _ XY Qaj (hr.mono (by decide)) (by walk_at "0") (@Za _ _ _ _ _ (by walk_at "1") (@Zc _) (by rfl)) (by rfl) (by rfl) (by rfl)) (by rfl)) (@Zg _ _ _ (@Zy _ _ _ _ _ _ _ _ (@Jo _ _ _ _ (@ZP _ _ _ (@ZL _ _ _ _ _ _ _ _ _ _ _ _ _ _ _ _ Xa Qac (hr.mono (by decide)) (by walk_at "0") (@Za _ _ _ _ _ (by walk_at "1") (@Zc _) (by rfl)) (by rfl) (by rfl) (by rfl)) (by intro _ ; rfl))) (@Zg _ _ _ (@Xn _ _ _ _ _ _ _ _ _ _ _ _ _ _ _ _ _ _ _ _ _ _ T.Qdg.x T.Qde (@Zo _ _ _ _) (by rfl) (by rfl) (by decide))) (@Zq _))))),?_⟩
  obtain ⟨d1,d2,d3,ws,B,k1,k2,eR⟩:=id L.ex;obtain ⟨dx,hb⟩:=B.obj;refine ⟨_,rfl,b,dx,_,rfl,hb,rfl,_,rfl,b,bs,ds,R,n,rfl,L,q1,fun hn=>?_⟩;refine ⟨_,rfl,b,dx,_,rfl,hb,rfl,_,rfl,b,bs,ds,R,n,rfl,L,_,rfl,?_⟩;unfold al;rw [hn];cases e:has ds n with
  | false=>exact Yb (q hn e)
  | true=>exact Yw ⟨rfl,q2 hn e⟩
theorem Zdi {f:Addr} {fd:FuncData} (F:Fun K "arrive" "Lives.arrive" YE f fd) (T:Txt K g mg) (QaP:Dx P w0 K mg base 3 "want_word" ["word"] (JL K g)) (Qag:Dm P w0 K mg base CX0 g.Lives 1 "known" ["self","name"] (Z5 K g)) (QaQ:Dm P w0 K mg base CX0 g.Lives 1 "enter" ["self","name","year"] (XQ K g)):FnOk P w0 K mg base (CXR P w0 base) 4 f fd ["self","word","born"] (JE K g):=by
  refine F.okX Zdb (fun vs H Q E h=>?_) (fun cdv A outer s H vs Q E hr h=>?_)
  · obtain ⟨b,bs,ds,R,n,y,rfl,_⟩:=h;rfl
  obtain ⟨b,bs,ds,R,n,y,rfl,L,hx,hl,q1,q2,q⟩:=h;refine ⟨_,(
(@Ze _ _ _ _ _ (@ZH _ _ _ _ (@JI _ _ _ _ _ _ _ _ _ _ _ XY QaP (hr.mono (by decide)) (@Za _ _ _ _ _ (by walk_at "1") (@Zc _) (by rfl)) (by rfl) (by decide) (by rfl) (by rfl)) (by rfl)) (@Ze _ _ _ _ _ (@Zy _ _ _ _ _ _ _ _ (@ZP _ _ _ (@ZL _ _ _ _ _ _ _ _ _ _ _ _ _ _ _ _ Xa Qag (hr.mono (by decide)) (by walk_at "0") (@Za _ _ _ _ _ (by walk_at "1") (@Zc _) (by rfl)) (by rfl) (by rfl) (by rfl)) (by intro _ ; rfl)) (@Zg _ _ _ (@Xn _ _ _ _ _ _ _ _ _ _ _ _ _ _ _ _ _ _ _ _ _ _ T.QcO.x T.QcL (@Zo _ _ _ _) (by rfl) (by rfl) (by decide))) (@Zq _)) (@Zg _ _ _ (@ZH _ _ _ _ (@ZL _ _ _ _ _ _ _ _ _ _ _ _ _ _ _ _ Xa QaQ (hr.mono (by decide)) (by walk_at "0") (@Za _ _ _ _ _ (by walk_at "1") (@Za _ _ _ _ _ (by walk_at "2") (@Zc _) (by rfl)) (by rfl)) (by rfl) (by rfl) (by rfl)) (by rfl)))))),?_⟩
  obtain ⟨d1,d2,d3,ws,B,k1,k2,eR⟩:=id L.ex;obtain ⟨dx,hb⟩:=B.obj;have wl:ws.length=bs.length:=by rw [← length_map (f:=fun p=>p.1),k1,length_map]
  refine ⟨_,rfl,n,rfl,hx,q1,fun hg=>?_⟩;refine ⟨_,rfl,b,dx,_,rfl,hb,rfl,_,rfl,b,bs,ds,R,n,rfl,L,_,rfl,?_⟩;cases hn:has bs n with
  | true=>exact Yw ⟨rfl,q2 hg hn⟩
  | false =>
    refine Yb ?_;refine ⟨_,rfl,b,dx,_,rfl,hb,rfl,_,rfl,_,rfl,b,d1,d2,d3,bs,ds,ws,n,y,rfl,B,hn,Zjf k1 hn,by omega,by omega,fun l H' hl0 kp B2=>?_⟩;have c:=ZgH (l:=l) (y:=y) L.wf k1 k2 hg hn;subst eR;exact q hg hn _ H' (kp.wide (fun a ha=>by simp only [mem_cons,not_mem_nil,or_false] at ha; rcases ha with rfl | rfl; exact ZbJ.2.1; exact ZbJ.2.2.2.1)) (ZeL rfl hl0) ⟨⟨d1,d2,d3,_,B2,c.1,c.2,rfl⟩,L.wf.arrive hg hn (by omega)⟩
theorem Zd9 {f:Addr} {fd:FuncData} (F:Fun K "birth" "Lives.birth" Y3 f fd) (T:Txt K g mg) (QaR:Dm P w0 K mg base (CXR P w0 base) g.Lives 3 "want_alive" ["self","name"] (Yy K g)) (QaQ:Dm P w0 K mg base CX0 g.Lives 1 "enter" ["self","name","year"] (XQ K g)):FnOk P w0 K mg base (CXR P w0 base) 4 f fd ["self","name","year"] (Zae K g):=by
  refine F.okX Zbm (fun vs H Q E h=>?_) (fun cdv A outer s H vs Q E hr h=>?_)
  · obtain ⟨b,bs,ds,R,n,y,rfl,_⟩:=h;rfl
  obtain ⟨b,bs,ds,R,n,y,rfl,L,hl,h99,q1,q2,q3,q⟩:=h;refine ⟨_,(
(@Ze _ _ _ _ _ (@ZH _ _ _ _ (@ZL _ _ _ _ _ _ _ _ _ _ _ _ _ _ _ _ XY QaR (hr.mono (by decide)) (by walk_at "0") (@Za _ _ _ _ _ (by walk_at "1") (@Zc _) (by rfl)) (by rfl) (by rfl) (by rfl)) (by rfl)) (@Ze _ _ _ _ _ (@Zy _ _ _ _ _ _ _ _ (@Zp _ _ _ _ _ _ _ _ (@Zgf _) (@Xq _ _ _ _ _ _ _ _ _ _ _ _ plainAttrs_str slot_str_count type_str_count (@ZaO _) (by walk_at "1") (@Za _ _ _ _ _ (@Zo _ _ _ _) (@Zc _) (by rfl)) (by rfl) (by rfl) (by rfl) (by rfl) (by rfl)) (@ZA _ _ (.int 5) _ _ rfl T.QcP ⟨_,rfl⟩ (by decide)) (Zu _)) (@Zg _ _ _ (@Xn _ _ _ _ _ _ _ _ _ _ _ _ _ _ _ _ _ _ _ _ _ _ T.Qdi.x T.Qdf (@Zo _ _ _ _) (by rfl) (by rfl) (by decide))) (@Zq _)) (@Ze _ _ _ _ _ (@Zw _ _ (3) _ _ _ _ Zbm.nd rfl (Or.inl rfl) (@pe_fs _ _ _ _ _ _ _ _ _ _ _ (by walk_at "1") (@Zn _ _ _ _ _ _ _ _ (@Z6 _) (@ZD _ _ _ _ _ _ _ _ _ (@ZQ _) rfl T.z_len boot_len (@Za _ _ _ _ _ (@ZbF _ _ _ _ _ _ (Z9 hr) (@Zx _ _ _ _ _ (by walk_at "0") rfl) (by walk_at "1") (fun _ _=>rfl)) (@Zc _) (by rfl)) (by decide) (by decide) (by rfl) (by rfl)) (@Zf _ _ _ _))) (by rfl) (by walk_at "u")) (@Ze _ _ _ _ _ (@ZH _ _ _ _ (@Xq _ _ _ _ _ _ _ _ _ _ _ _ plainAttrs_list PySem.F.slot_list_append PySem.F.type_list_append (@Xi _) (@ZbF _ _ _ _ _ _ (Z9 hr) (@Zx _ _ _ _ _ (by walk_at "0") rfl) (by walk_at "1") (fun _ _=>rfl)) (@Za _ _ _ _ _ (by walk_at "3") (@Zc _) (by rfl)) (by rfl) (by rfl) (by rfl) (by rfl) (by rfl)) (by rfl)) (@Ze _ _ _ _ _ (@ZH _ _ _ _ (@ZL _ _ _ _ _ _ _ _ _ _ _ _ _ _ _ _ Xa QaQ (hr.mono (by decide)) (by walk_at "0") (@Za _ _ _ _ _ (by walk_at "3") (@Za _ _ _ _ _ (by walk_at "2") (@Zc _) (by rfl)) (by rfl)) (by rfl) (by rfl) (by rfl)) (by rfl)) (@Zg _ _ _ (@Zm _ _ _ _ (by walk_at "3"))))))))),?_⟩
  obtain ⟨d1,d2,d3,ws,B,k1,k2,eR⟩:=id L.ex;obtain ⟨dx,hb⟩:=B.obj;have wl:ws.length=bs.length:=by rw [← length_map (f:=fun p=>p.1),k1,length_map]
  refine ⟨_,rfl,b,dx,_,rfl,hb,rfl,_,rfl,b,bs,ds,R,n,rfl,L,q1,q2,fun hn hd=>?_⟩;refine ⟨_,rfl,rfl,n,dot,rfl,rfl,_,_,rfl,rfl,_,rfl,Yj (fun z=>?_) (fun z=>?_)⟩
  · exact ⟨rfl,q3 hn hd (by have z':=of_decide_eq_true z; unfold Xv; omega)⟩
  have hdot:Xv n<5:=by
    have z':¬ ((5:Int)≤(Xv n:Nat)):=fun w=>z (decide_eq_true w);omega
  have hx:=Xh (L.wf.wrt n hn);obtain ⟨a,hw⟩:=ZjV k1 k2 hn;have g0:Yx H d3 (.str n) (Xc (brs ws) (Sum.inr n:Key)):=Yx.k (k:=Sum.inr n) B.h3;rw [Zdz,hw] at g0;have ha:=B.kids _ (Zdw hw);have kl:(YH n (nk bs n)).length=nk bs n:=by unfold YH; rw [length_map,length_range]
  have c0:(0:Int)≤((nk bs n:Nat):Int)+1:=by omega
  have c1:((nk bs n:Nat):Int)+1<131:=by omega
  have tl:=Ze1 c0 c1;have l3:(n++dot).length=n.length+1:=by rw [XS]; rfl
  refine ⟨_,rfl,n,rfl,ZE (by omega),ZE (by rw [show (n++(".":Str)).length=n.length+1 from l3]; omega),?_⟩;refine ⟨_,rfl,b,_,dx,_,_,rfl,hb,T.Qab,T.QaC,rfl,_,rfl,d3,_,rfl,g0,_,_,rfl, .inl ⟨_,SqL.of ha,rfl⟩,_,_,rfl,rfl,((nk bs n:Nat):Int)+1,(by rw [kl]),ZaP c0 c1,ZE (by rw [XS,show (n++(".":Str)).length=n.length+1 from l3]; omega),?_⟩;refine ⟨_,rfl,b,_,dx,_,_,rfl,hb,T.Qab,T.QaC,rfl,_,rfl,d3,_,rfl,g0, .inl ⟨rfl,_,SqL.of ha⟩,_,rfl,a,_,_,rfl,rfl,ha,ZC (by rw [kl]; omega),?_⟩;rw [show YH n (nk bs n)++[V.str (n++(".":Str)++(toString (((nk bs n:Nat):Int)+1):Str))]=YH n (nk bs n+1) from ZeI n (nk bs n)];have hk:(ws.map fun p=>p.1).Nodup:=by rw [k1]; exact L.wf.nod
  have B2:=B.grown hk (Zdw hw);obtain ⟨dx2,hb2⟩:=B2.obj;have hn2:=L.wf.no_kid n;refine ⟨_,rfl,b,dx2,_,rfl,hb2,rfl,_,rfl,_,rfl,b,d1,d2,d3,bs,ds,L2.bump ws n,kid n (nk bs n),y,rfl,B2,hn2,by rw [ZgL]; exact Zjf k1 hn2,by omega,by unfold L2.bump; rw [length_map]; omega,fun l H' hl1 kp B3=>?_⟩;have hl0:H l=none:=by
    have z:l≠a:=fun e=>by rw [e,Zd] at hl1; cases hl1
    rw [Zh z] at hl1;exact hl1
  have c:=ZgI (l:=l) (y:=y) L.wf k1 k2 hn (by omega);subst eR;refine ⟨_,rfl,q hn hd hdot _ H' ?_ (ZeL (ZgN ws n) hl0) ⟨⟨d1,d2,d3,_,B3,c.1,c.2,rfl⟩,L.wf.birth hn hdot (by omega) h99⟩⟩;have k0:Z3 (Zbu b d1 d2 d3 ws) H (upd H a (.lst (YH n (nk bs n+1)))):=X0.wide (fun x hx=>by rw [List.mem_singleton.mp hx]; exact ZbJ.2.2.2.2 _ (Zdw hw));exact k0.tr kp (fun x hx=>by simp only [mem_cons,not_mem_nil,or_false] at hx; rcases hx with rfl | rfl; exact .inl ZbJ.2.1; exact .inl ZbJ.2.2.2.1)
theorem Zd8 {f:Addr} {fd:FuncData} (F:Fun K "death" "Lives.death" Y2 f fd) (T:Txt K g mg) (QaR:Dm P w0 K mg base (CXR P w0 base) g.Lives 3 "want_alive" ["self","name"] (Yy K g)):FnOk P w0 K mg base (CXR P w0 base) 4 f fd ["self","name","year"] (Zad K g):=by
  refine F.okX ZdP (fun vs H Q E h=>?_) (fun cdv A outer s H vs Q E hr h=>?_)
  · obtain ⟨b,bs,ds,R,n,y,rfl,_⟩:=h;rfl
  obtain ⟨b,bs,ds,R,n,y,rfl,L,hl,q1,q2,q⟩:=h;refine ⟨_,(
(@Ze _ _ _ _ _ (@ZH _ _ _ _ (@ZL _ _ _ _ _ _ _ _ _ _ _ _ _ _ _ _ XY QaR (hr.mono (by decide)) (by walk_at "0") (@Za _ _ _ _ _ (by walk_at "1") (@Zc _) (by rfl)) (by rfl) (by rfl) (by rfl)) (by rfl)) (@Zg _ _ _ (@Jv _ _ _ _ _ _ _ _ _ (Z9 hr) (@Zx _ _ _ _ _ (by walk_at "0") rfl) (by walk_at "1") (by walk_at "2") rfl)))),?_⟩
  obtain ⟨d1,d2,d3,ws,B,k1,k2,eR⟩:=id L.ex;obtain ⟨dx,hb⟩:=B.obj;refine ⟨_,rfl,b,dx,_,rfl,hb,rfl,_,rfl,b,bs,ds,R,n,rfl,L,q1,q2,fun hn hd=>?_⟩;refine ⟨_,rfl,_,rfl,b,_,dx,_,_,rfl,hb,T.Qab,T.QaB,rfl,_,rfl,d2,_,rfl,ZcA.k (k:=Sum.inr n) B.h2 (ZC (by unfold yrs; rw [length_map]; omega)),?_⟩;rw [XT _ (ZbG hd),Zbx];obtain ⟨B2,kp⟩:=B.died (ds':=ds++[(n,y)]);subst eR;exact q hn hd _ (kp.wide (fun a ha=>by rw [List.mem_singleton.mp ha]; exact ZbJ.2.2.1)) ⟨⟨d1,d2,d3,ws,B2,k1,k2,rfl⟩,L.wf.death hn⟩
theorem ZcS {f:Addr} {fd:FuncData} (F:Fun K "born_in" "Lives.born_in" Ys f fd) (T:Txt K g mg) (Qaj:Dm P w0 K mg base (CXR P w0 base) g.Lives 2 "want_known" ["self","name"] (ZS K g)):FnOk P w0 K mg base (CXR P w0 base) 3 f fd ["self","name"] (Xd K g):=by
  refine F.okX ZcI (fun vs H Q E h=>?_) (fun cdv A outer s H vs Q E hr h=>?_)
  · obtain ⟨b,bs,ds,R,n,rfl,_⟩:=h;rfl
  obtain ⟨b,bs,ds,R,n,rfl,L,q1,q⟩:=h;refine ⟨_,(
(@Ze _ _ _ _ _ (@ZH _ _ _ _ (@ZL _ _ _ _ _ _ _ _ _ _ _ _ _ _ _ _ XY Qaj (hr.mono (by decide)) (by walk_at "0") (@Za _ _ _ _ _ (by walk_at "1") (@Zc _) (by rfl)) (by rfl) (by rfl) (by rfl)) (by rfl)) (@Zg _ _ _ (@Zm _ _ _ _ (@ZbF _ _ _ _ _ _ (Z9 hr) (@Zx _ _ _ _ _ (by walk_at "0") rfl) (by walk_at "1") (fun _ _=>rfl)))))),?_⟩
  obtain ⟨d1,d2,d3,ws,B,k1,k2,eR⟩:=id L.ex;obtain ⟨dx,hb⟩:=B.obj;refine ⟨_,rfl,b,dx,_,rfl,hb,rfl,_,rfl,b,bs,ds,R,n,rfl,L,q1,fun hn=>?_⟩;have hn':=hn;unfold has at hn';cases hy:yr bs n with
  | none=>rw [hy] at hn'; cases hn'
  | some y =>
    have g0:=B.births n;rw [XL,hy] at g0;exact ⟨_,rfl,b,_,dx,_,_,rfl,hb,T.Qab,T.Qam,rfl,_,rfl,d1,_,rfl,g0,q y hy⟩
theorem Zd5 {f:Addr} {fd:FuncData} (F:Fun K "names" "Lives.names" YZ f fd) (T:Txt K g mg)  : FnOk P w0 K mg base CX0 1 f fd ["self"] (Zbi K g):=by
  refine F.ok ZdM (fun vs H Q E h=>?_) (fun cdv A outer s H vs Q E hr h=>?_)
  · obtain ⟨b,bs,ds,R,rfl,_⟩:=h;rfl
  obtain ⟨b,bs,ds,R,rfl,L,q⟩:=h;refine ⟨_,(
(@Zg _ _ _ (@Zm _ _ _ _ (@YG _ _ _ _ _ _ _ _ _ (@Zeq _ rfl) rfl T.z_list boot_list (@Za _ _ _ _ _ (@Zx _ _ _ _ _ (by walk_at "0") rfl) (@Zc _) (by rfl)) (by decide) (by decide) (by rfl) (by rfl))))),?_⟩
  obtain ⟨d1,d2,d3,ws,B,k1,k2,eR⟩:=id L.ex;obtain ⟨dx,hb⟩:=B.obj;refine ⟨_,rfl,b,_,dx,_,_,rfl,hb,T.Qab,T.Qam,rfl,d1,_,rfl, .inl B.h1,fun l hl=>?_⟩;have e:(yrs bs).map (fun p=>kV p.1)=bs.map fun p=>V.str p.1:=by
    unfold yrs;rw [map_map];rfl
  rw [e];exact q l _ (Zi hl _) hl Zd
theorem Zdh {f:Addr} {fd:FuncData} (F:Fun K "living" "Lives.living" YD f fd) (T:Txt K g mg)  : FnOk P w0 K mg base CX0 1 f fd ["self"] (JD K g):=by
  refine F.ok Zda (fun vs H Q E h=>?_) (fun cdv A outer s H vs Q E hr h=>?_)
  · obtain ⟨b,bs,ds,R,rfl,_⟩:=h;rfl
  obtain ⟨b,bs,ds,R,rfl,L,q⟩:=h;obtain ⟨d1,d2,d3,ws,B,k1,k2,eR⟩:=id L.ex;have hlen:bs.length<1000:=L.wf.lim;obtain ⟨dx,hb⟩:=B.obj;refine ⟨_,(
(@Zg _ _ _ (@Zm _ _ _ _ (@ZhA _ _ _ (d1) (yrs bs) (@ZaM _ _ _ ("name") _ _ _ ([("self",s.heap.objs.size+1)]) _ ([("self",0)]) _ _ _ rfl (@Zfh _ _ _ _ (@Zx _ _ _ _ _ (by walk_at "0") rfl)) (fun _ _ _ _ _=>(@YN _ _ _ (@JH _ _ _ _ _ _ (@XI _ _ _ _ _ (Z9 hr) (by walk_at "0") (show PE _ _ (tFld K (Ze2 1) "deaths") from (@Zx _ _ _ _ _ (by walk_at "1") rfl))) (by walk_at "n")))) (fun _ _ _ _ _=>(by walk_at "0")) rfl (by decide +kernel) rfl (by decide +kernel) rfl (fun _ _ h=>h) (YL rfl) (fun p hp=>by rw [List.mem_singleton.mp hp]; exact ⟨rfl,rfl,by first | exact .inl rfl | exact .inr rfl⟩) (by decide +kernel) (by intro _ ; rfl)))))),?_⟩
  obtain ⟨nb1,nb2,nb3⟩:=B.bne;have yl:(yrs bs).length=bs.length:=by unfold yrs; rw [length_map]
  refine ⟨B.h1,_,rfl,b,_,dx,_,_,rfl,hb,T.Qab,T.Qam,rfl,d1,_,rfl,B.h1,fun o D hD=>⟨fun i m H2=>i≤bs.length∧m=bs.length - i∧H2=upd (upd H d1 (.frz o (.dK (yrs bs)))) D (.lst (((bs.take i).filter fun p => !has ds p.1).map fun p=>V.str p.1)),⟨bs.length,zero_le _,rfl,rfl⟩,?_⟩⟩;have n1:D≠d1:=fun e=>by rw [e,Zd] at hD; cases hD
  have hD0:H D=none:=by rw [Zh n1] at hD; exact hD
  have nb:b≠D:=ZB hb hD0;have n2:d2≠D:=ZB B.h2 hD0;rintro i m H2 ⟨hi,rfl,rfl⟩
  by_cases ci:i<bs.length
  · refine .inr ⟨⟨by rw [Zh (Ne.symm n1),Zd],by rw [yl]; exact ci⟩,fun x H' ⟨e,k,v,ek,ex⟩=>?_⟩;subst e;have ek':(yrs bs)[i]? = some ((Sum.inr (bs[i]).1:Key),V.int (bs[i]).2):=by unfold yrs; rw [getElem?_map,getElem?_eq_getElem ci]; rfl
    rw [ek'] at ek;cases ek;subst ex;have g:Yx (upd (upd H d1 (.frz o (.dK (yrs bs)))) D (.lst (((bs.take i).filter fun p => !has ds p.1).map fun p=>V.str p.1))) d2 (.str (bs[i]).1) (Xc (yrs ds) (Sum.inr (bs[i]).1:Key)):=Yx.k (k:=Sum.inr (bs[i]).1) (by rw [Zh n2,Zh (Ne.symm B.n12)]; exact B.h2);refine ⟨_,rfl,_,rfl,b,_,dx,_,_,rfl,(by rw [Zh nb,Zh nb1]; exact hb),T.Qab,T.QaB,rfl,d2,_,rfl,g,_,rfl,?_⟩;rw [Z4];have tk:bs.take (i+1)=bs.take i++[bs[i]]:=(ZcD ci).symm;cases e:has ds (bs[i]).1 with
    | true =>
      refine Yb ⟨bs.length - (i+1),by omega,ci,rfl,?_⟩;rw [tk,filter_append];simp [e]
    | false =>
      refine Yw ⟨_,rfl,_,bs.length - (i+1),Zd,ZC ?_,by omega,ci,rfl,?_⟩
      · rw [length_map];exact le_trans (length_filter_le _ _) (by rw [length_take]; omega)
      · rw [Ze0,tk,filter_append,map_append];simp [e];rfl
  · have e:i=bs.length:=by omega
    subst e;refine .inl ⟨⟨by rw [Zh (Ne.symm n1),Zd],by rw [yl]; exact le_refl _⟩,o,by rw [Zh (Ne.symm n1),Zd],?_⟩;rw [take_length];have eq:upd (upd (upd H d1 (.frz o (.dK (yrs bs)))) D (.lst ((bs.filter fun p => !has ds p.1).map fun p=>V.str p.1))) d1 (.dK (yrs bs))=upd H D (.lst ((bs.filter fun p => !has ds p.1).map fun p=>V.str p.1)):=by
      funext a
      by_cases ha:a=d1
      · rw [ha,Zd,Zh (Ne.symm n1),B.h1]
      · rw [Zh ha]
        by_cases hA:a=D
        · rw [hA,Zd,Zd]
        · rw [Zh hA,Zh ha,Zh hA]
    rw [eq];exact q D _ (Zi hD0 _) hD0 Zd
theorem Zgs {f:Addr} {fd:FuncData} (F:Fun K "is_class" "is_class" Jm f fd) (T:Txt K g mg)  : FnOk P w0 K mg base CX0 1 f fd ["holder"] (Yt K g):=by
  refine F.ok Zf6 (fun vs H Q E h=>?_) (fun cdv A outer s H vs Q E hr h=>?_)
  · obtain ⟨p,h,rfl,_⟩:=h;rfl
  obtain ⟨p,h,rfl,hp,q⟩:=h;refine ⟨_,(
(@Zg _ _ _ (@Zm _ _ _ _ (@XW _ _ _ _ _ _ _ _ (@Ya _) (@Zt _ _ _ _ _ _ _ (@Zr _) (by walk_at "0") (@Zf _ _ _ _) (fun _ _=>rfl)) (@Zo _ _ _ _) (Zu _))))),?_⟩
  cases h with
  | one n =>
    walk_at "go";rw [Y5,decide_eq_false (by decide +kernel)];exact q
  | kids n a =>
    walk_at "go";rw [decide_eq_true rfl];exact q
theorem ZdX {f:Addr} {fd:FuncData} (F:Fun K "left_out_of" "left_out_of" YR f fd) (T:Txt K g mg) (Qae:Dn P w0 K mg base 1 "is_class" ["holder"] (Yt K g)) (QaS:Dn P w0 K mg base 5 "left_out" ["world","name"] (Zan K g)):FnOk P w0 K mg base CX0 6 f fd ["world","holder"] (XM K g):=by
  refine F.ok ZdD (fun vs H Q E h=>?_) (fun cdv A outer s H vs Q E hr h=>?_)
  · obtain ⟨w,S,R,p,h,rfl,_⟩:=h;rfl
  obtain ⟨w,S,R,p,h,rfl,W,hlen,hp,q⟩:=h;refine ⟨_,(
(@Zg _ _ _ (@Zm _ _ _ _ (@Xp _ _ _ _ _ _ _ _ (@ZP _ _ _ (@Zv _ _ _ _ _ _ _ _ _ _ Qae (hr.mono (by decide)) (@Za _ _ _ _ _ (by walk_at "1") (@Zc _) (by rfl)) (by rfl) (by decide) (by rfl) (by rfl)) (by intro _ ; rfl)) (@Zv _ _ _ _ _ _ _ _ _ _ QaS (hr.mono (by decide)) (@Za _ _ _ _ _ (by walk_at "0") (@Za _ _ _ _ _ (@Zt _ _ _ _ _ _ _ (@Zr _) (by walk_at "1") (@Zf _ _ _ _) (fun _ _=>rfl)) (@Zc _) (by rfl)) (by rfl)) (by rfl) (by decide) (by rfl) (by rfl)) (@Ym _ _ _ _ (@Zc _)))))),?_⟩
  have hl9:S.bs.length≤900:=by omega
  cases h with
  | one n =>
    walk_at "go";exact fun l hl=>q l _ (Zi hl _) hl Zd
  | kids n a =>
    walk_at "go";exact fun l H' s f h=>q l H' s f h
theorem Zih {f:Addr} {fd:FuncData} (F:Fun K "wanted" "wanted" ZaH f fd) (T:Txt K g mg) (Qae:Dn P w0 K mg base 1 "is_class" ["holder"] (Yt K g)):FnOk P w0 K mg base CX0 2 f fd ["holder","atoms"] (ZbB K g):=by
  refine F.ok Zh5 (fun vs H Q E h=>?_) (fun cdv A outer s H vs Q E hr h=>?_)
  · obtain ⟨p,l,h,ts,ps,rfl,_⟩:=h;rfl
  obtain ⟨p,l,h,ts,ps,rfl,hp,A0,tl,q⟩:=h;refine ⟨_,(
(@Zg _ _ _ (@Zm _ _ _ _ (@Xp _ _ _ _ _ _ _ _ (@ZP _ _ _ (@Zv _ _ _ _ _ _ _ _ _ _ Qae (hr.mono (by decide)) (@Za _ _ _ _ _ (by walk_at "0") (@Zc _) (by rfl)) (by rfl) (by decide) (by rfl) (by rfl)) (by intro _ ; rfl)) (@YG _ _ _ _ _ _ _ _ _ (show Jz _ (.type "list") (Zfd K) from (@Zb8 _)) rfl T.z_list boot_list (@Za _ _ _ _ _ (by walk_at "1") (@Zc _) (by rfl)) (by decide) (by decide) (by rfl) (by rfl)) (@Zn _ _ _ _ _ _ _ _ (@ZdU _) (by walk_at "1") (@Ym _ _ _ _ (@Za _ _ _ _ _ (@Yd _ _ _ _ _ (@Za _ _ _ _ _ (@Zo _ _ _ _) (@Za _ _ _ _ _ (@Zt _ _ _ _ _ _ _ (@Zr _) (by walk_at "0") (@Zf _ _ _ _) (fun _ _=>rfl)) (@Zc _) (by rfl)) (by rfl))) (@Zc _) (by rfl)))))))),?_⟩
  have hlS:=SqL.of (K:=K) A0.lst;have hlst:=A0.lst;cases h with
  | one n =>
    walk_at "go";intro p1 hp1;have s1:=Zi hp1 (.tup [V.str "born",V.str n]);refine ⟨ZE (by show 1≤500; omega),fun p2 hp2=>?_⟩;have s2:=Zi hp2 (.lst [V.ref p1]);have A2:=(A0.same s1).same s2;refine ⟨l,p2,_,_,rfl,rfl,A2.lst,Zd,ZE (by rw [length_map,A0.len]; show _+1≤500; omega),fun p3 hp3=>?_⟩;have s3:=Zi hp3 (.lst (ps.map V.ref++[V.ref p1]));exact q p3 (ps++[p1]) _ ((s1.trans s2).trans s3) (s1.free (s2.free hp3)) ((A2.same s3).snoc (t := .born n) (s3 _ _ (s2 _ _ Zd)) Zd)
  | kids n a =>
    walk_at "go";intro l1 hl1;exact q l1 ps _ (Zi hl1 _) hl1 ((A0.same (Zi hl1 _)).copy Zd)
theorem ZdW {f:Addr} {fd:FuncData} (F:Fun K "whole_stand" "whole_stand" YQ f fd) (T:Txt K g mg) (Qbr:Dn P w0 K mg base 8 "stand" ["world","atoms"] (ZdB K g)) (QaJ:Dn P w0 K mg base 1 "together" ["stands"] (Zal K g)) (QaT:Dn P w0 K mg base 2 "wanted" ["holder","atoms"] (ZbB K g)) (Qae:Dn P w0 K mg base 1 "is_class" ["holder"] (Yt K g)) (Qbs:Dn P w0 K mg base 7 "class_stand" ["world","name","age","out"] (J8 K g)):FnOk P w0 K mg base CX0 9 f fd ["world","holder","atoms","out"] (J0 K g):=by
  refine F.ok Zbj (fun vs H Q E h=>?_) (fun cdv A outer s H vs Q E hr h=>?_)
  · obtain ⟨w,S,R,p,l,h,ts,ps,o,rfl,_⟩:=h;rfl
  obtain ⟨w,S,R,p,l,h,ts,ps,o,rfl,W,hlen,hp,A0,oh,ok,tl,ho,q⟩:=h;refine ⟨_,(
(@Ze _ _ _ _ _ (@Zw _ _ (4) _ _ _ _ Zbj.nd rfl (Or.inl rfl) (@Zv _ _ _ _ _ _ _ _ _ _ Qbr (hr.mono (by decide)) (@Za _ _ _ _ _ (by walk_at "0") (@Za _ _ _ _ _ (@Zv _ _ _ _ _ _ _ _ _ _ QaT (hr.mono (by decide)) (@Za _ _ _ _ _ (by walk_at "1") (@Za _ _ _ _ _ (by walk_at "2") (@Zc _) (by rfl)) (by rfl)) (by rfl) (by decide) (by rfl) (by rfl)) (@Zc _) (by rfl)) (by rfl)) (by rfl) (by decide) (by rfl) (by rfl)) (by rfl) (by walk_at "u")) (@Ze _ _ _ _ _ (@Zy _ _ _ _ _ _ _ _ (@PW.pt _ _ _ (@ZbT _ _ _ _ _ _ _ (@Zp _ _ _ _ _ _ _ _ (@Ya _) (by walk_at "4") (@ZA _ _ (.str "failed") _ _ rfl T.QaE ⟨_,rfl⟩ (by decide)) (Zu _)) (@Zay _ _ _ _ (@Jo _ _ _ _ (@ZP _ _ _ (@Zv _ _ _ _ _ _ _ _ _ _ Qae (hr.mono (by decide)) (@Za _ _ _ _ _ (by walk_at "1") (@Zc _) (by rfl)) (by rfl) (by decide) (by rfl) (by rfl)) (by intro _ ; rfl)))))) (@Zg _ _ _ (@Zm _ _ _ _ (by walk_at "4"))) (@Zq _)) (@Zg _ _ _ (@Zm _ _ _ _ (@Zv _ _ _ _ _ _ _ _ _ _ QaJ (hr.mono (by decide)) (@Za _ _ _ _ _ (@Ym _ _ _ _ (@Za _ _ _ _ _ (by walk_at "4") (@Za _ _ _ _ _ (@Zv _ _ _ _ _ _ _ _ _ _ Qbs (hr.mono (by decide)) (@Za _ _ _ _ _ (by walk_at "0") (@Za _ _ _ _ _ (@Zt _ _ _ _ _ _ _ (@Zr _) (by walk_at "1") (@Zf _ _ _ _) (fun _ _=>rfl)) (@Za _ _ _ _ _ (@Zt _ _ _ _ _ _ _ (@Zr _) (by walk_at "1") (@Zf _ _ _ _) (fun _ _=>rfl)) (@Za _ _ _ _ _ (by walk_at "3") (@Zc _) (by rfl)) (by rfl)) (by rfl)) (by rfl)) (by rfl) (by decide) (by rfl) (by rfl)) (@Zc _) (by rfl)) (by rfl))) (@Zc _) (by rfl)) (by rfl) (by decide) (by rfl) (by rfl))))))),?_⟩
  have tl100:ts.length≤100:=by omega
  walk_at "go";intro l1 p1 H1 s1 f1 A1;have W1:=W.same s1;have ok1:=ZeY oh ok;have tl1:(X2 h ts).length≤900:=by have:=Zdy h ts; omega
  walk_at "go";intro H2 s2;have hp2:=s2 _ _ (s1 _ _ hp);have s12:=s1.trans s2;have W2:=W1.same s2;have ho2:=s12 _ _ ho;cases h with
  | one n =>
    refine ⟨_,rfl,rfl,_,rfl,Yj (fun c=>?_) (fun c=>?_)⟩
    · walk_at "go";exact q H2 s12
    · walk_at "go";exact q H2 s12
  | kids n a =>
    obtain ⟨on,h0,h1⟩:=oh;have e1:X2 (.kids n a) ts=ts:=rfl;rw [e1];refine ⟨_,rfl,rfl,_,rfl,?_⟩;rw [Y5];refine Yj (fun c=>?_) (fun c=>?_)
    · have c':=of_decide_eq_true c;walk_at "go";have z:=q H2 s12;have e:whS S (.kids n a) ts (Ho.out S (.kids n a))=Yl (ts.map (Atm.stand S)):=by show (if _ then _ else _)=_; rw [if_pos c',c']
      rw [e] at z;exact z
    · have hoS:SqL K H2 o ((Yv S n).map V.str):=SqL.of ho2;have hl9:S.bs.length≤900:=by omega
      have pn:=on.1;walk_at "go";intro H3 s3;refine ⟨ZE (by show 2≤500; omega),fun p1 hp1=>?_⟩;have s4:=Zi hp1 (.lst [V.str (Yl (ts.map (Atm.stand S))),V.str (clS S n a (Yv S n))]);refine ⟨p1,[Yl (ts.map (Atm.stand S)),clS S n a (Yv S n)],rfl,SqL.of Zd,?_⟩;have z:=q _ ((s12.trans s3).trans s4);have c':Yl (ts.map (Atm.stand S))≠("failed":Str):=fun z=>c (decide_eq_true z);have e:whS S (.kids n a) ts (Ho.out S (.kids n a))=Yl [Yl (ts.map (Atm.stand S)),clS S n a (Yv S n)]:=by show (if _ then _ else _)=_; rw [if_neg c']; rfl
      rw [e] at z;exact z
theorem Zdd {f:Addr} {fd:FuncData} (F:Fun K "want_between" "want_between" Yz f fd) (T:Txt K g mg)  : FnOk P w0 K mg base (CXR P w0 base) 1 f fd ["number","low","high"] (YM K g):=by
  refine F.okX Zc8 (fun vs H Q E h=>?_) (fun cdv A outer s H vs Q E hr h=>?_)
  · obtain ⟨n,lo,hi,rfl,_⟩:=h;rfl
  obtain ⟨n,lo,hi,rfl,q1,q⟩:=h;refine ⟨_,(
(@Zg _ _ _ (@Zy _ _ _ _ _ _ _ _ (@PW.pt _ _ _ (@ZbT _ _ _ _ _ _ _ (@Zp _ _ _ _ _ _ _ _ (@Zbr _) (by walk_at "0") (by walk_at "1") (Zu _)) (@Zay _ _ _ _ (@Zp _ _ _ _ _ _ _ _ (@ZbU _) (by walk_at "0") (by walk_at "2") (Zu _))))) (@Zg _ _ _ (@Xn _ _ _ _ _ _ _ _ _ _ _ _ _ _ _ _ _ _ _ _ _ _ T.Qdh.x T.Qdd (@Zo _ _ _ _) (by rfl) (by rfl) (by decide))) (@Zq _)))),?_⟩
  refine ⟨_,rfl,_,rfl,_,_,rfl,rfl,_,rfl,Yj (fun c=>Yw ⟨rfl,q1 ?_⟩) (fun c=>?_)⟩
  · have:=of_decide_eq_true c; omega
  refine ⟨_,rfl,_,rfl,_,_,rfl,rfl,_,rfl,Yj (fun c2=>⟨rfl,q1 ?_⟩) (fun c2=>q ?_)⟩
  · have:=of_decide_eq_true c2; omega
  · have z1:¬ n<lo:=fun z=>c (decide_eq_true z);have z2:¬ hi<n:=fun z=>c2 (decide_eq_true z);omega
theorem Zcl {f:Addr} {fd:FuncData} (F:Fun K "__init__" "World.__init__" Yg f fd) (T:Txt K g mg) (Qax:Dx P w0 K mg base 1 "want_between" ["number","low","high"] (YM K g)) (Qbt:Dk P w0 K mg base CX0 g.Lives 1 "Lives" ["self"] (XR K g)):FnOk P w0 K mg base (CXR P w0 base) 3 f fd ["self","year"] (XO K g):=by
  refine F.okX Zcf (fun vs H Q E h=>?_) (fun cdv A outer s H vs Q E hr h=>?_)
  · obtain ⟨w,dx,y,rfl,_⟩:=h;rfl
  obtain ⟨w,dx,y,rfl,hw,q1,q⟩:=h;refine ⟨_,(
(@Ze _ _ _ _ _ (@ZH _ _ _ _ (@JI _ _ _ _ _ _ _ _ _ _ _ XY Qax (hr.mono (by decide)) (@Za _ _ _ _ _ (by walk_at "1") (@Za _ _ _ _ _ (@Zf _ _ _ _) (@Za _ _ _ _ _ (@ZA _ _ (.int 9999) _ _ rfl T.Qdp ⟨_,rfl⟩ (by decide)) (@Zc _) (by rfl)) (by rfl)) (by rfl)) (by rfl) (by decide) (by rfl) (by rfl)) (by rfl)) (@Ze _ _ _ _ _ (@ZcK _ _ _ _ _ _ _ _ (by walk_at "0") (by walk_at "1") rfl) (@Ze _ _ _ _ _ (@ZcK _ _ _ _ _ _ _ _ (by walk_at "0") (@pe_mk0 _ _ _ _ _ _ _ _ _ _ Xa Qbt (hr.mono (by decide)) rfl (by decide)) rfl) (@Zg _ _ _ (@ZcK _ _ _ _ _ _ _ _ (by walk_at "0") (@XV _ _) rfl)))))),?_⟩
  refine ⟨_,rfl,y,0,9999,rfl,q1,fun hy=>?_⟩;refine ⟨_,rfl,_,rfl,w,_,dx,_,rfl,hw,T.Qaa,T.Qau,by decide,?_⟩;intro b dxb nb ndb neb;have nwb:b≠w:=fun e=>by rw [e,Zd] at nb; cases nb
  have hb0:H b=none:=by rw [Zh nwb] at nb; exact nb
  refine ⟨b,dxb,rfl,Zd,fun RL H1 kp fr L=>⟨rfl,?_⟩⟩;have s1:=made nb ndb kp;have hw1:=s1 _ _ (Zd (H:=H) (a:=w));have fRL:∀ a∈RL,upd H w (.ins g.World dx [("year", .int y)]) a=none:=fun a ha=>(fr a ha).elim (fun e=>by rw [e]; exact nb) ZeH;have nwRL:w∉RL:=fun z=>by have:=fRL w z; rw [Zd] at this; cases this
  refine ⟨_,rfl,w,_,dx,_,rfl,hw1,T.Qaa,T.Qah,(by show 1<1000; decide),?_⟩;intro hd hhd;have nhw:hd≠w:=fun e=>by rw [e,Zd] at hhd; cases hhd
  have hhd1:H1 hd=none:=by rw [Zh nhw] at hhd; exact hhd
  have nhRL:hd∉RL:=fun z=>by obtain ⟨o,e⟩:=L.live hd z; rw [hhd1] at e; cases e
  refine ⟨_,rfl,w,_,dx,_,rfl,(by rw [Zh (Ne.symm nhw),Zd]),T.Qaa,T.QaZ,(by show 2<1000; decide),?_⟩;have f0:∀ a,upd H w (.ins g.World dx [("year", .int y)]) a=none→H a=none:=fun a e=>by
    have n:a≠w:=fun z=>by rw [z,Zd] at e; cases e
    rw [Zh n] at e; exact e
  have hd0:H hd=none:=f0 hd (s1.free hhd1);refine q hy (w::hd::RL) _ ⟨fun a o hn e=>?_,fun a e=>?_⟩ (fun a ha=>?_) ⟨dx,b,hd,RL,Zd,?_,?_,rfl,nwRL,nhRL⟩
  · have na:a≠w:=fun z=>hn (by simp [z]);have nh:a≠hd:=ZB e hd0;rw [Zh na,Zh nh,Zh na];exact s1 _ _ (by rw [Zh na]; exact e)
  · have na:a≠w:=fun z=>by rw [z,Zd] at e; cases e
    rw [Zh na] at e;have nh:a≠hd:=fun z=>by rw [z,Zd] at e; cases e
    rw [Zh nh,Zh na] at e;exact f0 a (s1.free e)
  · rcases List.mem_cons.mp ha with rfl | ha
    · exact .inl rfl
    rcases List.mem_cons.mp ha with rfl | ha
    · exact .inr hd0
    exact .inr (f0 a (fRL a ha))
  · refine L.mv fun a ha o e=>?_;have na:a≠w:=fun z=>nwRL (z▸ha);have nh:a≠hd:=fun z=>nhRL (z▸ha);rw [Zh na,Zh nh,Zh na];exact e
  · rw [Zh nhw,Zd];rfl
theorem ZbO {f:Addr} {fd:FuncData} (F:Fun K "pass_years" "World.pass_years" ZY f fd) (T:Txt K g mg) (Qax:Dx P w0 K mg base 1 "want_between" ["number","low","high"] (YM K g)):FnOk P w0 K mg base (CXR P w0 base) 2 f fd ["self","many"] (Xk K g):=by
  refine F.okX ZbL (fun vs H Q E h=>?_) (fun cdv A outer s H vs Q E hr h=>?_)
  · obtain ⟨w,S,R,k,rfl,_⟩:=h;rfl
  obtain ⟨w,S,R,k,rfl,W,q1,q⟩:=h;refine ⟨_,(
(@Ze _ _ _ _ _ (@ZH _ _ _ _ (@JI _ _ _ _ _ _ _ _ _ _ _ XY Qax (hr.mono (by decide)) (@Za _ _ _ _ _ (by walk_at "1") (@Za _ _ _ _ _ (@Zf _ _ _ _) (@Za _ _ _ _ _ (@ZA _ _ (.int 60) _ _ rfl T.Qbk ⟨_,rfl⟩ (by decide)) (@Zc _) (by rfl)) (by rfl)) (by rfl)) (by rfl) (by decide) (by rfl) (by rfl)) (by rfl)) (@Zg _ _ _ (@Zia _ _ _ _ _ _ _ _ _ _ (by walk_at "0") (by walk_at "1") (@in_add _))))),?_⟩
  obtain ⟨dx,b,hd,RL,hw,L,hh,eR,n1,n2⟩:=W.ex;obtain ⟨dy,y1,y2,y3,hb⟩:=L.obj;refine ⟨_,rfl,k,1,60,rfl,q1,fun hk=>?_⟩;refine ⟨_,rfl,w,_,dx,_,_,rfl,hw,T.Qaa,T.Qau,rfl,_,rfl,_,_,rfl,rfl,dx,_,hw,(by show 3<1000; decide),?_⟩;have nwh:hd≠w:=ZI hh hw (fun z=>by cases z);subst eR;exact q hk _ (X0.wide (fun a ha=>by rw [List.mem_singleton.mp ha]; simp)) ⟨dx,b,hd,RL,Zd,L.mv (fun a ha o e=>by rw [Zh (show a≠w from fun z=>n1 (by rw [← z]; exact ha))]; exact e),by rw [Zh nwh]; exact hh,rfl,n1,n2⟩
theorem Zdg {f:Addr} {fd:FuncData} (F:Fun K "arrive" "World.arrive" YC f fd) (T:Txt K g mg) (Qax:Dx P w0 K mg base 1 "want_between" ["number","low","high"] (YM K g)) (Qbu:Dm P w0 K mg base (CXR P w0 base) g.Lives 4 "arrive" ["self","word","born"] (JE K g)):FnOk P w0 K mg base (CXR P w0 base) 5 f fd ["self","word","age"] (JC K g):=by
  refine F.okX Zc9 (fun vs H Q E h=>?_) (fun cdv A outer s H vs Q E hr h=>?_)
  · obtain ⟨w,S,R,n,a,rfl,_⟩:=h;rfl
  obtain ⟨w,S,R,n,a,rfl,W,hx,hl,q0,q1,q2,q⟩:=h;refine ⟨_,(
(@Ze _ _ _ _ _ (@ZH _ _ _ _ (@JI _ _ _ _ _ _ _ _ _ _ _ XY Qax (hr.mono (by decide)) (@Za _ _ _ _ _ (by walk_at "2") (@Za _ _ _ _ _ (@Zf _ _ _ _) (@Za _ _ _ _ _ (@ZA _ _ (.int 120) _ _ rfl T.Qdq ⟨_,rfl⟩ (by decide)) (@Zc _) (by rfl)) (by rfl)) (by rfl)) (by rfl) (by decide) (by rfl) (by rfl)) (by rfl)) (@Zg _ _ _ (@ZH _ _ _ _ (@ZL _ _ _ _ _ _ _ _ _ _ _ _ _ _ _ _ XY Qbu (hr.mono (by decide)) (@Zx _ _ _ _ _ (by walk_at "0") rfl) (@Za _ _ _ _ _ (by walk_at "1") (@Za _ _ _ _ _ (@Zn _ _ _ _ _ _ _ _ (@Zaz _) (@Zx _ _ _ _ _ (by walk_at "0") rfl) (by walk_at "2")) (@Zc _) (by rfl)) (by rfl)) (by rfl) (by rfl) (by rfl)) (by rfl))))),?_⟩
  obtain ⟨dx,b,hd,RL,hw,L,hh,eR,n1,n2⟩:=W.ex;obtain ⟨dy,y1,y2,y3,hb⟩:=L.obj;refine ⟨_,rfl,a,0,120,rfl,q0,fun ha=>?_⟩;refine ⟨_,rfl,w,_,dx,_,_,rfl,hw,T.Qaa,T.Qah,rfl,b,dy,_,rfl,hb,rfl,_,rfl,_,rfl,w,_,dx,_,_,rfl,hw,T.Qaa,T.Qau,rfl,_,rfl,_,_,rfl,rfl,b,S.bs,S.ds,RL,n,_,rfl,L,hx,hl,q1 ha,q2 ha,fun e1 e2 R' H' kp gr L'=>?_⟩;subst eR;obtain ⟨W',k',g'⟩:=WorldAt.book (S:=S) hw hh n1 n2 kp gr L';exact q ha e1 e2 _ H' k' g' W'
theorem Zd4 {f:Addr} {fd:FuncData} (F:Fun K "birth" "World.birth" YY f fd) (T:Txt K g mg) (Qbv:Dm P w0 K mg base (CXR P w0 base) g.Lives 4 "birth" ["self","name","year"] (Zae K g)):FnOk P w0 K mg base (CXR P w0 base) 5 f fd ["self","name"] (Zac K g):=by
  refine F.okX ZdL (fun vs H Q E h=>?_) (fun cdv A outer s H vs Q E hr h=>?_)
  · obtain ⟨w,S,R,n,rfl,_⟩:=h;rfl
  obtain ⟨w,S,R,n,rfl,W,hl,h99,q0,q1,q2,q⟩:=h;refine ⟨_,(
(@Zg _ _ _ (@Zm _ _ _ _ (@ZL _ _ _ _ _ _ _ _ _ _ _ _ _ _ _ _ XY Qbv (hr.mono (by decide)) (@Zx _ _ _ _ _ (by walk_at "0") rfl) (@Za _ _ _ _ _ (by walk_at "1") (@Za _ _ _ _ _ (@Zx _ _ _ _ _ (by walk_at "0") rfl) (@Zc _) (by rfl)) (by rfl)) (by rfl) (by rfl) (by rfl))))),?_⟩
  obtain ⟨dx,b,hd,RL,hw,L,hh,eR,n1,n2⟩:=W.ex;obtain ⟨dy,y1,y2,y3,hb⟩:=L.obj;refine ⟨_,rfl,w,_,dx,_,_,rfl,hw,T.Qaa,T.Qah,rfl,b,dy,_,rfl,hb,rfl,_,rfl,_,rfl,w,_,dx,_,_,rfl,hw,T.Qaa,T.Qau,rfl,b,S.bs,S.ds,RL,n,_,rfl,L,hl,h99,q0,q1,q2,fun e1 e2 e3 R' H' kp gr L'=>?_⟩;subst eR;obtain ⟨W',k',g'⟩:=WorldAt.book (S:=S) hw hh n1 n2 kp gr L';exact q e1 e2 e3 _ H' k' g' W'
theorem Zd2 {f:Addr} {fd:FuncData} (F:Fun K "death" "World.death" YW f fd) (T:Txt K g mg) (Qbw:Dm P w0 K mg base (CXR P w0 base) g.Lives 4 "death" ["self","name","year"] (Zad K g)):FnOk P w0 K mg base (CXR P w0 base) 5 f fd ["self","name"] (Zaa K g):=by
  refine F.okX ZdJ (fun vs H Q E h=>?_) (fun cdv A outer s H vs Q E hr h=>?_)
  · obtain ⟨w,S,R,n,rfl,_⟩:=h;rfl
  obtain ⟨w,S,R,n,rfl,W,hl,q0,q1,q⟩:=h;refine ⟨_,(
(@Zg _ _ _ (@ZH _ _ _ _ (@ZL _ _ _ _ _ _ _ _ _ _ _ _ _ _ _ _ XY Qbw (hr.mono (by decide)) (@Zx _ _ _ _ _ (by walk_at "0") rfl) (@Za _ _ _ _ _ (by walk_at "1") (@Za _ _ _ _ _ (@Zx _ _ _ _ _ (by walk_at "0") rfl) (@Zc _) (by rfl)) (by rfl)) (by rfl) (by rfl) (by rfl)) (by rfl)))),?_⟩
  obtain ⟨dx,b,hd,RL,hw,L,hh,eR,n1,n2⟩:=W.ex;obtain ⟨dy,y1,y2,y3,hb⟩:=L.obj;refine ⟨_,rfl,w,_,dx,_,_,rfl,hw,T.Qaa,T.Qah,rfl,b,dy,_,rfl,hb,rfl,_,rfl,_,rfl,w,_,dx,_,_,rfl,hw,T.Qaa,T.Qau,rfl,b,S.bs,S.ds,RL,n,_,rfl,L,hl,q0,q1,fun e1 e2 H' kp L'=>?_⟩;subst eR;obtain ⟨W',k',g'⟩:=WorldAt.book (S:=S) hw hh n1 n2 kp (ZaB.refl _ _) L';exact q e1 e2 H' k' W'
theorem Zd3 {f:Addr} {fd:FuncData} (F:Fun K "comes" "World.comes" YX f fd) (T:Txt K g mg) (QaP:Dx P w0 K mg base 3 "want_word" ["word"] (JL K g)):FnOk P w0 K mg base (CXR P w0 base) 4 f fd ["self","word"] (Zab K g):=by
  refine F.okX ZdK (fun vs H Q E h=>?_) (fun cdv A outer s H vs Q E hr h=>?_)
  · obtain ⟨w,S,R,n,rfl,_⟩:=h;rfl
  obtain ⟨w,S,R,n,rfl,W,hx,hl,q0,q1,q⟩:=h;refine ⟨_,(
(@Ze _ _ _ _ _ (@ZH _ _ _ _ (@JI _ _ _ _ _ _ _ _ _ _ _ XY QaP (hr.mono (by decide)) (@Za _ _ _ _ _ (by walk_at "1") (@Zc _) (by rfl)) (by rfl) (by decide) (by rfl) (by rfl)) (by rfl)) (@Ze _ _ _ _ _ (@Zy _ _ _ _ _ _ _ _ (@JH _ _ _ _ _ _ (@Zb1 _ _ _ _ _ (Z9 hr) (by walk_at "1") (@Zx _ _ _ _ _ (by walk_at "0") rfl)) (by walk_at "n")) (@Zg _ _ _ (@Xn _ _ _ _ _ _ _ _ _ _ _ _ _ _ _ _ _ _ _ _ _ _ T.QcO.x T.QcL (@Zo _ _ _ _) (by rfl) (by rfl) (by decide))) (@Zq _)) (@Zg _ _ _ (@Jv _ _ _ _ _ _ _ _ _ (Z9 hr) (@Zx _ _ _ _ _ (by walk_at "0") rfl) (by walk_at "1") (@Zx _ _ _ _ _ (by walk_at "0") rfl) rfl))))),?_⟩
  obtain ⟨dx,b,hd,RL,hw,L,hh,eR,n1,n2⟩:=W.ex;obtain ⟨dy,y1,y2,y3,hb⟩:=L.obj;refine ⟨_,rfl,n,rfl,hx,q0,fun hg=>?_⟩;refine ⟨_,rfl,_,rfl,w,_,dx,_,_,rfl,hw,T.Qaa,T.QaZ,rfl,hd,_,rfl,Yx.k (k:=Sum.inr n) hh,_,rfl,?_⟩;rw [Z4];cases hc:has S.cs n with
  | true=>exact Yw ⟨rfl,q1 hg hc⟩
  | false =>
    refine Yb ⟨_,rfl,w,_,dx,_,_,rfl,hw,T.Qaa,T.Qau,rfl,_,rfl,w,_,dx,_,_,rfl,hw,T.Qaa,T.QaZ,rfl,_,rfl,hd,_,rfl,ZcA.k (k:=Sum.inr n) hh (ZC (by unfold yrs; rw [length_map]; omega)),?_⟩;rw [XT _ (ZbG hc),Zbx];have nwh:w≠hd:=ZI hw hh (fun z=>by cases z);subst eR;exact q hg hc _ (X0.wide (fun a ha=>by rw [List.mem_singleton.mp ha]; simp)) ⟨dx,b,hd,RL,by rw [Zh nwh]; exact hw,L.mv (fun a ha o e=>by rw [Zh (show a≠hd from fun z=>n2 (by rw [← z]; exact ha))]; exact e),Zd,rfl,n1,n2⟩
theorem Zfr {f:Addr} {fd:FuncData} (F:Fun K "class_end" "class_end" XF f fd) (T:Txt K g mg) (QaS:Dn P w0 K mg base 5 "left_out" ["world","name"] (Zan K g)) (QaN:Dn P w0 K mg base 5 "may_grow" ["world","name"] (Zam K g)) (QaO:Dn P w0 K mg base 6 "has_seat" ["world","name","age","out"] (Zaq K g)) (QaU:Dm P w0 K mg base (CXR P w0 base) g.Lives 3 "born_in" ["self","name"] (Xd K g)) (Qaw:Dn P w0 K mg base 6 "waiting" ["world","name","age","out"] (J4 K g)):FnOk P w0 K mg base CX0 7 f fd ["world","name","age"] (ZaX K g):=by
  refine F.ok ZaZ (fun vs H Q E h=>?_) (fun cdv A outer s H vs Q E hr h=>?_)
  · obtain ⟨w,S,R,n,a,rfl,_⟩:=h;rfl
  obtain ⟨w,S,R,n,a,rfl,W,hlen,on,h0,h1,q⟩:=h;refine ⟨_,(
(@Ze _ _ _ _ _ (@Zw _ _ (3) _ _ _ _ ZaZ.nd rfl (Or.inl rfl) (@Zv _ _ _ _ _ _ _ _ _ _ QaS (hr.mono (by decide)) (@Za _ _ _ _ _ (by walk_at "0") (@Za _ _ _ _ _ (by walk_at "1") (@Zc _) (by rfl)) (by rfl)) (by rfl) (by decide) (by rfl) (by rfl)) (by rfl) (by walk_at "u")) (@Ze _ _ _ _ _ (@Zy _ _ _ _ _ _ _ _ (@PW.pt _ _ _ (@ZbT _ _ _ _ _ _ _ (@ZP _ _ _ (@Zv _ _ _ _ _ _ _ _ _ _ QaN (hr.mono (by decide)) (@Za _ _ _ _ _ (by walk_at "0") (@Za _ _ _ _ _ (by walk_at "1") (@Zc _) (by rfl)) (by rfl)) (by rfl) (by decide) (by rfl) (by rfl)) (by intro _ ; rfl)) (@Zay _ _ _ _ (@ZP _ _ _ (@Zv _ _ _ _ _ _ _ _ _ _ QaO (hr.mono (by decide)) (@Za _ _ _ _ _ (by walk_at "0") (@Za _ _ _ _ _ (by walk_at "1") (@Za _ _ _ _ _ (by walk_at "2") (@Za _ _ _ _ _ (by walk_at "3") (@Zc _) (by rfl)) (by rfl)) (by rfl)) (by rfl)) (by rfl) (by decide) (by rfl) (by rfl)) (by intro _ ; rfl))))) (@Zg _ _ _ (@Zm _ _ _ _ (@Zx _ _ _ _ _ (by walk_at "0") rfl))) (@Zq _)) (@Ze _ _ _ _ _ (@ZaK _ (4) _ _ _ _ _ ("child") _ _ _ ([("world",s.heap.objs.size+1)]) _ ([("world",0)]) _ _ _ ZaZ.nd rfl (Or.inl rfl) rfl (@Yc _ _ _ _ (@Zv _ _ _ _ _ _ _ _ _ _ Qaw (hr.mono (by decide)) (@Za _ _ _ _ _ (by walk_at "0") (@Za _ _ _ _ _ (by walk_at "1") (@Za _ _ _ _ _ (by walk_at "2") (@Za _ _ _ _ _ (by walk_at "3") (@Zc _) (by rfl)) (by rfl)) (by rfl)) (by rfl)) (by rfl) (by decide) (by rfl) (by rfl))) (fun _ _ _ _ _=>(@Zai _)) (fun _ _ _ _ _=>(@ZL _ _ _ _ _ _ _ _ _ _ _ _ _ _ _ _ Xr QaU (hr.mono (by decide)) (show PE _ _ (tFld K (Ze2 1) "lives") from (@Zx _ _ _ _ _ (by walk_at "1") rfl)) (@Za _ _ _ _ _ (by walk_at "0") (@Zc _) (by rfl)) (by rfl) (by rfl) (by rfl))) rfl (by decide +kernel) rfl (by decide +kernel) rfl (fun _ _ h=>h) (YL rfl) (fun p hp=>by rw [List.mem_singleton.mp hp]; exact ⟨rfl,rfl,by first | exact .inl rfl | exact .inr rfl⟩) (by decide +kernel) (by intro _ ; rfl) (by rfl) (by walk_at "u")) (@Zg _ _ _ (@Zm _ _ _ _ (@Xp _ _ _ _ _ _ _ _ (@ZdR _ _ _ (by walk_at "4") (fun _=>rfl)) (@Zn _ _ _ _ _ _ _ _ (@Z6 _) (@ZD _ _ _ _ _ _ _ _ _ (@ZiF _ rfl) rfl T.z_min PyProof.Rows.boot_min (@Za _ _ _ _ _ (by walk_at "4") (@Zc _) (by rfl)) (by decide) (by decide) (by rfl) (by rfl)) (by walk_at "2")) (@Zx _ _ _ _ _ (by walk_at "0") rfl)))))))),?_⟩
  have wf:=W.wf;have hl9:S.bs.length≤900:=by omega
  have pn:=on.1;walk_at "go";intro o H1 s1 fo ho;have W1:=W.same s1;have hoS:=SqL.of (K:=K) ho;walk_at "go";intro H2 s2;have W2:=W1.same s2;have hoS2:=s2.seq hoS;walk_at "go";have s12:=s1.trans s2;cases hal:al S.bs S.ds (nr S.bs n) with
  | true =>
    obtain ⟨dx,b,hd,RL,hw,L,hh,eR,n1,n2⟩:=W2.ex;walk_at "go";exact q S.y _ ⟨fun _=>rfl,fun z=>by rw [hal] at z; cases z⟩ s12
  | false =>
    walk_at "go";intro H3 s3;have s13:=s12.trans s3;have W3:=W2.same s3;have hoS3:=s3.seq hoS2;cases hse:Xt S n a (Yv S n) with
    | true =>
      obtain ⟨dx,b,hd,RL,hw,L,hh,eR,n1,n2⟩:=W3.ex;walk_at "go";exact q S.y _ ⟨fun _=>rfl,fun z=>by rw [hal,hse] at z; cases z⟩ s13
    | false =>
      refine ⟨_,rfl,Yb ?_⟩;unfold ZfW;dsimp only;unfold ZgS ZfX;dsimp only;refine lcS (ss:=Z8 S n a (Yv S n)) (fun l1 H4=>Zj H3 H4∧H4 l1=some (.lst ((Z8 S n a (Yv S n)).map V.str))∧H3 l1=none) (fun _=>true) (fun c => .int (Za6 S c)) ?_ (fun a H1 h=>SqL.of h.2.1) (by have:=length_filter_le (fun c => !decide (a≤Zdl S c) && !has S.ds c) (Zb3 S n (Yv S n)); have:=Zee wf (n:=n) (os:=Yv S n); show (List.filter _ _).length≤_; omega) ?_ ?_ ?_
      · intro R0 r;walk_at "go";exact fun l H' s f h=>r l H' ⟨s,h,f⟩
      · exact fun a0 H1 x H2 _ hx s R0 r=>r H2 (Zj.refl _)
      · rintro a0 H4 x H5 ⟨s4,h4,_⟩ hx _ s R0 r;have hk:=Jp wf (ZcB hx);obtain ⟨dx,b,hd,RL,hw,L,hh,eR,n1,n2⟩:=(W3.same (s4.trans s)).ex;obtain ⟨dy,y1,y2,y3,hb⟩:=L.obj;walk_at "go";refine ⟨(fun z=>by rw [hk] at z; cases z),fun y hy=>?_⟩;rw [← Zdx hy];exact r H5 (Zj.refl _)
      · rintro a0 H4 D H5 ⟨s4,h4,_⟩ hD s h;have s15:=s13.trans (s4.trans s);obtain ⟨dx,b,hd,RL,hw,L,hh,eR,n1,n2⟩:=(W3.same (s4.trans s)).ex;have h':H5 D=some (.lst (((Z8 S n a (Yv S n)).map (Za6 S)).map V.int)):=by rw [h,List.filter_eq_self.mpr (fun _ _=>rfl),map_map]; rfl
        walk_at "go";cases hwa:Z8 S n a (Yv S n) with
        | nil =>
          walk_at "go";exact q S.y _ ⟨fun _=>rfl,fun _ z=>absurd hwa z⟩ s15
        | cons x0 r0 =>
          have ne:(Z8 S n a (Yv S n)).map (Za6 S)≠[]:=by rw [hwa]; exact List.cons_ne_nil _ _
          have hb':=SqL.of (K:=K) h';walk_at "go";intro M hM hle;walk_at "go";exact q _ _ ⟨(fun z=>by rw [hal,hse,hwa] at z; rcases z with z | z <;> cases z),fun _ _=>⟨M,hM,hle,rfl⟩⟩ s15
theorem Zfq {f:Addr} {fd:FuncData} (F:Fun K "first_end" "first_end" XE f fd) (T:Txt K g mg) (Qae:Dn P w0 K mg base 1 "is_class" ["holder"] (Yt K g)) (QaU:Dm P w0 K mg base (CXR P w0 base) g.Lives 3 "born_in" ["self","name"] (Xd K g)) (Qbx:Dn P w0 K mg base 7 "class_end" ["world","name","age"] (ZaX K g)) (Qac:Dm P w0 K mg base CX0 g.Lives 1 "alive" ["self","name"] (ZK K g)):FnOk P w0 K mg base CX0 8 f fd ["world","holder","atoms"] (JN K g):=by
  refine F.ok ZaY (fun vs H Q E h=>?_) (fun cdv A outer s H vs Q E hr h=>?_)
  · obtain ⟨w,S,R,p,l,h,ts,ps,rfl,_⟩:=h;rfl
  obtain ⟨w,S,R,p,l,h,ts,ps,rfl,W,hlen,hp,A0,oh,ok,tl,q⟩:=h;refine ⟨_,(
(@Ze _ _ _ _ _ (@Zw _ _ (3) _ _ _ _ ZaY.nd rfl (Or.inr rfl) (@Zx _ _ _ _ _ (by walk_at "0") rfl) (by rfl) (by walk_at "u")) (@Ze _ _ _ _ _ (@ZaK _ (4) _ _ _ _ _ ("atom") _ _ _ ([("lives",s.heap.objs.size+1)]) _ ([("lives",3)]) _ _ _ ZaY.nd rfl (Or.inl rfl) rfl (@Yc _ _ _ _ (by walk_at "2")) (fun _ _ _ _ _=>(@YN _ _ _ (@PW.pt _ _ _ (@Zah _ _ _ _ _ _ _ (@Zp _ _ _ _ _ _ _ _ (@Ya _) (@Zt _ _ _ _ _ _ _ (show IxR _ (ZcJ K) from (@Zr _)) (by walk_at "0") (@Zf _ _ _ _) (fun _ _=>rfl)) (@Zo _ _ _ _) (Zu _)) (@Ju _ _ _ _ (@ZP _ _ _ (@ZL _ _ _ _ _ _ _ _ _ _ _ _ _ _ _ _ Xa Qac (hr.mono (by decide)) (by walk_at "1") (@Za _ _ _ _ _ (@Zt _ _ _ _ _ _ _ (show IxR _ (ZcJ K) from (@Zr _)) (by walk_at "0") (@Zf _ _ _ _) (fun _ _=>rfl)) (@Zc _) (by rfl)) (by rfl) (by rfl) (by rfl)) (by intro _ ; rfl))))))) (fun _ _ _ _ _=>(@Zn _ _ _ _ _ _ _ _ (@Z6 _) (@ZL _ _ _ _ _ _ _ _ _ _ _ _ _ _ _ _ Xr QaU (hr.mono (by decide)) (by walk_at "1") (@Za _ _ _ _ _ (@Zt _ _ _ _ _ _ _ (show IxR _ (ZcJ K) from (@Zr _)) (by walk_at "0") (@Zf _ _ _ _) (fun _ _=>rfl)) (@Zc _) (by rfl)) (by rfl) (by rfl) (by rfl)) (@Zt _ _ _ _ _ _ _ (show IxR _ (ZcJ K) from (@Zr _)) (by walk_at "0") (@Zf _ _ _ _) (fun _ _=>rfl)))) rfl (by decide +kernel) rfl (by decide +kernel) rfl (fun _ _ h=>h) (YL rfl) (fun p hp=>by rw [List.mem_singleton.mp hp]; exact ⟨rfl,rfl,by first | exact .inl rfl | exact .inr rfl⟩) (by decide +kernel) (by intro _ ; rfl) (by rfl) (by walk_at "u")) (@Ze _ _ _ _ _ (@Zy _ _ _ _ _ _ _ _ (@ZP _ _ _ (@Zv _ _ _ _ _ _ _ _ _ _ Qae (hr.mono (by decide)) (@Za _ _ _ _ _ (by walk_at "1") (@Zc _) (by rfl)) (by rfl) (by decide) (by rfl) (by rfl)) (by intro _ ; rfl)) (@Zg _ _ _ (@ZH _ _ _ _ (@Xq _ _ _ _ _ _ _ _ _ _ _ _ plainAttrs_list PySem.F.slot_list_append PySem.F.type_list_append (@Xi _) (by walk_at "4") (@Za _ _ _ _ _ (@Zv _ _ _ _ _ _ _ _ _ _ Qbx (hr.mono (by decide)) (@Za _ _ _ _ _ (by walk_at "0") (@Za _ _ _ _ _ (@Zt _ _ _ _ _ _ _ (@Zr _) (by walk_at "1") (@Zf _ _ _ _) (fun _ _=>rfl)) (@Za _ _ _ _ _ (@Zt _ _ _ _ _ _ _ (@Zr _) (by walk_at "1") (@Zf _ _ _ _) (fun _ _=>rfl)) (@Zc _) (by rfl)) (by rfl)) (by rfl)) (by rfl) (by decide) (by rfl) (by rfl)) (@Zc _) (by rfl)) (by rfl) (by rfl) (by rfl) (by rfl) (by rfl)) (by rfl))) (@Zq _)) (@Zg _ _ _ (@Zm _ _ _ _ (@ZD _ _ _ _ _ _ _ _ _ (@ZiG _ rfl) rfl T.z_max boot_max (@Za _ _ _ _ _ (@Zn _ _ _ _ _ _ _ _ (@ZdU _) (@Ym _ _ _ _ (@Za _ _ _ _ _ (@Zx _ _ _ _ _ (by walk_at "0") rfl) (@Zc _) (by rfl))) (by walk_at "4")) (@Zc _) (by rfl)) (by decide) (by decide) (by rfl) (by rfl)))))))),?_⟩
  have wf:=W.wf;obtain ⟨dx,b,hd,RL,hw,L,hh,eR,n1,n2⟩:=W.ex;obtain ⟨dy,y1,y2,y3,hb⟩:=L.obj;refine ⟨_,rfl,w,_,dx,_,_,rfl,hw,T.Qaa,T.Qah,rfl,?_⟩;unfold Zc6;dsimp only;unfold ZgS ZfX;dsimp only;refine lcLvT (xs:=ps.map V.ref) (fun a H1=>a=l∧H1=H) ?_ ?_ (by rw [length_map,A0.len]; omega) (fun i=>(ts[i]?.map (isAg S)).getD false) (fun i => .int ((ts[i]?.map (agY S)).getD 0)) ?_ ?_ ?_
  · exact fun R0 r=>⟨_,rfl,r l H ⟨rfl,rfl⟩⟩
  · rintro a H1 ⟨rfl,rfl⟩;exact SqL.of A0.lst
  · rintro a H1 i x H2 ⟨rfl,rfl⟩ hx s R0 r;obtain ⟨p2,t,rfl,ht,hp2⟩:=(A0.same s).at' hx;rw [ht] at r;have LL:=L.same s;have hb2:=s _ _ hb;cases t with
    | age n a =>
      walk_at "go";exact r H2 (Zj.refl _)
    | born n =>
      walk_at "go";rw [Y5,decide_eq_false (by decide +kernel)];exact Yb (r H2 (Zj.refl _))
    | dead n =>
      walk_at "go";rw [Y5,decide_eq_false (by decide +kernel)];exact Yb (r H2 (Zj.refl _))
    | year n =>
      walk_at "go";rw [Y5,decide_eq_false (by decide +kernel)];exact Yb (r H2 (Zj.refl _))
    | comes n =>
      walk_at "go";rw [Y5,decide_eq_false (by decide +kernel)];exact Yb (r H2 (Zj.refl _))
  · rintro a H1 i x H2 ⟨rfl,rfl⟩ hx hf s R0 r;obtain ⟨p2,t,rfl,ht,hp2⟩:=(A0.same s).at' hx;rw [ht] at r hf;have LL:=L.same s;have hb2:=s _ _ hb;cases t with
    | age n a =>
      have hk:has S.bs n=true:=by
        have z:al S.bs S.ds n=true:=hf;unfold al at z;rw [and_eq_true] at z;exact z.1
      walk_at "go";refine ⟨(fun z=>by rw [hk] at z; cases z),fun y hy=>?_⟩;have z:=r H2 (Zj.refl _);rw [show ((some (Atm.age n a)).map (agY S)).getD 0=y+a from by show Za6 S n+a=_; rw [Zdx hy]] at z;walk_at "go";exact z
    | _=>cases hf
  rintro a1 H1 D H2 ⟨rfl,rfl⟩ hD s2 h2;rw [length_map,A0.len,ag_of] at h2;have W2:=W.same s2;have hp2:=s2 _ _ hp;have hw2:=s2 _ _ hw;have al:=ZkA S ts;cases h with
  | one n =>
    walk_at "go";intro l5 hl5;have s5:=Zi hl5 (.lst [V.int S.y]);have h5:=s5 _ _ h2;refine ⟨_,rfl,l5,D,_,_,rfl,rfl,Zd,h5,ZE (by rw [length_map]; show 1+_≤500; omega),fun l6 hl6=>?_⟩;have s6:=Zi hl6 (.lst ([V.int S.y]++(agL S ts).map V.int));refine ⟨l6,S.y::agL S ts,rfl,SqL.of Zd,by simp,fun M hm hl=>q M _ ⟨S.y,rfl,mem_cons_of_mem _ hm,fun x hx=>?_⟩ ((s2.trans s5).trans s6)⟩;rcases List.mem_cons.mp hx with rfl | hx
    · exact hl _ (by simp)
    · exact hl x hx
  | kids n a =>
    obtain ⟨on,h0,h1⟩:=oh;walk_at "go";intro e H3 he s3;have h3:=s3 _ _ h2;have lS:((agL S ts).map V.int).length<sizeLine:=ZC (by rw [length_map]; omega);have nwD:w≠D:=fun z=>by rw [z,hD] at hw; cases hw
    have hw4:upd H3 D (.lst ((agL S ts).map V.int++[V.int e])) w=H1 w:=by rw [Zh nwD,s3 _ _ hw2,hw]
    rw [hw] at hw4;have h4:upd H3 D (.lst ((agL S ts).map V.int++[V.int e])) D=some (.lst ((agL S ts).map V.int++[V.int e])):=Zd;have s4:Zj H1 (upd H3 D (.lst ((agL S ts).map V.int++[V.int e]))):=ZX (s2.trans s3) hD;walk_at "go";intro l5 hl5;have s5:=Zi hl5 (.lst [V.int S.y]);have h5:=s5 _ _ h4;refine ⟨_,rfl,l5,D,_,_,rfl,rfl,Zd,h5,ZE (by rw [length_append,length_map]; show 1+(_+1)≤500; omega),fun l6 hl6=>?_⟩;have s6:=Zi hl6 (.lst ([V.int S.y]++((agL S ts).map V.int++[V.int e])));refine ⟨l6,S.y::(agL S ts++[e]),rfl,SqL.of (by rw [Zd,map_cons,map_append]; rfl),by simp,fun M hm hl=>q M _ ⟨e,he,?_,fun x hx=>hl x ?_⟩ ((s4.trans s5).trans s6)⟩
    · simp only [mem_cons,mem_append,mem_singleton] at hm ⊢;rcases hm with z | z | z
      · exact .inl z
      · exact .inr (.inr z)
      · rcases z with z | z
        · exact .inr (.inl z)
        · cases z
    · simp only [mem_cons,mem_append,mem_singleton] at hx ⊢;rcases hx with z | z | z
      · exact .inl z
      · exact .inr (.inr (.inl z))
      · exact .inr (.inl z)
theorem Zd1 {f:Addr} {fd:FuncData} (F:Fun K "births_away" "births_away" YV f fd) (T:Txt K g mg) (Qai:Dm P w0 K mg base (CXR P w0 base) g.Lives 4 "nearest" ["self","name"] (ZU K g)):FnOk P w0 K mg base CX0 5 f fd ["world","name"] (J9 K g):=by
  refine F.ok ZdI (fun vs H Q E h=>?_) (fun cdv A outer s H vs Q E hr h=>?_)
  · obtain ⟨w,S,R,n,rfl,_⟩:=h;rfl
  obtain ⟨w,S,R,n,rfl,W,on,q⟩:=h;refine ⟨_,(
(@Zg _ _ _ (@Zm _ _ _ _ (@Zn _ _ _ _ _ _ _ _ (@Zaz _) (@Xq _ _ _ _ _ _ _ _ _ _ _ _ plainAttrs_str slot_str_count type_str_count (@ZaO _) (by walk_at "1") (@Za _ _ _ _ _ (@Zo _ _ _ _) (@Zc _) (by rfl)) (by rfl) (by rfl) (by rfl) (by rfl) (by rfl)) (@Xq _ _ _ _ _ _ _ _ _ _ _ _ plainAttrs_str slot_str_count type_str_count (@ZaO _) (@ZL _ _ _ _ _ _ _ _ _ _ _ _ _ _ _ _ Xr Qai (hr.mono (by decide)) (@Zx _ _ _ _ _ (by walk_at "0") rfl) (@Za _ _ _ _ _ (by walk_at "1") (@Zc _) (by rfl)) (by rfl) (by rfl) (by rfl)) (@Za _ _ _ _ _ (@Zo _ _ _ _) (@Zc _) (by rfl)) (by rfl) (by rfl) (by rfl) (by rfl) (by rfl)))))),?_⟩
  have pn:=on.1;have nl:=Xh on.1;obtain ⟨dx,b,hd,RL,hw,L,hh,eR,n1,n2⟩:=W.ex;obtain ⟨dy,y1,y2,y3,hb⟩:=L.obj;have nl2:n.length≤200:=by omega
  walk_at "go";refine ⟨(fun z=>by rw [pn] at z; cases z),fun _ H1 s1=>?_⟩;walk_at "go";exact q H1 s1
theorem Zdf {f:Addr} {fd:FuncData} (F:Fun K "atom_lingers" "atom_lingers" YB f fd) (T:Txt K g mg) (Qby:Dn P w0 K mg base 5 "births_away" ["world","name"] (J9 K g)):FnOk P w0 K mg base CX0 6 f fd ["world","atom","end","term"] (JB K g):=by
  refine F.ok JG (fun vs H Q E h=>?_) (fun cdv A outer s H vs Q E hr h=>?_)
  · obtain ⟨w,S,R,p,t,F,tm,rfl,_⟩:=h;rfl
  obtain ⟨w,S,R,p,t,F,tm,rfl,W,hp,okt,q⟩:=h;refine ⟨_,(
(@Ze _ _ _ _ _ (@Zw _ _ (4) _ _ _ _ JG.nd rfl (Or.inl rfl) (@Zt _ _ _ _ _ _ _ (@Zr _) (by walk_at "1") (@Zf _ _ _ _) (fun _ _=>rfl)) (by rfl) (by walk_at "u")) (@Ze _ _ _ _ _ (@Zy _ _ _ _ _ _ _ _ (@Zp _ _ _ _ _ _ _ _ (@Ya _) (by walk_at "4") (@Zo _ _ _ _) (Zu _)) (@Zg _ _ _ (@Zm _ _ _ _ (@XW _ _ _ _ _ _ _ _ (@Zbr _) (@Zn _ _ _ _ _ _ _ _ (@Z6 _) (by walk_at "2") (by walk_at "3")) (@Zt _ _ _ _ _ _ _ (@Zr _) (by walk_at "1") (@Zf _ _ _ _) (fun _ _=>rfl)) (Zu _)))) (@Zq _)) (@Ze _ _ _ _ _ (@Zy _ _ _ _ _ _ _ _ (@Zp _ _ _ _ _ _ _ _ (@Ya _) (by walk_at "4") (@Zo _ _ _ _) (Zu _)) (@Zg _ _ _ (@Zm _ _ _ _ (@Zau _ _ _ _))) (@Zq _)) (@Ze _ _ _ _ _ (@Zw _ _ (5) _ _ _ _ JG.nd rfl (Or.inl rfl) (@Zv _ _ _ _ _ _ _ _ _ _ Qby (hr.mono (by decide)) (@Za _ _ _ _ _ (by walk_at "0") (@Za _ _ _ _ _ (@Zt _ _ _ _ _ _ _ (@Zr _) (by walk_at "1") (@Zf _ _ _ _) (fun _ _=>rfl)) (@Zc _) (by rfl)) (by rfl)) (by rfl) (by decide) (by rfl) (by rfl)) (by rfl) (by walk_at "u")) (@Ze _ _ _ _ _ (@Zy _ _ _ _ _ _ _ _ (@Zp _ _ _ _ _ _ _ _ (@Ya _) (by walk_at "5") (@Zf _ _ _ _) (Zu _)) (@Zg _ _ _ (@Zm _ _ _ _ (@pe_or _ _ _ _ _ _ _ (@XW _ _ _ _ _ _ _ _ (@Ya _) (by walk_at "4") (@Zo _ _ _ _) (Zu _)) (@Zbo _ _ _ _ _ (@Zbp _ _ _ _ _ _ _ (@XW _ _ _ _ _ _ _ _ (@Ya _) (by walk_at "4") (@Zo _ _ _ _) (Zu _)) (@Zbo _ _ _ _ _ (@XW _ _ _ _ _ _ _ _ (@ZbU _) (@Zt _ _ _ _ _ _ _ (@Zr _) (by walk_at "1") (@Zf _ _ _ _) (fun _ _=>rfl)) (by walk_at "3") (Zu _)))))))) (@Zq _)) (@Zg _ _ _ (@Zm _ _ _ _ (@XW _ _ _ _ _ _ _ _ (@ZbU _) (by walk_at "5") (@Zf _ _ _ _) (Zu _)))))))))),?_⟩
  cases t with
  | year y =>
    walk_at "go";exact q H (Zj.refl _)
  | comes c =>
    walk_at "go";exact Yw (q H (Zj.refl _))
  | born n =>
    have on:okN S n:=okt;walk_at "go";intro H1 s1;refine ⟨_,rfl,rfl,_,rfl,?_⟩;rw [Zds];have z:=q H1 s1;have e:XZ S F tm (.born n)=if ZaQ S n=1 then false else decide (ZaQ S n>1):=rfl
    rw [e] at z;refine Yj (fun c=>?_) (fun c=>?_)
    · rw [if_pos (of_decide_eq_true c)] at z;walk_at "go";rw [Y5,decide_eq_false (by decide +kernel)];exact Yb z
    · rw [if_neg (fun w=>c (decide_eq_true w))] at z;walk_at "go";exact z
  | dead n =>
    have on:okN S n:=okt;walk_at "go";intro H1 s1;refine ⟨_,rfl,rfl,_,rfl,?_⟩;rw [Zds];have z:=q H1 s1;have e:XZ S F tm (.dead n)=if ZaQ S n=1 then true else decide (ZaQ S n>1):=rfl
    rw [e] at z;refine Yj (fun c=>?_) (fun c=>?_)
    · rw [if_pos (of_decide_eq_true c)] at z;walk_at "go";exact Yw z
    · rw [if_neg (fun w=>c (decide_eq_true w))] at z;walk_at "go";exact z
  | age n a =>
    have on:okN S n:=okt.1;walk_at "go";intro H1 s1;have hp1:=s1 _ _ hp;refine ⟨_,rfl,rfl,_,rfl,?_⟩;rw [Zds];have z:=q H1 s1;have e:XZ S F tm (.age n a)=if ZaQ S n=1 then decide (a>tm) else decide (ZaQ S n>1):=rfl
    rw [e] at z;refine Yj (fun c=>?_) (fun c=>?_)
    · rw [if_pos (of_decide_eq_true c)] at z;walk_at "go";exact z
    · rw [if_neg (fun w=>c (decide_eq_true w))] at z;walk_at "go";exact z
theorem ZcO {f:Addr} {fd:FuncData} (F:Fun K "class_lingers" "class_lingers" Yo f fd) (T:Txt K g mg) (Qag:Dm P w0 K mg base CX0 g.Lives 1 "known" ["self","name"] (Z5 K g)) (Qac:Dm P w0 K mg base CX0 g.Lives 1 "alive" ["self","name"] (ZK K g)):FnOk P w0 K mg base CX0 2 f fd ["world","name","age","term"] (X5 K g):=by
  refine F.ok ZcG (fun vs H Q E h=>?_) (fun cdv A outer s H vs Q E hr h=>?_)
  · obtain ⟨w,S,R,n,a,tm,rfl,_⟩:=h;rfl
  obtain ⟨w,S,R,n,a,tm,rfl,W,q⟩:=h;refine ⟨_,(
(@Ze _ _ _ _ _ (@Zy _ _ _ _ _ _ _ _ (@Jo _ _ _ _ (@ZP _ _ _ (@ZL _ _ _ _ _ _ _ _ _ _ _ _ _ _ _ _ Xa Qag (hr.mono (by decide)) (@Zx _ _ _ _ _ (by walk_at "0") rfl) (@Za _ _ _ _ _ (by walk_at "1") (@Zc _) (by rfl)) (by rfl) (by rfl) (by rfl)) (by intro _ ; rfl))) (@Zg _ _ _ (@Zm _ _ _ _ (@Zau _ _ _ _))) (@Zq _)) (@Zg _ _ _ (@Zm _ _ _ _ (@Zbp _ _ _ _ _ _ _ (@ZL _ _ _ _ _ _ _ _ _ _ _ _ _ _ _ _ Xa Qac (hr.mono (by decide)) (@Zx _ _ _ _ _ (by walk_at "0") rfl) (@Za _ _ _ _ _ (by walk_at "1") (@Zc _) (by rfl)) (by rfl) (by rfl) (by rfl)) (@Zbo _ _ _ _ _ (@XW _ _ _ _ _ _ _ _ (@ZbU _) (by walk_at "2") (by walk_at "3") (Zu _)))))))),?_⟩
  obtain ⟨dx,b,hd,RL,hw,L,hh,eR,n1,n2⟩:=W.ex;obtain ⟨dy,y1,y2,y3,hb⟩:=L.obj;have qq:Q (.bl (if has S.bs n=false then true else al S.bs S.ds n && decide (a>tm))) H:=q;walk_at "go";cases hk:has S.bs n with
  | false =>
    rw [if_pos hk] at qq;walk_at "go";exact qq
  | true =>
    rw [if_neg (by rw [hk]; decide)] at qq;walk_at "go";cases ha:al S.bs S.ds n with
    | false =>
      rw [ha] at qq;exact Yb qq
    | true =>
      rw [ha] at qq;refine Yw ?_;walk_at "go";exact qq
theorem Zg6 {f:Addr} {fd:FuncData} (F:Fun K "hanging" "hanging" JX f fd) (T:Txt K g mg) (QaT:Dn P w0 K mg base 2 "wanted" ["holder","atoms"] (ZbB K g)) (QaK:Dx P w0 K mg base 7 "atom_stand" ["world","atom"] (Js K g)):FnOk P w0 K mg base CX0 8 f fd ["world","holder","atoms"] (J6 K g):=by
  refine F.ok ZgX (fun vs H Q E h=>?_) (fun cdv A outer s H vs Q E hr h=>?_)
  · obtain ⟨w,S,R,p,l,h,ts,ps,rfl,_⟩:=h;rfl
  obtain ⟨w,S,R,p,l,h,ts,ps,rfl,W,hp,A0,oh,ok,tl,q⟩:=h;refine ⟨_,(
(@Zg _ _ _ (@Zm _ _ _ _ (@ZaM _ _ _ ("atom") _ _ _ ([("world",s.heap.objs.size+1)]) _ ([("world",0)]) _ _ _ rfl (@Yc _ _ _ _ (@Zv _ _ _ _ _ _ _ _ _ _ QaT (hr.mono (by decide)) (@Za _ _ _ _ _ (by walk_at "1") (@Za _ _ _ _ _ (by walk_at "2") (@Zc _) (by rfl)) (by rfl)) (by rfl) (by decide) (by rfl) (by rfl))) (fun _ _ _ _ _=>(@YN _ _ _ (@Zp _ _ _ _ _ _ _ _ (@Ya _) (@JI _ _ _ _ _ _ _ _ _ _ _ Xr QaK (hr.mono (by decide)) (@Za _ _ _ _ _ (by walk_at "1") (@Za _ _ _ _ _ (by walk_at "0") (@Zc _) (by rfl)) (by rfl)) (by rfl) (by decide) (by rfl) (by rfl)) (@ZA _ _ (.str "hangs") _ _ rfl T.Qak ⟨_,rfl⟩ (by decide)) (Zu _)))) (fun _ _ _ _ _=>(by walk_at "0")) rfl (by decide +kernel) rfl (by decide +kernel) rfl (fun _ _ h=>h) (YL rfl) (fun p hp=>by rw [List.mem_singleton.mp hp]; exact ⟨rfl,rfl,by first | exact .inl rfl | exact .inr rfl⟩) (by decide +kernel) (by intro _ ; rfl))))),?_⟩
  have tl100:ts.length≤100:=by omega
  have tw:=Zdy h ts;have okw:=ZeY oh ok;unfold ZgT;refine lcAtR (tl':=X2 h ts) ?_ (by omega) (isHg S) ?_ ?_ ?_
  · intro R0 r;walk_at "go";exact fun l' ps' H' s f A=>r l' ps' H' s f A
  · intro p2 t H2 s2 ht hp2 R0 r;have okt:=okw t ht;have W2:=W.same s2;have hbad:=Atm.ok_bad okt;have hln:=Atm.ok_len okt;refine ⟨_,rfl,_,rfl,w,S,R,p2,t,rfl,W2,hp2,hln,(fun e z=>by rw [hbad] at z; cases z),fun _ H3 s3=>?_⟩;walk_at "go";have z:=r H3 s3;rw [Y5];exact z
  · exact fun x H2 s2 R0 r=>⟨_,rfl,r H2 (Zj.refl _)⟩
  · exact fun D ps' H2 s f A=>q D ps' H2 s f A
theorem Zg5 {f:Addr} {fd:FuncData} (F:Fun K "is_late" "is_late" JV f fd) (T:Txt K g mg) (QaV:Dn P w0 K mg base 8 "first_end" ["world","holder","atoms"] (JN K g)) (Qae:Dn P w0 K mg base 1 "is_class" ["holder"] (Yt K g)) (Qbz:Dn P w0 K mg base 2 "class_lingers" ["world","name","age","term"] (X5 K g)) (QbA:Dn P w0 K mg base 6 "atom_lingers" ["world","atom","end","term"] (JB K g)) (Qay:Dn P w0 K mg base 8 "hanging" ["world","holder","atoms"] (J6 K g)):FnOk P w0 K mg base CX0 9 f fd ["world","holder","atoms","term"] (ZbX K g):=by
  refine F.ok ZdF (fun vs H Q E h=>?_) (fun cdv A outer s H vs Q E hr h=>?_)
  · obtain ⟨w,S,R,p,l,h,ts,ps,tm,rfl,_⟩:=h;rfl
  obtain ⟨w,S,R,p,l,h,ts,ps,tm,rfl,W,hlen,hp,A0,oh,ok,tl,q⟩:=h;refine ⟨_,(
(@Ze _ _ _ _ _ (@Zw _ _ (4) _ _ _ _ ZdF.nd rfl (Or.inr rfl) (@Zv _ _ _ _ _ _ _ _ _ _ QaV (hr.mono (by decide)) (@Za _ _ _ _ _ (by walk_at "0") (@Za _ _ _ _ _ (by walk_at "1") (@Za _ _ _ _ _ (by walk_at "2") (@Zc _) (by rfl)) (by rfl)) (by rfl)) (by rfl) (by decide) (by rfl) (by rfl)) (by rfl) (by walk_at "u")) (@Ze _ _ _ _ _ (@Zy _ _ _ _ _ _ _ _ (@Zp _ _ _ _ _ _ _ _ (@ZaN _) (@Zau _ _ _ _) (@ZaM _ _ _ ("atom") _ _ _ ([("world",s.heap.objs.size+1),("term",s.heap.objs.size+2),("end",s.heap.objs.size+3)]) _ ([("world",0),("end",4),("term",3)]) _ _ _ rfl (@Yc _ _ _ _ (@Zv _ _ _ _ _ _ _ _ _ _ Qay (hr.mono (by decide)) (@Za _ _ _ _ _ (by walk_at "0") (@Za _ _ _ _ _ (by walk_at "1") (@Za _ _ _ _ _ (by walk_at "2") (@Zc _) (by rfl)) (by rfl)) (by rfl)) (by rfl) (by decide) (by rfl) (by rfl))) (fun _ _ _ _ _=>(@Zai _)) (fun _ _ _ _ _=>(@Zv _ _ _ _ _ _ _ _ _ _ QbA (hr.mono (by decide)) (@Za _ _ _ _ _ (by walk_at "1") (@Za _ _ _ _ _ (by walk_at "0") (@Za _ _ _ _ _ (by walk_at "2") (@Za _ _ _ _ _ (by walk_at "3") (@Zc _) (by rfl)) (by rfl)) (by rfl)) (by rfl)) (by rfl) (by decide) (by rfl) (by rfl))) rfl (by decide +kernel) rfl (by decide +kernel) rfl (L2.cl_sub (fun p hp=>by simp only [mem_cons,not_mem_nil,or_false] at hp; rcases hp with rfl | rfl | rfl <;> rfl)) (YL rfl) (fun p hp=>by simp only [mem_cons,not_mem_nil,or_false] at hp; rcases hp with rfl | rfl | rfl <;> exact ⟨rfl,rfl,by first | exact .inl rfl | exact .inr rfl⟩) (by decide +kernel) (by intro _ ; rfl)) rfl) (@Zg _ _ _ (@Zm _ _ _ _ (@Zau _ _ _ _))) (@Zq _)) (@Zg _ _ _ (@Zm _ _ _ _ (@Zbp _ _ _ _ _ _ _ (@Zv _ _ _ _ _ _ _ _ _ _ Qae (hr.mono (by decide)) (@Za _ _ _ _ _ (by walk_at "1") (@Zc _) (by rfl)) (by rfl) (by decide) (by rfl) (by rfl)) (@Zbo _ _ _ _ _ (@Zv _ _ _ _ _ _ _ _ _ _ Qbz (hr.mono (by decide)) (@Za _ _ _ _ _ (by walk_at "0") (@Za _ _ _ _ _ (@Zt _ _ _ _ _ _ _ (@Zr _) (by walk_at "1") (@Zf _ _ _ _) (fun _ _=>rfl)) (@Za _ _ _ _ _ (@Zt _ _ _ _ _ _ _ (@Zr _) (by walk_at "1") (@Zf _ _ _ _) (fun _ _=>rfl)) (@Za _ _ _ _ _ (by walk_at "3") (@Zc _) (by rfl)) (by rfl)) (by rfl)) (by rfl)) (by rfl) (by decide) (by rfl) (by rfl))))))))),?_⟩
  have tl100:ts.length≤100:=by omega
  walk_at "go";intro F H1 hF s1;have W1:=W.same s1;have hp1:=s1 _ _ hp;have A1:=A0.same s1;have hl:=Zcv S h ts;have okh:=Zdt oh ok;unfold Zc6;dsimp only;unfold ZgS tIfS tTest tOp tC;dsimp only;refine Zjp (tl':=XJ S h ts) ?_ (by omega) (fun _=>true) (fun t => .bl (XZ S F tm t)) ?_ ?_ ?_
  · intro R0 r;walk_at "go";exact fun l' ps' H' s f A=>r l' ps' H' s f A
  · exact fun p2 t H2 s2 ht hp2 R0 r=>r H2 (Zj.refl _)
  · intro p2 t H2 s2 ht _ hp2 R0 r;have okt:=okh t ht;have W2:=W1.same s2;walk_at "go";exact fun H3 s3=>r H3 s3
  · intro D H2 s2 fD h2;have e0:(List.filter (fun _=>true) (XJ S h ts)).map (fun t=>V.bl (XZ S F tm t))=((XJ S h ts).map (XZ S F tm)).map V.bl:=by rw [List.filter_eq_self.mpr (fun _ _=>rfl),map_map]; rfl
    rw [e0] at h2;refine ⟨D,_,rfl, .inl (SqL.of h2),rfl,ZjH _,_,rfl,?_⟩;have e1:(if false=true then !inV (V.bl true) (((XJ S h ts).map (XZ S F tm)).map V.bl) else inV (V.bl true) (((XJ S h ts).map (XZ S F tm)).map V.bl))=(XJ S h ts).any (XZ S F tm):=by rw [if_neg (by decide),Zkq,List.any_map]; rfl
    rw [e1];have s12:=s1.trans s2;have hp2:=s2 _ _ hp1;have W2:=W1.same s2;have z:=q F H2 hF s12;unfold JJ at z;refine Yj (fun c=>?_) (fun c=>?_)
    · rw [c] at z;walk_at "go";exact z
    · rw [Bool.eq_false_iff.mpr c,Bool.false_or] at z;cases h with
      | one n =>
        walk_at "go";exact z
      | kids n a =>
        walk_at "go";exact z
theorem ZdV {f:Addr} {fd:FuncData} (F:Fun K "years_deeds" "years_deeds" YO f fd) (T:Txt K g mg)  : FnOk P w0 K mg base CX0 1 f fd ["many"] (JZ K g):=by
  refine F.ok Zaf (fun vs H Q E h=>?_) (fun cdv A outer s H vs Q E hr h=>?_)
  · obtain ⟨n,rfl,_⟩:=h;rfl
  obtain ⟨n,rfl,hn,q⟩:=h;refine ⟨_,(
(@Ze _ _ _ _ _ (@Zw _ _ (1) _ _ _ _ Zaf.nd rfl (Or.inl rfl) (@Ym _ _ _ _ (@Zc _)) (by rfl) (by walk_at "u")) (@Ze _ _ _ _ _ (@Zci _ _ _ _ _ _ PassesOwn.never (@Zp _ _ _ _ _ _ _ _ (@ZbU _) (by walk_at "0") (@Zf _ _ _ _) (Zu _)) (@Ze _ _ _ _ _ (@ZH _ _ _ _ (@Xq _ _ _ _ _ _ _ _ _ _ _ _ plainAttrs_list PySem.F.slot_list_append PySem.F.type_list_append (@Xi _) (by walk_at "1") (@Za _ _ _ _ _ (@Yd _ _ _ _ _ (@Za _ _ _ _ _ (@Zo _ _ _ _) (@Za _ _ _ _ _ (@ZD _ _ _ _ _ _ _ _ _ (@ZeQ _ rfl) rfl T.z_min PyProof.Rows.boot_min (@Za _ _ _ _ _ (by walk_at "0") (@Za _ _ _ _ _ (@ZA _ _ (.int 60) _ _ rfl T.Qbk ⟨_,rfl⟩ (by decide)) (@Zc _) (by rfl)) (by rfl)) (by decide) (by decide) (by rfl) (by rfl)) (@Zc _) (by rfl)) (by rfl))) (@Zc _) (by rfl)) (by rfl) (by rfl) (by rfl) (by rfl) (by rfl)) (by rfl)) (@Zg _ _ _ (@ps_aug _ _ (0) _ _ _ _ _ _ Zaf.nd rfl (Or.inl rfl) (@ZA _ _ (.int 60) _ _ rfl T.Qbk ⟨_,rfl⟩ (by decide)) (@ip_sub _) (by walk_at "u"))))) (@Zg _ _ _ (@Zm _ _ _ _ (by walk_at "1")))))),?_⟩
  walk_at "go";intro l hl;refine ⟨YdI H n l,⟨_,n,[],[],rfl,rfl,hn,Zi hl _,hl,⟨Zd,rfl,fun i p d e=>by cases e⟩,(fun x hx=>by cases hx),by simp; omega,rfl⟩,?_⟩;rintro m σ H2 ⟨j,ds,ps,rfl,rfl,hj,s2,hl0,D2,fp,hl2,e⟩;have hD:=D2.lst;walk_at "go";refine Yj (fun c=>?_) (fun c=>?_)
  · have cj:0<j:=of_decide_eq_true c;refine ⟨fun σ' H'=>∃ m',m'<j.toNat∧YdI H n l m' σ' H',fun _ _ h=>h,?_⟩;have lS:(ps.map V.ref).length<sizeLine:=ZC (by rw [length_map,D2.len]; omega);walk_at "go";intro p hp;have s3:=Zi hp (.tup [V.str "years",V.int (if 60<j then 60 else j)]);refine ⟨l,_,_,rfl,rfl,s3 _ _ hD,lS,?_⟩;refine ⟨_,rfl,j,60,rfl,rfl,(j - 60).toNat,by omega,j - 60,ds++[.years (if 60<j then 60 else j)],ps++[p],rfl,rfl,by omega,ZX (s2.trans s3) hl0,hl0,D2.push s3 Zd,?_,?_,?_⟩
    · intro x hx;rcases List.mem_append.mp hx with hx | hx
      · exact fp x hx
      · rw [List.mem_singleton.mp hx]; exact s2.free hp
    · rw [length_append]; show _+1+_≤_; omega
    · have e2:(j - 60).toNat=j.toNat - 60:=by omega
      have e3:(if ((j.toNat:Nat):Int)<60 then ((j.toNat:Nat):Int) else 60)=(if 60<j then 60 else j):=by rw [Int.toNat_of_nonneg (by omega)]; split <;> split <;> omega
      rw [e,Zhn (by omega),e2,e3];simp
  · walk_at "go";have e0:j.toNat=0:=by have:¬ (0<j):=fun z=>c (decide_eq_true z); omega
    rw [e0,ydl,map_nil,append_nil] at e;exact q l ps H2 s2 hl0 fp (by rw [e]; exact D2)
theorem ZcP {f:Addr} {fd:FuncData} (F:Fun K "child_towards" "child_towards" Yp f fd) (T:Txt K g mg) (Qai:Dm P w0 K mg base (CXR P w0 base) g.Lives 4 "nearest" ["self","name"] (ZU K g)) (QaA:Dx P w0 K mg base 3 "parts" ["name"] (Zcb K g)):FnOk P w0 K mg base CX0 5 f fd ["world","name"] (X6 K g):=by
  refine F.ok ZaF (fun vs H Q E h=>?_) (fun cdv A outer s H vs Q E hr h=>?_)
  · obtain ⟨w,S,R,n,rfl,_⟩:=h;rfl
  obtain ⟨w,S,R,n,rfl,W,on,hn,q⟩:=h;refine ⟨_,(
(@Ze _ _ _ _ _ (@Zw _ _ (2) _ _ _ _ ZaF.nd rfl (Or.inl rfl) (@ZL _ _ _ _ _ _ _ _ _ _ _ _ _ _ _ _ Xr Qai (hr.mono (by decide)) (@Zx _ _ _ _ _ (by walk_at "0") rfl) (@Za _ _ _ _ _ (by walk_at "1") (@Zc _) (by rfl)) (by rfl) (by rfl) (by rfl)) (by rfl) (by walk_at "u")) (@Zg _ _ _ (@Zm _ _ _ _ (@Yd _ _ _ _ _ (@Za _ _ _ _ _ (by walk_at "2") (@Za _ _ _ _ _ (@Zt _ _ _ _ _ _ _ (@Z2 _) (@JI _ _ _ _ _ _ _ _ _ _ _ Xr QaA (hr.mono (by decide)) (@Za _ _ _ _ _ (by walk_at "1") (@Zc _) (by rfl)) (by rfl) (by decide) (by rfl) (by rfl)) (@ZD _ _ _ _ _ _ _ _ _ (@ZQ _) rfl T.z_len boot_len (@Za _ _ _ _ _ (@JI _ _ _ _ _ _ _ _ _ _ _ Xr QaA (hr.mono (by decide)) (@Za _ _ _ _ _ (by walk_at "2") (@Zc _) (by rfl)) (by rfl) (by decide) (by rfl) (by rfl)) (@Zc _) (by rfl)) (by decide) (by decide) (by rfl) (by rfl)) (fun _ _=>rfl)) (@Zc _) (by rfl)) (by rfl))))))),?_⟩
  have pn:=on.1;have nl:=Xh on.1;obtain ⟨dx,b,hd,RL,hw,L,hh,eR,n1,n2⟩:=W.ex;obtain ⟨dy,y1,y2,y3,hb⟩:=L.obj;have nl2:n.length≤200:=by omega
  walk_at "go";refine ⟨(fun z=>by rw [pn] at z; cases z),fun _ H1 s1=>?_⟩;have oa:=Zfu on;have pa:=ZhF W.wf oa;have al2:=Xh pa.1;have al3:(nr S.bs n).length≤200:=by omega
  walk_at "go";refine ⟨(fun z=>by rw [pn] at z; cases z),fun _ l1 H2 s2 f1 h1=>?_⟩;walk_at "go";refine ⟨(fun z=>by rw [pa.1] at z; cases z),fun _ l2 H3 s3 f2 h2=>?_⟩;obtain ⟨ca,cb,cc⟩:=ct_at W.wf on hn;have e1:(pvl (nr S.bs n)).length=Xv (nr S.bs n)+1:=by unfold pvl; rw [length_cons,length_map,Za3]
  walk_at "go";refine ⟨SqL.of (s3 _ _ h1),(by rw [e1]; exact Za4 ca),?_⟩;refine ⟨ZE (by show 2≤500; omega),fun p hp=>?_⟩;have s13:=(s1.trans s2).trans s3;exact q p _ (s13.trans (Zi hp _)) (s13.free hp) Zd
theorem Zb2 {f:Addr} {fd:FuncData} (F:Fun K "children_wanted" "children_wanted" ZO f fd) (T:Txt K g mg) (Qa3:Dn P w0 K mg base 5 "child_towards" ["world","name"] (X6 K g)) (Qae:Dn P w0 K mg base 1 "is_class" ["holder"] (Yt K g)) (Qac:Dm P w0 K mg base CX0 g.Lives 1 "alive" ["self","name"] (ZK K g)) (Qay:Dn P w0 K mg base 8 "hanging" ["world","holder","atoms"] (J6 K g)) (Qag:Dm P w0 K mg base CX0 g.Lives 1 "known" ["self","name"] (Z5 K g)) (Qav:Dm P w0 K mg base (CXR P w0 base) g.Lives 3 "children" ["self","name"] (Yu K g)):FnOk P w0 K mg base CX0 9 f fd ["world","holder","atoms"] (Xu K g):=by
  refine F.ok ZW (fun vs H Q E h=>?_) (fun cdv A outer s H vs Q E hr h=>?_)
  · obtain ⟨w,S,R,p,l,h,ts,ps,rfl,_⟩:=h;rfl
  obtain ⟨w,S,R,p,l,h,ts,ps,rfl,W,hlen,hp,A0,oh,ok,tl,q⟩:=h;have pl:=Zff S h ts;have rest3:PSs (X1 CX0 P w0 K mg base ["world","holder","atoms","names","pairs","most","parent","number"] "children_wanted" (Zb ZO) f cdv A outer s H E).nox ((Zk ZO).drop 3) (fun D σ H5=>∃ (dn dp:Addr) (ps5:List Addr),σ=[some (.ref w),some (.ref p),some (.ref l),some (.ref dn),some (.ref dp),none,none,none]∧Zj H H5∧TupsAt H5 dp ((prs S h ts).map fun q=>[V.str q.1,V.int q.2]) ps5∧D.rt=Q):=by
    refine @Jw _ _ _ _ ((@Ze _ _ _ _ _ (@Zw _ _ (5) _ _ _ _ ZW.nd rfl (Or.inl rfl) (@XV _ _) (by rfl) (by walk_at "u")) (@Ze _ _ _ _ _ (@Za0 _ _ _ _ _ _ _ _ PassesOwn.never rfl (@Yc _ _ _ _ (by walk_at "4")) (@Zg1 _ _ _ _ _ _ rfl (@Xo _ _ _ _ _ (@Yk _ _ (6) _ ZW.nd rfl (Or.inl rfl) (by walk_at "u")) (@Xo _ _ _ _ _ (@Yk _ _ (7) _ ZW.nd rfl (Or.inl rfl) (by walk_at "u")) (@Zdq _) (by rfl)) (by rfl)) (by rfl) (by rfl)) (@Zg _ _ _ (@Jv _ _ _ _ _ _ _ _ _ (Z9 hr) (by walk_at "5") (by walk_at "6") (@ZD _ _ _ _ _ _ _ _ _ (@ZbK _ rfl) rfl T.z_max boot_max (@Za _ _ _ _ _ (by walk_at "7") (@Za _ _ _ _ _ (@Zgb _ _ _ _ _ _ _ _ _ (Z9 hr) (by walk_at "5") (by walk_at "6") (@Zf _ _ _ _) ⟨rfl,rfl,rfl,rfl⟩) (@Zc _) (by rfl)) (by rfl)) (by decide) (by decide) (by rfl) (by rfl)) rfl)) (by intro _ ; rfl)) (@Zg _ _ _ (@Zm _ _ _ _ (by walk_at "5")))))) ?_;rintro D σ H5 ⟨dn,dp,ps5,rfl,s5,T5,hq⟩;walk_at "go";intro d hd;have hl5:ps5.length=(prs S h ts).length:=by rw [T5.len,length_map]
    have sd:=Zi hd (.dK []);walk_at "go";refine ⟨⟨_,SqL.of (T5.same sd).lst⟩,Zen (xs:=ps5.map V.ref) (fun i σ H6=>∃ v6 v7:Option V,σ=[some (.ref w),some (.ref p),some (.ref l),some (.ref dn),some (.ref dp),some (.ref d),v6,v7]∧Zj H5 H6∧H6 d=some (.dK (yrs (((prs S h ts).take i).foldl Xj [])))) ⟨_,_,rfl,sd,Zd⟩ ?_ ?_ ?_⟩
    · rintro i σ H6 _ ⟨v6,v7,rfl,s6,h6⟩;exact SqL.of (T5.same s6).lst
    · rintro i x σ H6 hx ⟨v6,v7,rfl,s6,h6⟩;obtain ⟨p6,vs6,rfl,hv6,hp6⟩:=(T5.same s6).get hx;rw [getElem?_map] at hv6;cases e:(prs S h ts)[i]? with
      | none=>rw [e] at hv6; cases hv6
      | some qq =>
        rw [e] at hv6;cases hv6;walk_at "go";have gd:=Yx.k (H:=H6) (k:=(Sum.inr qq.1:Key)) h6;rw [XL] at gd;have m6:(yrs (((prs S h ts).take i).foldl Xj [])).length<sizeLine:=ZC (by
          unfold yrs;rw [length_map];have z:∀ (l:List (Str×Int)) (m:List (Str×Int)),(l.foldl Xj m).length≤m.length+l.length:=fun l=>by
            induction l with
            | nil=>intro m; exact le_refl _
            | cons x r ih=>intro m; have:=ih (Xj m x); have:=ZeG m x; rw [foldl_cons,length_cons]; omega
          have z1:=z ((prs S h ts).take i) [];have z2:=List.length_take_le i (prs S h ts);have z3:=List.length_take_le' i (prs S h ts);simp only [List.length_nil,Nat.zero_add] at z1;omega)
        have nx6:((prs S h ts).take (i+1)).foldl Xj []=Xj (((prs S h ts).take i).foldl Xj []) qq:=by rw [take_succ,e,List.foldl_append]; rfl
        refine ⟨.inl ⟨_, .inl h6⟩,_,rfl,_,gd,?_⟩;have e7:(((yr (((prs S h ts).take i).foldl Xj []) qq.1).map V.int).getD (V.int 0))=V.int ((yr (((prs S h ts).take i).foldl Xj []) qq.1).getD 0):=by cases yr (((prs S h ts).take i).foldl Xj []) qq.1 <;> rfl
        rw [e7];refine ⟨_,_,rfl,_,rfl,_,rfl,d,_,rfl,ZcA.k (k:=(Sum.inr qq.1:Key)) h6 m6,?_⟩;exact ⟨_,_,rfl,ZX s6 hd,by rw [Zd,nx6,Zi5]; rfl⟩
    · rintro σ H6 ⟨v6,v7,rfl,s6,h6⟩;rw [length_map,hl5,take_length] at h6;walk_at "go";rw [hq];exact q d H6 (s5.trans s6) (s5.free hd) h6
  refine ⟨_,(@Ze _ _ _ _ _ (@ZaK _ (3) _ _ _ _ _ ("atom") _ _ _ ([]) _ ([]) _ _ _ ZW.nd rfl (Or.inl rfl) rfl (@Yc _ _ _ _ (@Zv _ _ _ _ _ _ _ _ _ _ Qay (hr.mono (by decide)) (@Za _ _ _ _ _ (by walk_at "0") (@Za _ _ _ _ _ (by walk_at "1") (@Za _ _ _ _ _ (by walk_at "2") (@Zc _) (by rfl)) (by rfl)) (by rfl)) (by rfl) (by decide) (by rfl) (by rfl))) (fun _ _ _ _ _=>(@YN _ _ _ (@Zp _ _ _ _ _ _ _ _ (show OpR _ (compareOp .In) (rIn K false) from (@ZaN _)) (@Zt _ _ _ _ _ _ _ (show IxR _ (ZcJ K) from (@Zr _)) (by walk_at "0") (@Zf _ _ _ _) (fun _ _=>rfl)) (@ZA _ _ (.ref g.ABOUT_PEOPLE) _ _ rfl T.QcS rfl (by decide)) rfl))) (fun _ _ _ _ _=>(@Zt _ _ _ _ _ _ _ (show IxR _ (ZcJ K) from (@Zr _)) (by walk_at "0") (@Zf _ _ _ _) (fun _ _=>rfl))) rfl (by decide +kernel) rfl (by decide +kernel) rfl (fun _ _ h=>nomatch h) (YL rfl) (fun p hp=>nomatch hp) (by decide +kernel) (by intro _ ; rfl) (by rfl) (by walk_at "u")) (@Ze _ _ _ _ _ (@ZaK _ (4) _ _ _ _ _ ("name") _ _ _ ([("world",s.heap.objs.size+1)]) _ ([("world",0)]) _ _ _ ZW.nd rfl (Or.inl rfl) rfl (@Yc _ _ _ _ (by walk_at "3")) (fun _ _ _ _ _=>(@YN _ _ _ (@Jo _ _ _ _ (@ZP _ _ _ (@ZL _ _ _ _ _ _ _ _ _ _ _ _ _ _ _ _ Xa Qag (hr.mono (by decide)) (show PE _ _ (tFld K (Ze2 1) "lives") from (@Zx _ _ _ _ _ (by walk_at "1") rfl)) (@Za _ _ _ _ _ (by walk_at "0") (@Zc _) (by rfl)) (by rfl) (by rfl) (by rfl)) (by intro _ ; rfl))))) (fun _ _ _ _ _=>(@Zv _ _ _ _ _ _ _ _ _ _ Qa3 (hr.mono (by decide)) (@Za _ _ _ _ _ (by walk_at "1") (@Za _ _ _ _ _ (by walk_at "0") (@Zc _) (by rfl)) (by rfl)) (by rfl) (by decide) (by rfl) (by rfl))) rfl (by decide +kernel) rfl (by decide +kernel) rfl (fun _ _ h=>h) (YL rfl) (fun p hp=>by rw [List.mem_singleton.mp hp]; exact ⟨rfl,rfl,by first | exact .inl rfl | exact .inr rfl⟩) (by decide +kernel) (by intro _ ; rfl) (by rfl) (by walk_at "u")) (@Ze _ _ _ _ _ (@Zy _ _ _ _ _ _ _ _ (@PW.pt _ _ _ (@Zah _ _ _ _ _ _ _ (@ZP _ _ _ (@Zv _ _ _ _ _ _ _ _ _ _ Qae (hr.mono (by decide)) (@Za _ _ _ _ _ (by walk_at "1") (@Zc _) (by rfl)) (by rfl) (by decide) (by rfl) (by rfl)) (by intro _ ; rfl)) (@Ju _ _ _ _ (@ZP _ _ _ (@ZL _ _ _ _ _ _ _ _ _ _ _ _ _ _ _ _ Xa Qac (hr.mono (by decide)) (@Zx _ _ _ _ _ (by walk_at "0") rfl) (@Za _ _ _ _ _ (@Zt _ _ _ _ _ _ _ (@Zr _) (by walk_at "1") (@Zf _ _ _ _) (fun _ _=>rfl)) (@Zc _) (by rfl)) (by rfl) (by rfl) (by rfl)) (by intro _ ; rfl))))) (@Zg _ _ _ (@ZH _ _ _ _ (@Xq _ _ _ _ _ _ _ _ _ _ _ _ plainAttrs_list PySem.F.slot_list_append PySem.F.type_list_append (@Xi _) (by walk_at "4") (@Za _ _ _ _ _ (@Yd _ _ _ _ _ (@Za _ _ _ _ _ (@Zt _ _ _ _ _ _ _ (@Zr _) (by walk_at "1") (@Zf _ _ _ _) (fun _ _=>rfl)) (@Za _ _ _ _ _ (@Zn _ _ _ _ _ _ _ _ (@Z6 _) (@ZD _ _ _ _ _ _ _ _ _ (@ZQ _) rfl T.z_len boot_len (@Za _ _ _ _ _ (@ZL _ _ _ _ _ _ _ _ _ _ _ _ _ _ _ _ Xr Qav (hr.mono (by decide)) (@Zx _ _ _ _ _ (by walk_at "0") rfl) (@Za _ _ _ _ _ (@Zt _ _ _ _ _ _ _ (@Zr _) (by walk_at "1") (@Zf _ _ _ _) (fun _ _=>rfl)) (@Zc _) (by rfl)) (by rfl) (by rfl) (by rfl)) (@Zc _) (by rfl)) (by decide) (by decide) (by rfl) (by rfl)) (@Zf _ _ _ _)) (@Zc _) (by rfl)) (by rfl))) (@Zc _) (by rfl)) (by rfl) (by rfl) (by rfl) (by rfl) (by rfl)) (by rfl))) (@Zg _ _ _ (@Zy _ _ _ _ _ _ _ _ (@PW.pt _ _ _ (@Zah _ _ _ _ _ _ _ (@ZP _ _ _ (@Zv _ _ _ _ _ _ _ _ _ _ Qae (hr.mono (by decide)) (@Za _ _ _ _ _ (by walk_at "1") (@Zc _) (by rfl)) (by rfl) (by decide) (by rfl) (by rfl)) (by intro _ ; rfl)) (@Ju _ _ _ _ (@Jo _ _ _ _ (@ZP _ _ _ (@ZL _ _ _ _ _ _ _ _ _ _ _ _ _ _ _ _ Xa Qag (hr.mono (by decide)) (@Zx _ _ _ _ _ (by walk_at "0") rfl) (@Za _ _ _ _ _ (@Zt _ _ _ _ _ _ _ (@Zr _) (by walk_at "1") (@Zf _ _ _ _) (fun _ _=>rfl)) (@Zc _) (by rfl)) (by rfl) (by rfl) (by rfl)) (by intro _ ; rfl)))))) (@Zg _ _ _ (@ZH _ _ _ _ (@Xq _ _ _ _ _ _ _ _ _ _ _ _ plainAttrs_list PySem.F.slot_list_append PySem.F.type_list_append (@Xi _) (by walk_at "4") (@Za _ _ _ _ _ (@Zv _ _ _ _ _ _ _ _ _ _ Qa3 (hr.mono (by decide)) (@Za _ _ _ _ _ (by walk_at "0") (@Za _ _ _ _ _ (@Zt _ _ _ _ _ _ _ (@Zr _) (by walk_at "1") (@Zf _ _ _ _) (fun _ _=>rfl)) (@Zc _) (by rfl)) (by rfl)) (by rfl) (by decide) (by rfl) (by rfl)) (@Zc _) (by rfl)) (by rfl) (by rfl) (by rfl) (by rfl) (by rfl)) (by rfl))) (@Zq _)))) @rest3))),?_⟩;have hl:=Zcv S h ts;have wl:=ZeW S h ts;have okh:=Zdt oh ok;have okw:=ZgO oh ok;have pok_:=Zi6 W.wf hlen oh ok;have pl:=Zff S h ts;unfold ZgS ZfX;dsimp only;refine Zjp (tl':=XJ S h ts) ?_ (by omega) (fun t=>t.who.isSome) (fun t => .str (t.who.getD "")) ?_ ?_ ?_
  · intro R0 r;walk_at "go";exact fun l' ps' H' s f A=>r l' ps' H' s f A
  · intro p2 t H2 s2 ht hp2 R0 r;cases t with
    | year y =>
      walk_at "go";refine ⟨.inr (T.Qal _),rfl,rfl,_,rfl,?_⟩;rw [if_neg (by decide),(by decide +kernel:inV (.str "year") [.str "born", .str "dead", .str "age"]=false)];exact r H2 (Zj.refl _)
    | comes y =>
      walk_at "go";refine ⟨.inr (T.Qal _),rfl,rfl,_,rfl,?_⟩;rw [if_neg (by decide),(by decide +kernel:inV (.str "comes") [.str "born", .str "dead", .str "age"]=false)];exact r H2 (Zj.refl _)
    | born y =>
      walk_at "go";refine ⟨.inr (T.Qal _),rfl,rfl,_,rfl,?_⟩;rw [if_neg (by decide),(by decide +kernel:inV (.str "born") [.str "born", .str "dead", .str "age"]=true)];exact r H2 (Zj.refl _)
    | dead y =>
      walk_at "go";refine ⟨.inr (T.Qal _),rfl,rfl,_,rfl,?_⟩;rw [if_neg (by decide),(by decide +kernel:inV (.str "dead") [.str "born", .str "dead", .str "age"]=true)];exact r H2 (Zj.refl _)
    | age y a =>
      walk_at "go";refine ⟨.inr (T.Qal _),rfl,rfl,_,rfl,?_⟩;rw [if_neg (by decide),(by decide +kernel:inV (.str "age") [.str "born", .str "dead", .str "age"]=true)];exact r H2 (Zj.refl _)
  · intro p2 t H2 s2 ht hf hp2 R0 r;cases t with
    | born y =>
      walk_at "go";exact r H2 (Zj.refl _)
    | dead y =>
      walk_at "go";exact r H2 (Zj.refl _)
    | age y a =>
      walk_at "go";exact r H2 (Zj.refl _)
    | year y=>cases hf
    | comes y=>cases hf
  intro D1 H2 s2 fD1 h2;rw [Zho _ (fun n=>V.str n)] at h2;have h2:H2 D1=some (.lst ((Y6 S h ts).map V.str)):=h2;have W2:=W.same s2;unfold Zc6;dsimp only;refine lcLT (xs:=(Y6 S h ts).map V.str) (fun a H1=>a=D1∧H1=H2) ?_ ?_ (by rw [length_map]; omega) (fun i=>((Y6 S h ts)[i]?.map fun n => !has S.bs n).getD false) (fun _ _ i v H'=>∃ p,v=V.ref p∧H' p=some (.tup (((Y6 S h ts)[i]?.map fun n=>[V.str (nr S.bs n),V.int (ctn S n)]).getD []))∧True) ?_ ?_ ?_ ?_
  · exact fun R0 r=>⟨_,rfl,r D1 H2 ⟨rfl,rfl⟩⟩
  · rintro a H1 ⟨rfl,rfl⟩;exact SqL.of h2
  · rintro a H1 i v H H' D ys hD kk ⟨p,rfl,hp,_⟩;exact ⟨p,rfl,kk.1 _ _ (fun z=>by rw [List.mem_singleton.mp z,hD] at hp; cases hp) hp,trivial⟩
  · rintro a H1 i x H4 ⟨rfl,rfl⟩ hx s R0 r;rw [getElem?_map] at hx;cases e:(Y6 S h ts)[i]? with
    | none=>rw [e] at hx; cases hx
    | some y =>
      rw [e] at hx r;cases hx;obtain ⟨dx,b,hd,RL,hw,L,hh,eR,n1,n2⟩:=(W2.same s).ex;obtain ⟨dy,y1,y2,y3,hb⟩:=L.obj;walk_at "go";exact r H4 (Zj.refl _)
  · rintro a H1 i x H4 ⟨rfl,rfl⟩ hx hf s R0 r;rw [getElem?_map] at hx;cases e:(Y6 S h ts)[i]? with
    | none=>rw [e] at hx; cases hx
    | some y =>
      rw [e] at hx hf r;cases hx;have oy:=okw y (mem_of_getElem? e);have ny:has S.bs y=false:=by simpa using hf
      have W4:=W2.same s;walk_at "go";exact fun p H5 s5 f5 h5=>r _ H5 s5 ⟨p,rfl,h5,trivial⟩
  rintro a1 H1 D ys H4 ⟨rfl,rfl⟩ hD s4 h4 hpd;obtain ⟨ps4,T4,_⟩:=Zhr (fr:=fun _=>True) h4 hpd;have e4:=ZfI (Y6 S h ts) (fun n => !has S.bs n) (fun n=>[V.str (nr S.bs n),V.int (ctn S n)]) false [] (Y6 S h ts).length (le_refl _);rw [take_length] at e4;rw [length_map,e4] at T4;have s04:=s2.trans s4;have W4:=W.same s04;have hp4:=s04 _ _ hp;have fD:H D=none:=s2.free hD;obtain ⟨dx,b,hd,RL,hw,L,hh,eR,n1,n2⟩:=W4.ex;obtain ⟨dy,y1,y2,y3,hb⟩:=L.obj;cases h with
  | one n =>
    have T5:TupsAt H4 D ((prs S (.one n) ts).map fun q=>[V.str q.1,V.int q.2]) ps4:=by
      have e:prs S (.one n) ts=((Y6 S (.one n) ts).filter fun n => !has S.bs n).map (fun n=>(nr S.bs n,ctn S n)):=append_nil _;rw [e,map_map];exact T4
    walk_at "go";exact rfl
  | kids n a =>
    obtain ⟨on,h0,h1⟩:=oh;have lS:(ps4.map V.ref).length<sizeLine:=ZC (by rw [length_map,T4.len,length_map]; have:=length_filter_le (fun n => !has S.bs n) (Y6 S (.kids n a) ts); omega);have e0:prs S (.kids n a) ts=((Y6 S (.kids n a) ts).filter fun n => !has S.bs n).map (fun n=>(nr S.bs n,ctn S n))++(if al S.bs S.ds n=true then [(n,(nk S.bs n:Int)+1)] else if has S.bs n=false then [(nr S.bs n,ctn S n)] else []):=rfl;have T4l:=T4.lst;walk_at "go";cases ha:al S.bs S.ds n with
    | true =>
      have hkn:has S.bs n=true:=by unfold al at ha; rw [and_eq_true] at ha; exact ha.1
      refine Yw ?_;walk_at "go";refine ⟨(fun z=>by rw [hkn] at z; cases z),fun _ l6 H6 s6 f6 h6=>?_⟩;have kl:(YH n (nk S.bs n)).length=nk S.bs n:=by unfold YH; simp
      have e5:(prs S (.kids n a) ts).map (fun q=>[V.str q.1,V.int q.2])=((Y6 S (.kids n a) ts).filter fun n => !has S.bs n).map (fun n=>[V.str (nr S.bs n),V.int (ctn S n)])++[[V.str n,V.int (((YH n (nk S.bs n)).length:Int)+1)]]:=by rw [e0,if_pos ha,map_append,map_map,kl]; rfl
      walk_at "go";intro p7 hp7;have s7:Zj H6 (upd H6 p7 (.tup [V.str n,V.int (((YH n (nk S.bs n)).length:Int)+1)])):=Zi hp7 _;refine ⟨D,_,_,rfl,rfl,s7 _ _ (s6 _ _ T4l),lS,?_⟩;have s47:=s6.trans s7;exact ⟨a1,D,ps4++[p7],rfl,ZX (s04.trans s47) fD,by rw [e5]; exact (T4.same s47).push Zd,rfl⟩
    | false =>
      refine Yb ?_;walk_at "go";cases hkn:has S.bs n with
      | true =>
        have T5:TupsAt H4 D ((prs S (.kids n a) ts).map fun q=>[V.str q.1,V.int q.2]) ps4:=by
          rw [e0,if_neg (by rw [ha]; decide),if_neg (by rw [hkn]; decide),append_nil,map_map];exact T4
        refine Yb ?_;exact ⟨a1,D,ps4,rfl,s04,T5,rfl⟩
      | false =>
        have e5:(prs S (.kids n a) ts).map (fun q=>[V.str q.1,V.int q.2])=((Y6 S (.kids n a) ts).filter fun n => !has S.bs n).map (fun n=>[V.str (nr S.bs n),V.int (ctn S n)])++[[V.str (nr S.bs n),V.int (ctn S n)]]:=by rw [e0,if_neg (by rw [ha]; decide),if_pos hkn,map_append,map_map]; rfl
        refine Yw ?_;walk_at "go";intro p7 H7 s7 f7 h7;refine ⟨D,_,_,rfl,rfl,s7 _ _ T4l,lS,?_⟩;exact ⟨a1,D,ps4++[p7],rfl,ZX (s04.trans s7) fD,by rw [e5]; exact (T4.same s7).push h7,rfl⟩
theorem Zgh {f:Addr} {fd:FuncData} (F:Fun K "story_of" "story_of" Ja f fd) (T:Txt K g mg) (QbB:Dn P w0 K mg base 9 "children_wanted" ["world","holder","atoms"] (Xu K g)) (Qa4:Dn P w0 K mg base 1 "years_deeds" ["many"] (JZ K g)) (QaV:Dn P w0 K mg base 8 "first_end" ["world","holder","atoms"] (JN K g)) (QbC:Dm P w0 K mg base CX0 g.Lives 1 "living" ["self"] (JD K g)) (Qav:Dm P w0 K mg base (CXR P w0 base) g.Lives 3 "children" ["self","name"] (Yu K g)):FnOk P w0 K mg base CX0 10 f fd ["world","holder","atoms","term"] (Zbc K g):=by
  refine F.ok Zar (fun vs H Q E h=>?_) (fun cdv A outer s H vs Q E hr h=>?_)
  · obtain ⟨w,S,R,p,l,h,ts,ps,tm,rfl,_⟩:=h;rfl
  obtain ⟨w,S,R,p,l,h,ts,ps,tm,rfl,W,hlen,DT,htm,hp,A0,oh,ok,tl,q⟩:=h;refine ⟨_,(
(@Ze _ _ _ _ _ (@Zw _ _ (4) _ _ _ _ Zar.nd rfl (Or.inl rfl) (@Zv _ _ _ _ _ _ _ _ _ _ QbB (hr.mono (by decide)) (@Za _ _ _ _ _ (by walk_at "0") (@Za _ _ _ _ _ (by walk_at "1") (@Za _ _ _ _ _ (by walk_at "2") (@Zc _) (by rfl)) (by rfl)) (by rfl)) (by rfl) (by decide) (by rfl) (by rfl)) (by rfl) (by walk_at "u")) (@Ze _ _ _ _ _ (@Zw _ _ (5) _ _ _ _ Zar.nd rfl (Or.inl rfl) (@Zv _ _ _ _ _ _ _ _ _ _ Qa4 (hr.mono (by decide)) (@Za _ _ _ _ _ (@Zn _ _ _ _ _ _ _ _ (@Zaz _) (@Zv _ _ _ _ _ _ _ _ _ _ QaV (hr.mono (by decide)) (@Za _ _ _ _ _ (by walk_at "0") (@Za _ _ _ _ _ (by walk_at "1") (@Za _ _ _ _ _ (by walk_at "2") (@Zc _) (by rfl)) (by rfl)) (by rfl)) (by rfl) (by decide) (by rfl) (by rfl)) (@Zx _ _ _ _ _ (by walk_at "0") rfl)) (@Zc _) (by rfl)) (by rfl) (by decide) (by rfl) (by rfl)) (by rfl) (by walk_at "u")) (@Ze _ _ _ _ _ (@Za0 _ _ _ _ _ _ _ _ PassesOwn.never rfl (@Zfh _ _ _ _ (by walk_at "4")) (@Yk _ _ (6) _ Zar.nd rfl (Or.inl rfl) (by walk_at "u")) (@Zg _ _ _ (@ZH _ _ _ _ (@Xq _ _ _ _ _ _ _ _ _ _ _ _ plainAttrs_list PySem.F.slot_list_extend PySem.F.type_list_extend (@ZcT _) (by walk_at "5") (@Za _ _ _ _ _ (@Zn _ _ _ _ _ _ _ _ (@op_rep _) (@Ym _ _ _ _ (@Za _ _ _ _ _ (@Yd _ _ _ _ _ (@Za _ _ _ _ _ (@Zo _ _ _ _) (@Za _ _ _ _ _ (by walk_at "6") (@Zc _) (by rfl)) (by rfl))) (@Zc _) (by rfl))) (@Zn _ _ _ _ _ _ _ _ (@Zaz _) (@ZbF _ _ _ _ _ _ (Z9 hr) (by walk_at "4") (by walk_at "6") (fun _ _=>rfl)) (@ZD _ _ _ _ _ _ _ _ _ (@ZQ _) rfl T.z_len boot_len (@Za _ _ _ _ _ (@ZL _ _ _ _ _ _ _ _ _ _ _ _ _ _ _ _ Xr Qav (hr.mono (by decide)) (@Zx _ _ _ _ _ (by walk_at "0") rfl) (@Za _ _ _ _ _ (by walk_at "6") (@Zc _) (by rfl)) (by rfl) (by rfl) (by rfl)) (@Zc _) (by rfl)) (by decide) (by decide) (by rfl) (by rfl)))) (@Zc _) (by rfl)) (by rfl) (by rfl) (by rfl) (by rfl) (by rfl)) (by rfl))) (by intro _ ; rfl)) (@Ze _ _ _ _ _ (@ZH _ _ _ _ (@Xq _ _ _ _ _ _ _ _ _ _ _ _ plainAttrs_list PySem.F.slot_list_extend PySem.F.type_list_extend (@ZcT _) (by walk_at "5") (@Za _ _ _ _ _ (@ZaM _ _ _ ("name") _ _ _ ([]) _ ([]) _ _ _ rfl (@Yc _ _ _ _ (@pe_mt0 _ _ _ _ _ _ _ _ _ _ _ _ _ Xa QbC (hr.mono (by decide)) (@Zx _ _ _ _ _ (by walk_at "0") rfl) (by rfl))) (fun _ _ _ _ _=>(@Zai _)) (fun _ _ _ _ _=>(@Yd _ _ _ _ _ (@Za _ _ _ _ _ (@Zo _ _ _ _) (@Za _ _ _ _ _ (by walk_at "0") (@Zc _) (by rfl)) (by rfl)))) rfl (by decide +kernel) rfl (by decide +kernel) rfl (fun _ _ h=>nomatch h) (YL rfl) (fun p hp=>nomatch hp) (by decide +kernel) (by intro _ ; rfl)) (@Zc _) (by rfl)) (by rfl) (by rfl) (by rfl) (by rfl) (by rfl)) (by rfl)) (@Zg _ _ _ (@Zm _ _ _ _ (@Zn _ _ _ _ _ _ _ _ (@ZdU _) (by walk_at "5") (@Zv _ _ _ _ _ _ _ _ _ _ Qa4 (hr.mono (by decide)) (@Za _ _ _ _ _ (by walk_at "3") (@Zc _) (by rfl)) (by rfl) (by decide) (by rfl) (by rfl)))))))))),?_⟩
  have tl100:ts.length≤100:=by omega
  have hl9:S.bs.length≤900:=by omega
  have pl:=Zff S h ts;have pok_:=Zi6 W.wf hlen oh ok;walk_at "go";intro d H1 s1 fd h1;have W1:=W.same s1;have hp1:=s1 _ _ hp;have A1:=A0.same s1;walk_at "go";intro F H2 hF s2;have hF2:=Zkv DT oh ok W.wf hF;have W2:=W1.same s2;obtain ⟨dx,b,hd,RL,hw,L,hh,eR,n1,n2⟩:=W2.ex;have fy:F - S.y≤500:=by omega
  walk_at "go";intro l3 ps3 H3 s3 f3 fp3 D3;have s13:=s2.trans s3;have h3:=s13 _ _ h1;have s03:=s1.trans s13;have fl3:H l3=none:=s1.free (s2.free f3);have nd:=Zin S h ts;have mo:=ZhN (S:=S) (prs S h ts) [] (fun _ z=>by cases z) pok_;have ml:=ZgC (prs S h ts) [];have ml2:(mst S h ts).length≤22:=by show ((prs S h ts).foldl Xj []).length≤22; simp only [List.length_nil,Nat.zero_add] at ml; omega
  have yl:=ZeV (F - S.y).toNat (F - S.y).toNat (le_refl _);have yl2:(ydl (F - S.y).toNat).length≤120:=by omega
  walk_at "go";intro o;have ldn:l3≠d:=fun z=>by rw [z] at D3; rw [D3.lst] at h3; cases h3
  refine ZjG (Pv:=fun i σ H4=>∃ (v6:Option V) (ps4:List Addr),σ=[some (.ref w),some (.ref p),some (.ref l),some (.int tm),some (.ref d),some (.ref l3),v6]∧Zj H H4∧H4 d=some (.frz o (.dK (yrs (mst S h ts))))∧DeedsAt H4 l3 ((ydl (F - S.y).toNat).map Deed.years++Zcy S ((mst S h ts).take i)) ps4) ?_ ?_ ?_ ?_
  · refine ⟨_,ps3,rfl,ZX s03 fd,Zd,?_⟩;rw [show Zcy S ((mst S h ts).take 0)=[] from rfl,append_nil];refine D3.mv fun a ha oo e=>?_;rw [Zh ?_]
    · exact e
    · rintro rfl;rcases List.mem_cons.mp ha with z | z
      · exact ldn z.symm
      · obtain ⟨vs,z⟩:=D3.tup_of z;rw [h3] at z; cases z
  · rintro i σ H4 _ ⟨v6,ps4,rfl,s4,h4,D4⟩;exact h4
  · rintro i k v σ H4 hk ⟨v6,ps4,rfl,s4,h4,D4⟩;unfold yrs at hk;rw [getElem?_map] at hk;cases e:(mst S h ts)[i]? with
    | none=>rw [e] at hk; cases hk
    | some qq =>
      rw [e] at hk;cases hk;have hm:=mem_of_getElem? e;have hq:=mo qq hm;have hy:=ZfS nd hm;have gd:Yx H4 d (.str qq.1) (some (V.int qq.2)) := .inl ⟨_,Sum.inr qq.1, .inr ⟨o,h4⟩,rfl,by rw [XL,hy]; rfl⟩;have hD4:=D4.lst;walk_at "go";intro p7 hp7;refine ⟨ZE (by show 1≤500; omega),fun l7 hl7=>?_⟩;have s7:Zj H4 (upd H4 p7 (.tup [V.str "birth",kV (Sum.inr qq.1:Key)])):=Zi hp7 _;have s8:Zj (upd H4 p7 (.tup [V.str "birth",kV (Sum.inr qq.1:Key)])) (upd (upd H4 p7 (.tup [V.str "birth",kV (Sum.inr qq.1:Key)])) l7 (.lst [V.ref p7])):=Zi hl7 _;have hl8:upd (upd H4 p7 (.tup [V.str "birth",kV (Sum.inr qq.1:Key)])) l7 (.lst [V.ref p7]) l7=some (.lst [V.ref p7]):=Zd;have hp8:=s8 _ _ (show upd H4 p7 (.tup [V.str "birth",kV (Sum.inr qq.1:Key)]) p7=some (.tup (Deed.vals (.birth qq.1))) from Zd);have s48:=s7.trans s8;generalize upd (upd H4 p7 (.tup [V.str "birth",kV (Sum.inr qq.1:Key)])) l7 (.lst [V.ref p7])=H8 at hl8 hp8 s48 ⊢;have gd8:Yx H8 d (.str qq.1) (some (V.int qq.2)) := .inl ⟨_,Sum.inr qq.1, .inr ⟨o,s48 _ _ h4⟩,rfl,by rw [XL,hy]; rfl⟩;have W8:=W.same (s4.trans s48);obtain ⟨dx,b,hd,RL,hw,L,hh,eR,n1,n2⟩:=W8.ex;obtain ⟨dy,y1,y2,y3,hb⟩:=L.obj;have gd8':Yx H8 d (kV (Sum.inr qq.1:Key)) (some (V.int qq.2)):=gd8;walk_at "go";refine ⟨(fun z=>by rw [hq.1] at z; cases z),fun _ l9 H9 s9 f9 h9=>?_⟩;have kl:(YH qq.1 (nk S.bs qq.1)).length=nk S.bs qq.1:=by unfold YH; simp
      have hl9':=s9 _ _ hl8;have hw9:=W.wf.few qq.1;refine ⟨_,_,rfl, .inl ⟨_,SqL.of h9,rfl⟩,_,_,rfl,rfl,l7,_,_,rfl,rfl,hl9',?_,?_,?_,fun p9 hp9=>?_⟩
      · show -(2 ^ 63)≤qq.2 - ((YH qq.1 (nk S.bs qq.1)).length:Int); rw [kl]; omega
      · show qq.2 - ((YH qq.1 (nk S.bs qq.1)).length:Int)<2 ^ 63; rw [kl]; omega
      · show 1 * (qq.2 - ((YH qq.1 (nk S.bs qq.1)).length:Int)).toNat≤_; rw [kl,sizeLine_eq]; omega
      have s10:=Zi hp9 (.lst (List.replicate (qq.2 - ((YH qq.1 (nk S.bs qq.1)).length:Int)).toNat [V.ref p7]).flatten);have s410:=(s48.trans s9).trans s10;have D10:=D4.same s410;have B10:DeedsAt (upd H9 p9 (.lst (List.replicate (qq.2 - ((YH qq.1 (nk S.bs qq.1)).length:Int)).toNat [V.ref p7]).flatten)) p9 (List.replicate (qq.2 - ((YH qq.1 (nk S.bs qq.1)).length:Int)).toNat (Deed.birth qq.1)) _:=Zhi (s10 _ _ (s9 _ _ hp8)) Zd;generalize upd H9 p9 (.lst (List.replicate (qq.2 - ((YH qq.1 (nk S.bs qq.1)).length:Int)).toNat [V.ref p7]).flatten)=H10 at s410 D10 B10 ⊢;have D11:=D10.ext B10;refine ⟨l3,p9,_,_,rfl,rfl,D10.lst,B10.lst,?_,?_⟩
      · have t1:=ZgM (S:=S) (m:=(mst S h ts).take i) (fun x hx=>mo x (mem_of_mem_take hx));have t2:=List.length_take_le' i (mst S h ts);have e7:=D10.len;rw [length_append,length_map] at e7;rw [length_map,length_map,length_replicate,kl,sizeLine_eq];omega
      have e12:(ydl (F - S.y).toNat).map Deed.years++Zcy S ((mst S h ts).take (i+1))=((ydl (F - S.y).toNat).map Deed.years++Zcy S ((mst S h ts).take i))++List.replicate (qq.2 - ((YH qq.1 (nk S.bs qq.1)).length:Int)).toNat (Deed.birth qq.1):=by rw [ZiH e,← append_assoc,kl]
      refine ⟨_,ps4++List.replicate (qq.2 - ((YH qq.1 (nk S.bs qq.1)).length:Int)).toNat p7,rfl,ZX (s4.trans s410) fl3,by rw [Zh (Ne.symm ldn)]; exact s410 _ _ h4,?_⟩;rw [e12];exact D11
  · rintro σ H4 ⟨v6,ps4,rfl,s4,h4,D4⟩;have e4:(yrs (mst S h ts)).length=(mst S h ts).length:=by unfold yrs; rw [length_map]
    rw [e4,take_length] at D4;have hD4:=D4.lst;have W4:=W.same s4;obtain ⟨dx,b,hd,RL,hw,L,hh,eR,n1,n2⟩:=W4.ex;obtain ⟨dy,y1,y2,y3,hb⟩:=L.obj;refine ⟨_,rfl, .inl ⟨rfl,_,SqL.of hD4⟩,?_⟩;unfold Zhv;obtain ⟨ns,hns⟩:∃ ns,ns=(S.bs.filter fun p => !has S.ds p.1).map (·.1):=⟨_,rfl⟩;have nsl:ns.length≤98:=by rw [hns,length_map]; exact le_trans (length_filter_le _ _) hlen
    refine lcLT (xs:=ns.map V.str) (fun a H1=>Zj H4 H1∧H1 a=some (.lst (ns.map V.str))) ?_ (fun a H1 h=>SqL.of h.2) (by rw [length_map]; omega) (fun i=>(ns[i]?.map fun _=>true).getD false) (fun _ _ i v H'=>∃ p,v=V.ref p∧H' p=some (.tup ((ns[i]?.map fun n=>Deed.vals (.death n)).getD []))∧True) ?_ ?_ ?_ ?_
    · intro R0 r;walk_at "go";exact fun l H' s f h=>r l H' ⟨s,by rw [h,hns,map_map]; rfl⟩
    · rintro a H1 i v H H' D ys hD kk ⟨p,rfl,hp,_⟩;exact ⟨p,rfl,kk.1 _ _ (fun z=>by rw [List.mem_singleton.mp z,hD] at hp; cases hp) hp,trivial⟩
    · rintro a H1 i x H5 ⟨s5,h5⟩ hx s R0 r;rw [getElem?_map] at hx;cases e:ns[i]? with
      | none=>rw [e] at hx; cases hx
      | some y =>
        rw [e] at r;exact r H5 (Zj.refl _)
    · rintro a H1 i x H5 ⟨s5,h5⟩ hx hf s R0 r;rw [getElem?_map] at hx;cases e:ns[i]? with
      | none=>rw [e] at hx; cases hx
      | some y =>
        rw [e] at hx r;cases hx;walk_at "go";intro p9 hp9;exact r _ _ (Zi hp9 _) ⟨p9,rfl,Zd,trivial⟩
    rintro a1 H5 D ys H6 ⟨s5,h5⟩ hD s6 h6 hpd;obtain ⟨psD,TD,_⟩:=Zhr (fr:=fun _=>True) h6 hpd;have e6:=ZfI ns (fun _=>true) (fun n=>Deed.vals (.death n)) false [] ns.length (le_refl _);rw [take_length,List.filter_eq_self.mpr (fun _ _=>rfl)] at e6;rw [length_map,e6] at TD;have D6:DeedsAt H6 D (dieL S) psD:=Zez (by
      have e:(dieL S).map Deed.vals=ns.map (fun n=>Deed.vals (.death n)):=by unfold dieL; rw [hns,map_map,map_map]; rfl
      rw [e];exact TD)
    have s46:=s5.trans s6;have D46:=D4.same s46;have bl:=ZgM mo;have dl:(dieL S).length≤98:=by unfold dieL; rw [length_map]; exact le_trans (length_filter_le _ _) hlen
    refine ⟨l3,D,_,_,rfl,rfl,D46.lst,D6.lst,?_,?_⟩
    · rw [length_map,length_map,D46.len,D6.len,length_append,length_map];have bl2:(Zcy S (mst S h ts)).length≤2200:=by have:(Zcy S (mst S h ts)).length≤(mst S h ts).length * 100:=bl; omega
      rw [sizeLine_eq];omega
    have s7:Zj H (upd H6 l3 (.lst (ps4.map V.ref++psD.map V.ref))):=ZX (s4.trans s46) fl3;have D7:=D46.ext D6;generalize upd H6 l3 (.lst (ps4.map V.ref++psD.map V.ref))=H7 at s7 D7 ⊢;have tm5:tm≤500:=by omega
    have hD7:=D7.lst;walk_at "go";intro l8 ps8 H8 s8 f8 _ D8;have tl8:=ZeV tm.toNat tm.toNat (le_refl _);refine ⟨l3,l8,_,_,rfl,rfl,s8 _ _ hD7,D8.lst,?_,fun p9 hp9=>?_⟩
    · have e7:=D7.len;rw [length_append] at e7;have e8:=D8.len;rw [length_map] at e8;have bl2:(Zcy S (mst S h ts)).length≤2200:=by have:(Zcy S (mst S h ts)).length≤(mst S h ts).length * 100:=bl; omega
      rw [length_append,length_append,length_map] at e7;rw [length_map,length_map,sizeLine_eq,length_append];omega
    exact q F p9 _ _ hF ((s7.trans s8).trans (Zi hp9 _)) ((s7.trans s8).free hp9) ((D7.same s8).app D8 Zd (fun p _ o e=>Zi hp9 _ p o e))
theorem Zgi {f:Addr} {fd:FuncData} (F:Fun K "names_of" "names_of" Jb f fd) (T:Txt K g mg) (Qae:Dn P w0 K mg base 1 "is_class" ["holder"] (Yt K g)) (Qai:Dm P w0 K mg base (CXR P w0 base) g.Lives 4 "nearest" ["self","name"] (ZU K g)) (Qac:Dm P w0 K mg base CX0 g.Lives 1 "alive" ["self","name"] (ZK K g)) (Qay:Dn P w0 K mg base 8 "hanging" ["world","holder","atoms"] (J6 K g)) (Qaw:Dn P w0 K mg base 6 "waiting" ["world","name","age","out"] (J4 K g)) (QaW:Dn P w0 K mg base 6 "left_out_of" ["world","holder"] (XM K g)):FnOk P w0 K mg base CX0 9 f fd ["world","holder","atoms"] (Zbd K g):=by
  refine F.ok ZcZ (fun vs H Q E h=>?_) (fun cdv A outer s H vs Q E hr h=>?_)
  · obtain ⟨w,S,R,p,l,h,ts,ps,rfl,_⟩:=h;rfl
  obtain ⟨w,S,R,p,l,h,ts,ps,rfl,W,hlen,hp,A0,oh,ok,tl,q⟩:=h;refine ⟨_,(
(@Ze _ _ _ _ _ (@ZaK _ (3) _ _ _ _ _ ("atom") _ _ _ ([("world",s.heap.objs.size+1)]) _ ([("world",0)]) _ _ _ ZcZ.nd rfl (Or.inl rfl) rfl (@Yc _ _ _ _ (@Zv _ _ _ _ _ _ _ _ _ _ Qay (hr.mono (by decide)) (@Za _ _ _ _ _ (by walk_at "0") (@Za _ _ _ _ _ (by walk_at "1") (@Za _ _ _ _ _ (by walk_at "2") (@Zc _) (by rfl)) (by rfl)) (by rfl)) (by rfl) (by decide) (by rfl) (by rfl))) (fun _ _ _ _ _=>(@YN _ _ _ (@Zp _ _ _ _ _ _ _ _ (show OpR _ (compareOp .In) (rIn K false) from (@ZaN _)) (@Zt _ _ _ _ _ _ _ (show IxR _ (ZcJ K) from (@Zr _)) (by walk_at "0") (@Zf _ _ _ _) (fun _ _=>rfl)) (@ZA _ _ (.ref g.ABOUT_PEOPLE) _ _ rfl T.QcS rfl (by decide)) rfl))) (fun _ _ _ _ _=>(@ZL _ _ _ _ _ _ _ _ _ _ _ _ _ _ _ _ Xr Qai (hr.mono (by decide)) (show PE _ _ (tFld K (Ze2 1) "lives") from (@Zx _ _ _ _ _ (by walk_at "1") rfl)) (@Za _ _ _ _ _ (@Zt _ _ _ _ _ _ _ (show IxR _ (ZcJ K) from (@Zr _)) (by walk_at "0") (@Zf _ _ _ _) (fun _ _=>rfl)) (@Zc _) (by rfl)) (by rfl) (by rfl) (by rfl))) rfl (by decide +kernel) rfl (by decide +kernel) rfl (fun _ _ h=>h) (YL rfl) (fun p hp=>by rw [List.mem_singleton.mp hp]; exact ⟨rfl,rfl,by first | exact .inl rfl | exact .inr rfl⟩) (by decide +kernel) (by intro _ ; rfl) (by rfl) (by walk_at "u")) (@Ze _ _ _ _ _ (@Zy _ _ _ _ _ _ _ _ (@ZP _ _ _ (@Zv _ _ _ _ _ _ _ _ _ _ Qae (hr.mono (by decide)) (@Za _ _ _ _ _ (by walk_at "1") (@Zc _) (by rfl)) (by rfl) (by decide) (by rfl) (by rfl)) (by intro _ ; rfl)) (@Ze _ _ _ _ _ (@ZH _ _ _ _ (@Xq _ _ _ _ _ _ _ _ _ _ _ _ plainAttrs_list PySem.F.slot_list_extend PySem.F.type_list_extend (@ZcT _) (by walk_at "3") (@Za _ _ _ _ _ (@Zv _ _ _ _ _ _ _ _ _ _ Qaw (hr.mono (by decide)) (@Za _ _ _ _ _ (by walk_at "0") (@Za _ _ _ _ _ (@Zt _ _ _ _ _ _ _ (@Zr _) (by walk_at "1") (@Zf _ _ _ _) (fun _ _=>rfl)) (@Za _ _ _ _ _ (@Zt _ _ _ _ _ _ _ (@Zr _) (by walk_at "1") (@Zf _ _ _ _) (fun _ _=>rfl)) (@Za _ _ _ _ _ (@Zv _ _ _ _ _ _ _ _ _ _ QaW (hr.mono (by decide)) (@Za _ _ _ _ _ (by walk_at "0") (@Za _ _ _ _ _ (by walk_at "1") (@Zc _) (by rfl)) (by rfl)) (by rfl) (by decide) (by rfl) (by rfl)) (@Zc _) (by rfl)) (by rfl)) (by rfl)) (by rfl)) (by rfl) (by decide) (by rfl) (by rfl)) (@Zc _) (by rfl)) (by rfl) (by rfl) (by rfl) (by rfl) (by rfl)) (by rfl)) (@Zg _ _ _ (@Zy _ _ _ _ _ _ _ _ (@ZP _ _ _ (@ZL _ _ _ _ _ _ _ _ _ _ _ _ _ _ _ _ Xa Qac (hr.mono (by decide)) (@Zx _ _ _ _ _ (by walk_at "0") rfl) (@Za _ _ _ _ _ (@Zt _ _ _ _ _ _ _ (@Zr _) (by walk_at "1") (@Zf _ _ _ _) (fun _ _=>rfl)) (@Zc _) (by rfl)) (by rfl) (by rfl) (by rfl)) (by intro _ ; rfl)) (@Zg _ _ _ (@ZH _ _ _ _ (@Xq _ _ _ _ _ _ _ _ _ _ _ _ plainAttrs_list PySem.F.slot_list_append PySem.F.type_list_append (@Xi _) (by walk_at "3") (@Za _ _ _ _ _ (@Zt _ _ _ _ _ _ _ (@Zr _) (by walk_at "1") (@Zf _ _ _ _) (fun _ _=>rfl)) (@Zc _) (by rfl)) (by rfl) (by rfl) (by rfl) (by rfl) (by rfl)) (by rfl))) (@Zq _)))) (@Zq _)) (@Zg _ _ _ (@Zm _ _ _ _ (@ZD _ _ _ _ _ _ _ _ _ (@Zhk _ rfl) rfl T.z_sorted PyProof.Rows.boot_sorted (@Za _ _ _ _ _ (@YG _ _ _ _ _ _ _ _ _ (@ZiE _ rfl) rfl T.z_set PyProof.Rows.boot_set (@Za _ _ _ _ _ (by walk_at "3") (@Zc _) (by rfl)) (by decide) (by decide) (by rfl) (by rfl)) (@Zc _) (by rfl)) (by decide) (by decide) (by rfl) (by rfl))))))),?_⟩
  have hl:=Zcv S h ts;have okh:=Zdt oh ok;unfold ZgS ZfX;dsimp only;refine Zjp (tl':=XJ S h ts) ?_ (by omega) (fun t=>t.who.isSome) (fun t => .str (nr S.bs (t.who.getD ""))) ?_ ?_ ?_
  · intro R0 r;walk_at "go";exact fun l' ps' H' s f A=>r l' ps' H' s f A
  · intro p2 t H2 s2 ht hp2 R0 r;cases t with
    | year y =>
      walk_at "go";refine ⟨.inr (T.Qal _),rfl,rfl,_,rfl,?_⟩;rw [if_neg (by decide),(by decide +kernel:inV (.str "year") [.str "born", .str "dead", .str "age"]=false)];exact r H2 (Zj.refl _)
    | comes y =>
      walk_at "go";refine ⟨.inr (T.Qal _),rfl,rfl,_,rfl,?_⟩;rw [if_neg (by decide),(by decide +kernel:inV (.str "comes") [.str "born", .str "dead", .str "age"]=false)];exact r H2 (Zj.refl _)
    | born y =>
      walk_at "go";refine ⟨.inr (T.Qal _),rfl,rfl,_,rfl,?_⟩;rw [if_neg (by decide),(by decide +kernel:inV (.str "born") [.str "born", .str "dead", .str "age"]=true)];exact r H2 (Zj.refl _)
    | dead y =>
      walk_at "go";refine ⟨.inr (T.Qal _),rfl,rfl,_,rfl,?_⟩;rw [if_neg (by decide),(by decide +kernel:inV (.str "dead") [.str "born", .str "dead", .str "age"]=true)];exact r H2 (Zj.refl _)
    | age y a =>
      walk_at "go";refine ⟨.inr (T.Qal _),rfl,rfl,_,rfl,?_⟩;rw [if_neg (by decide),(by decide +kernel:inV (.str "age") [.str "born", .str "dead", .str "age"]=true)];exact r H2 (Zj.refl _)
  · intro p2 t H2 s2 ht hf hp2 R0 r;have okt:=okh t ht;obtain ⟨dx,b,hd,RL,hw,L,hh,eR,n1,n2⟩:=(W.same s2).ex;obtain ⟨dy,y1,y2,y3,hb⟩:=L.obj;cases t with
    | born y =>
      have oy:okN S y:=okt;have py:=oy.1;have yl:=Xh py;have yl2:y.length≤200:=by omega
      walk_at "go";refine ⟨(fun z=>by rw [py] at z; cases z),fun _ H3 s3=>r H3 s3⟩
    | dead y =>
      have oy:okN S y:=okt;have py:=oy.1;have yl:=Xh py;have yl2:y.length≤200:=by omega
      walk_at "go";refine ⟨(fun z=>by rw [py] at z; cases z),fun _ H3 s3=>r H3 s3⟩
    | age y a =>
      have oy:okN S y:=okt.1;have py:=oy.1;have yl:=Xh py;have yl2:y.length≤200:=by omega
      walk_at "go";refine ⟨(fun z=>by rw [py] at z; cases z),fun _ H3 s3=>r H3 s3⟩
    | year y=>cases hf
    | comes y=>cases hf
  · intro D H2 s2 fD h2;rw [Zho _ (fun n=>V.str (nr S.bs n))] at h2;have e0:(List.filterMap Atm.who (XJ S h ts)).map (fun n=>V.str (nr S.bs n))=((Y6 S h ts).map (nr S.bs)).map V.str:=by rw [map_map]; rfl
    rw [e0] at h2;have hp2:=s2 _ _ hp;have W2:=W.same s2;have wl:=ZeW S h ts;have hl98:S.bs.length≤98:=by omega
    have hl900:S.bs.length≤900:=by omega
    unfold Zc6;dsimp only;cases h with
    | one n =>
      walk_at "go";have wl2:=Zdv ((Y6 S (.one n) ts).map (nr S.bs));rw [length_map] at wl2;refine ⟨by rw [length_map]; omega,fun a ha=>?_⟩;refine ⟨a,_,rfl,Zd,by omega,fun ss l9 hpm hs hl9=>?_⟩;exact q ss l9 _ (by rw [show Zec S (.one n) ts=(Y6 S (.one n) ts).map (nr S.bs) from append_nil _]; exact hpm) hs ((s2.trans (Zi ha _)).trans (Zi hl9 _)) (s2.free ((Zi ha _).free hl9)) Zd
    | kids n a =>
      obtain ⟨on,h0,h1⟩:=oh;walk_at "go";intro o H3 s3 fo ho;have W3:=W2.same s3;have hp3:=s3 _ _ hp2;have hoS:SqL K H3 o ((Yv S n).map V.str):=SqL.of ho;walk_at "go";intro l4 H4 s4 f4 h4;have s34:=s3.trans s4;have wwl:=length_filter_le (fun c => !decide (a≤Zdl S c) && !has S.ds c) (Zb3 S n (Yv S n));have wml:=Zee W.wf (n:=n) (os:=Yv S n);have wll:(Z8 S n a (Yv S n)).length≤S.bs.length:=by show (List.filter _ _).length≤_; omega
      refine ⟨D,l4,_,_,rfl,rfl,s34 _ _ h2,h4,ZE (by rw [length_map,length_map,length_map]; show _+_≤500; omega),?_⟩;have s5:Zj H (upd H4 D (.lst (((Y6 S (.kids n a) ts).map (nr S.bs)).map V.str++(Z8 S n a (Yv S n)).map V.str))):=ZX (s2.trans s34) fD;have h5:upd H4 D (.lst (((Y6 S (.kids n a) ts).map (nr S.bs)).map V.str++(Z8 S n a (Yv S n)).map V.str)) D=some (.lst (((Y6 S (.kids n a) ts).map (nr S.bs)++Z8 S n a (Yv S n)).map V.str)):=by rw [Zd,map_append]
      generalize upd H4 D (.lst (((Y6 S (.kids n a) ts).map (nr S.bs)).map V.str++(Z8 S n a (Yv S n)).map V.str))=H5 at s5 h5 ⊢;have W5:=W.same s5;have hp5:=s5 _ _ hp;obtain ⟨dx,b,hd,RL,hw,L,hh,eR,n1,n2⟩:=W5.ex;obtain ⟨dy,y1,y2,y3,hb⟩:=L.obj;have wl2:=Zdv ((Y6 S (.kids n a) ts).map (nr S.bs)++Z8 S n a (Yv S n));have wl3:=Zdv (((Y6 S (.kids n a) ts).map (nr S.bs)++Z8 S n a (Yv S n))++[n]);rw [length_append,length_map] at wl2;rw [length_append,length_append,length_map,length_singleton] at wl3;walk_at "go";cases ha:al S.bs S.ds n with
      | true =>
        walk_at "go";refine ⟨ZC (by rw [length_map,length_append,length_map]; omega),?_⟩;have s6:Zj H (upd H5 D (.lst (((Y6 S (.kids n a) ts).map (nr S.bs)++Z8 S n a (Yv S n)).map V.str++[V.str n]))):=ZX s5 fD;have h6:upd H5 D (.lst (((Y6 S (.kids n a) ts).map (nr S.bs)++Z8 S n a (Yv S n)).map V.str++[V.str n])) D=some (.lst ((((Y6 S (.kids n a) ts).map (nr S.bs)++Z8 S n a (Yv S n))++[n]).map V.str)):=by rw [Zd,map_append (l₂:=[n])]; rfl
        generalize upd H5 D (.lst (((Y6 S (.kids n a) ts).map (nr S.bs)++Z8 S n a (Yv S n)).map V.str++[V.str n]))=H6 at s6 h6 ⊢;walk_at "go";refine ⟨by rw [length_append,length_append,length_map]; show _+_+1<1000; omega,fun a9 ha9=>?_⟩;refine ⟨a9,_,rfl,Zd,by omega,fun ss l9 hpm hs hl9=>?_⟩;exact q ss l9 _ (by rw [show Zec S (.kids n a) ts=((Y6 S (.kids n a) ts).map (nr S.bs)++Z8 S n a (Yv S n))++[n] from by show _++(_++(if _ then _ else _))=_; rw [if_pos ha,append_assoc]]; exact hpm) hs ((s6.trans (Zi ha9 _)).trans (Zi hl9 _)) (s6.free ((Zi ha9 _).free hl9)) Zd
      | false =>
        walk_at "go";refine ⟨by rw [length_append,length_map]; omega,fun a9 ha9=>?_⟩;refine ⟨a9,_,rfl,Zd,by omega,fun ss l9 hpm hs hl9=>?_⟩;exact q ss l9 _ (by rw [show Zec S (.kids n a) ts=((Y6 S (.kids n a) ts).map (nr S.bs)++Z8 S n a (Yv S n)) from by show _++(_++(if _ then _ else _))=_; rw [if_neg (by rw [ha]; decide),append_nil]]; exact hpm) hs ((s5.trans (Zi ha9 _)).trans (Zi hl9 _)) (s5.free ((Zi ha9 _).free hl9)) Zd
theorem Zij {f:Addr} {fd:FuncData} (F:Fun K "judged" "judged" ZaJ f fd) (T:Txt K g mg) (QbD:Dn P w0 K mg base 9 "is_late" ["world","holder","atoms","term"] (ZbX K g)) (QbE:Dn P w0 K mg base 9 "whole_stand" ["world","holder","atoms","out"] (J0 K g)) (QbF:Dn P w0 K mg base 9 "names_of" ["world","holder","atoms"] (Zbd K g)) (QaW:Dn P w0 K mg base 6 "left_out_of" ["world","holder"] (XM K g)) (QbG:Dn P w0 K mg base 10 "story_of" ["world","holder","atoms","term"] (Zbc K g)):FnOk P w0 K mg base CX0 11 f fd ["world","holder","atoms","term"] (ZcF K g):=by
  refine F.ok Zh7 (fun vs H Q E h=>?_) (fun cdv A outer s H vs Q E hr h=>?_)
  · obtain ⟨w,S,R,p,l,h,ts,ps,tm,rfl,_⟩:=h;rfl
  obtain ⟨w,S,R,p,l,h,ts,ps,tm,rfl,W,hl40,DT,htm,hp,A0,oh,ok,tl,q⟩:=h;refine ⟨_,(
(@Ze _ _ _ _ _ (@Zy _ _ _ _ _ _ _ _ (@Zp _ _ _ _ _ _ _ _ (@ZdT _) (@Zv _ _ _ _ _ _ _ _ _ _ QbE (hr.mono (by decide)) (@Za _ _ _ _ _ (by walk_at "0") (@Za _ _ _ _ _ (by walk_at "1") (@Za _ _ _ _ _ (by walk_at "2") (@Za _ _ _ _ _ (@Zv _ _ _ _ _ _ _ _ _ _ QaW (hr.mono (by decide)) (@Za _ _ _ _ _ (by walk_at "0") (@Za _ _ _ _ _ (by walk_at "1") (@Zc _) (by rfl)) (by rfl)) (by rfl) (by decide) (by rfl) (by rfl)) (@Zc _) (by rfl)) (by rfl)) (by rfl)) (by rfl)) (by rfl) (by decide) (by rfl) (by rfl)) (@ZA _ _ (.str "hangs") _ _ rfl T.Qak ⟨_,rfl⟩ (by decide)) (Zu _)) (@Zg _ _ _ (@Zm _ _ _ _ (@Yd _ _ _ _ _ (@Za _ _ _ _ _ (@ZA _ _ (.str "sure") _ _ rfl T.QcR ⟨_,rfl⟩ (by decide)) (@Za _ _ _ _ _ (@Ym _ _ _ _ (@Zc _)) (@Zc _) (by rfl)) (by rfl))))) (@Zq _)) (@Ze _ _ _ _ _ (@Zy _ _ _ _ _ _ _ _ (@ZP _ _ _ (@Zv _ _ _ _ _ _ _ _ _ _ QbD (hr.mono (by decide)) (@Za _ _ _ _ _ (by walk_at "0") (@Za _ _ _ _ _ (by walk_at "1") (@Za _ _ _ _ _ (by walk_at "2") (@Za _ _ _ _ _ (by walk_at "3") (@Zc _) (by rfl)) (by rfl)) (by rfl)) (by rfl)) (by rfl) (by decide) (by rfl) (by rfl)) (by intro _ ; rfl)) (@Zg _ _ _ (@Zm _ _ _ _ (@Yd _ _ _ _ _ (@Za _ _ _ _ _ (@ZA _ _ (.str "late") _ _ rfl T.Qdo ⟨_,rfl⟩ (by decide)) (@Za _ _ _ _ _ (@Zv _ _ _ _ _ _ _ _ _ _ QbG (hr.mono (by decide)) (@Za _ _ _ _ _ (by walk_at "0") (@Za _ _ _ _ _ (by walk_at "1") (@Za _ _ _ _ _ (by walk_at "2") (@Za _ _ _ _ _ (by walk_at "3") (@Zc _) (by rfl)) (by rfl)) (by rfl)) (by rfl)) (by rfl) (by decide) (by rfl) (by rfl)) (@Zc _) (by rfl)) (by rfl))))) (@Zq _)) (@Zg _ _ _ (@Zm _ _ _ _ (@Yd _ _ _ _ _ (@Za _ _ _ _ _ (@ZA _ _ (.str "sure") _ _ rfl T.QcR ⟨_,rfl⟩ (by decide)) (@Za _ _ _ _ _ (@Zv _ _ _ _ _ _ _ _ _ _ QbF (hr.mono (by decide)) (@Za _ _ _ _ _ (by walk_at "0") (@Za _ _ _ _ _ (by walk_at "1") (@Za _ _ _ _ _ (by walk_at "2") (@Zc _) (by rfl)) (by rfl)) (by rfl)) (by rfl) (by decide) (by rfl) (by rfl)) (@Zc _) (by rfl)) (by rfl)))))))),?_⟩
  have hlen:S.bs.length≤98:=by omega
  walk_at "go";intro o H1 s1 fo ho;have W1:=W.same s1;have hp1:=s1 _ _ hp;have A1:=A0.same s1;walk_at "go";intro H2 s2;have s12:=s1.trans s2;have W2:=W.same s12;have hp2:=s12 _ _ hp;have A2:=A0.same s12;walk_at "go";cases hw:decide (whS S h ts (h.out S)=("hangs":Str)) with
  | false =>
    have hw':whS S h ts (h.out S)≠("hangs":Str):=of_decide_eq_false hw;rw [Y5,hw];refine Yw ?_;walk_at "go";intro l3 hl3;have s3:=Zi hl3 (.lst []);refine ⟨ZE (by show 2≤500; omega),fun r hr=>?_⟩;have s4:=Zi hr (.tup [V.str "sure",V.ref l3]);exact q r l3 _ ((s12.trans s3).trans s4) (s12.free (s3.free hr)) (s12.free hl3) (.inl ⟨hw',Zd,s4 _ _ Zd⟩)
  | true =>
    have hw':whS S h ts (h.out S)=("hangs":Str):=of_decide_eq_true hw;rw [Y5,hw];refine Yb ?_;unfold ZfW;dsimp only;walk_at "go";intro F H3 hF s3;have s13:=s12.trans s3;have W3:=W.same s13;have hp3:=s13 _ _ hp;have A3:=A0.same s13;walk_at "go";cases hL:JJ S h ts F tm with
    | true =>
      refine Yw ?_;walk_at "go";intro F2 l4 ps4 H4 hF2 s4 f4 D4;obtain rfl:=hF.uniq hF2;refine ⟨ZE (by show 2≤500; omega),fun r hr=>?_⟩;have s5:=Zi hr (.tup [V.str "late",V.ref l4]);exact q r l4 _ ((s13.trans s4).trans s5) (s13.free (s4.free hr)) (s13.free f4) (.inr (.inl ⟨hw',F,ps4,hF,hL,Zd,D4.same s5⟩))
    | false =>
      refine Yb ?_;walk_at "go";intro ss l4 H4 hss hso s4 f4 h4;refine ⟨ZE (by show 2≤500; omega),fun r hr=>?_⟩;have s5:=Zi hr (.tup [V.str "sure",V.ref l4]);exact q r l4 _ ((s13.trans s4).trans s5) (s13.free (s4.free hr)) (s13.free f4) (.inr (.inr ⟨hw',F,ss,hF,hL,hss,hso,Zd,s5 _ _ h4⟩))
theorem ZdY {f:Addr} {fd:FuncData} (F:Fun K "_law_cell_at" "_law_cell_at" YS f fd) (T:Txt K g mg)  : FnOk P w0 K mg base CX0 1 f fd ["_law_script","_law_k"] (J5 K g):=by
  refine F.ok ZdE (fun vs H Q E h=>?_) (fun cdv A outer s H vs Q E hr h=>?_)
  · obtain ⟨a,ns,k,rfl,_⟩:=h;rfl
  obtain ⟨a,ns,k,rfl,hS,h0,q⟩:=h;refine ⟨_,(
(@Ze _ _ _ _ _ (@Zy _ _ _ _ _ _ _ _ (@Zp _ _ _ _ _ _ _ _ (@Zbr _) (by walk_at "1") (@ZD _ _ _ _ _ _ _ _ _ (@ZQ _) rfl T.z_len boot_len (@Za _ _ _ _ _ (by walk_at "0") (@Zc _) (by rfl)) (by decide) (by decide) (by rfl) (by rfl)) (Zu _)) (@Zg _ _ _ (@Zm _ _ _ _ (@Zt _ _ _ _ _ _ _ (@Z2 _) (by walk_at "0") (by walk_at "1") (fun _ _=>rfl)))) (@Zq _)) (@Zg _ _ _ (@Zm _ _ _ _ (@Zf _ _ _ _))))),?_⟩
  have hl:(ns.map V.int).length=ns.length:=length_map _;refine ⟨_,rfl,_,rfl,_,_,rfl, .inl ⟨_,hS,rfl⟩,_,_,rfl,rfl,_,rfl,?_⟩;refine Yj (fun c=>?_) (fun c=>?_)
  · have c':k<(((ns.map V.int).length:Nat):Int):=of_decide_eq_true c;rw [hl] at c';have hk:k.toNat<ns.length:=by omega
    have e:atI (ns.map V.int) ((k.toNat:Nat):Int)=some (.int ns[k.toNat]):=Za4 (by rw [getElem?_map,getElem?_eq_getElem hk] <;> rfl);rw [show ((k.toNat:Nat):Int)=k by omega] at e;exact ⟨_,rfl,_,rfl,a,_,_,_,rfl,rfl,hS,e,q _⟩
  · exact q 0
theorem Zgm {f:Addr} {fd:FuncData} (F:Fun K "_law_rich" "_law_rich" Jf f fd) (T:Txt K g mg)  : FnOk P w0 K mg base CX0 1 f fd ["_law_cell","_law_place"] (Zao K g):=by
  refine F.ok Zbk (fun vs H Q E h=>?_) (fun cdv A outer s H vs Q E hr h=>?_)
  · obtain ⟨c,p,rfl,_⟩:=h;rfl
  obtain ⟨c,p,rfl,q⟩:=h;refine ⟨_,(
(@Ze _ _ _ _ _ (@Zy _ _ _ _ _ _ _ _ (@Zp _ _ _ _ _ _ _ _ (@Zgf _) (by walk_at "0") (@Zn _ _ _ _ _ _ _ _ (@op_pow _) (@Zf _ _ _ _) (@Zf _ _ _ _)) (Zu _)) (@Zg _ _ _ (@Zm _ _ _ _ (by walk_at "0"))) (@Zq _)) (@Ze _ _ _ _ _ (@Zw _ _ (2) _ _ _ _ Zbk.nd rfl (Or.inl rfl) (@Zn _ _ _ _ _ _ _ _ (@ZM _) (@Zn _ _ _ _ _ _ _ _ (@Z6 _) (@Zn _ _ _ _ _ _ _ _ (@Z6 _) (@Zn _ _ _ _ _ _ _ _ (@Zbq _) (by walk_at "0") (@Zf _ _ _ _)) (@Zn _ _ _ _ _ _ _ _ (@Zbq _) (by walk_at "1") (@Zf _ _ _ _))) (@Zf _ _ _ _)) (@Zf _ _ _ _)) (by rfl) (by walk_at "u")) (@Ze _ _ _ _ _ (@Zw _ _ (3) _ _ _ _ Zbk.nd rfl (Or.inl rfl) (@Zn _ _ _ _ _ _ _ _ (@ZM _) (@Zn _ _ _ _ _ _ _ _ (@Z6 _) (@Zn _ _ _ _ _ _ _ _ (@Z6 _) (@Zn _ _ _ _ _ _ _ _ (@Zbq _) (by walk_at "2") (by walk_at "2")) (@Zn _ _ _ _ _ _ _ _ (@Zbq _) (by walk_at "0") (@Zf _ _ _ _))) (@Zn _ _ _ _ _ _ _ _ (@Zbq _) (by walk_at "1") (@Zf _ _ _ _))) (@Zf _ _ _ _)) (by rfl) (by walk_at "u")) (@Zg _ _ _ (@Zm _ _ _ _ (@Zn _ _ _ _ _ _ _ _ (@Z6 _) (@Zn _ _ _ _ _ _ _ _ (@Zbq _) (by walk_at "2") (@Zf _ _ _ _)) (by walk_at "3")))))))),?_⟩
  refine ⟨_,rfl,_,_,rfl,rfl,⟨by decide,by decide,by decide⟩,_,_,rfl,rfl,_,rfl,?_⟩;refine Yj (fun _=>?_) (fun _=>?_)
  · exact ⟨_,rfl,q _⟩
  · have small:∀ z:Int,(-(2 ^ 64)<z % 2147483647∧z % 2147483647<2 ^ 64):=fun z=>⟨by omega,by omega⟩;refine ⟨_,rfl,_,_,rfl,rfl, .inr ⟨by decide,by decide⟩,_,rfl,_,_,rfl,rfl, .inr ⟨by decide,by decide⟩,_,_,rfl,rfl,_,_,rfl,rfl,_,_,rfl,rfl,(by show (0:Int)<2147483647; decide),?_⟩;refine ⟨_,rfl,_,rfl,_,_,rfl,rfl, .inl (small _),_,rfl,_,_,rfl,rfl, .inr ⟨by decide,by decide⟩,_,_,rfl,rfl,_,rfl,_,_,rfl,rfl, .inr ⟨by decide,by decide⟩,_,_,rfl,rfl,_,_,rfl,rfl,(by show (0:Int)<2147483629; decide),?_⟩;exact ⟨_,rfl,_,_,rfl,rfl, .inr ⟨by decide,by decide⟩,_,rfl,_,_,rfl,rfl,q _⟩
theorem Zgl {f:Addr} {fd:FuncData} (F:Fun K "_law_word" "_law_word" Je f fd) (T:Txt K g mg)  : FnOk P w0 K mg base CX0 1 f fd ["_law_n"] (Jx K g):=by
  refine F.ok Y7 (fun vs H Q E h=>?_) (fun cdv A outer s H vs Q E hr h=>?_)
  · obtain ⟨n,rfl,_⟩:=h;rfl
  obtain ⟨n,rfl,q⟩:=h;refine ⟨_,(
(@Ze _ _ _ _ _ (@Zw _ _ (1) _ _ _ _ Y7.nd rfl (Or.inl rfl) (@Zn _ _ _ _ _ _ _ _ (@Z6 _) (@Zf _ _ _ _) (@Zn _ _ _ _ _ _ _ _ (@ZM _) (by walk_at "0") (@Zf _ _ _ _))) (by rfl) (by walk_at "u")) (@Ze _ _ _ _ _ (@Zw _ _ (0) _ _ _ _ Y7.nd rfl (Or.inl rfl) (@Zn _ _ _ _ _ _ _ _ (@ZT _) (by walk_at "0") (@Zf _ _ _ _)) (by rfl) (by walk_at "u")) (@Ze _ _ _ _ _ (@Zw _ _ (2) _ _ _ _ Y7.nd rfl (Or.inl rfl) (@Zo _ _ _ _) (by rfl) (by walk_at "u")) (@Ze _ _ _ _ _ (@Za0 _ _ _ _ _ _ _ _ PassesOwn.never rfl (@ZaL _ _ _ _ _ _ rfl T.z_range (@Za _ _ _ _ _ (by walk_at "1") (@Zc _) (by rfl)) (by rfl)) (@Yk _ _ (3) _ Y7.nd rfl (Or.inl rfl) (by walk_at "u")) (@Ze _ _ _ _ _ (@Zw _ _ (2) _ _ _ _ Y7.nd rfl (Or.inl rfl) (@Zn _ _ _ _ _ _ _ _ (@YK _) (by walk_at "2") (@Zt _ _ _ _ _ _ _ (@Zjy _) (@Zo _ _ _ _) (@Zn _ _ _ _ _ _ _ _ (@ZM _) (by walk_at "0") (@Zf _ _ _ _)) (fun _ _=>rfl))) (by rfl) (by walk_at "u")) (@Zg _ _ _ (@Zw _ _ (0) _ _ _ _ Y7.nd rfl (Or.inl rfl) (@Zn _ _ _ _ _ _ _ _ (@ZT _) (by walk_at "0") (@Zf _ _ _ _)) (by rfl) (by walk_at "u")))) (by intro _ ; rfl)) (@Ze _ _ _ _ _ (@Zy _ _ _ _ _ _ _ _ (@PW.pt _ _ _ (@ZbT _ _ _ _ _ _ _ (@Zp _ _ _ _ _ _ _ _ (@Ya _) (by walk_at "2") (@Zo _ _ _ _) (Zu _)) (@Zay _ _ _ _ (@Zp _ _ _ _ _ _ _ _ (@Ya _) (by walk_at "2") (@Zo _ _ _ _) (Zu _))))) (@Zg _ _ _ (@Zm _ _ _ _ (@Zcj _ _ _ _ _ _ _ _ _ _ (@ZiY _) (by walk_at "2") (@Zdp _) (@Zdo _ _ _ (@Zf _ _ _ _))))) (@Zq _)) (@Zg _ _ _ (@Zm _ _ _ _ (by walk_at "2"))))))))),?_⟩
  refine ⟨_,rfl,_,_,rfl,rfl,(by show (0:Int)<8; decide),_,_,rfl,rfl,?_⟩;refine ⟨_,rfl,_,_,rfl,rfl,⟨by decide,by decide⟩,?_⟩;have b1:=emod_lt_of_pos n (show (0:Int)<8 by decide);have b0:=emod_nonneg n (show (8:Int)≠0 by decide);refine ⟨_,rfl,1+n % 8,rfl,by omega,by omega,ZbI (n:=(1+n % 8).toNat) (fun i σ H2=>H2=H∧∃ (n':Int) (z:Str) (v:Option V),σ=[some (.int n'),some (.int (1+n % 8)),some (.str z),v]∧z.length=i∧z.cps.toList.all (inR 97 122)=true) ⟨rfl,_,_,_,rfl,rfl,by decide +kernel⟩ ?_ ?_⟩
  · rintro i σ H2 hi ⟨rfl,n',z,v,rfl,hz,hk⟩;obtain ⟨c,hc,hc2⟩:=abc_in (emod_nonneg n' (show (26:Int)≠0 by decide)) (emod_lt_of_pos n' (show (0:Int)<26 by decide));refine ⟨_,rfl,_,rfl,_,_,rfl,rfl,(by show (0:Int)<26; decide),abc,_,c,rfl,rfl,by decide +kernel,hc,z,_,rfl,rfl,?_,?_⟩
    · have:(⟨#[c]⟩:Str).length=1:=rfl;have:=ZC (n:=9) (by decide);omega
    · refine ⟨_,rfl,_,_,rfl,rfl,⟨by decide,by decide⟩,rfl,_,_,_,rfl,?_,?_⟩
      · rw [XS,hz];rfl
      · rw [JR,all_append,hk];simp [hc2]
  · rintro σ H2 ⟨rfl,n',z,v,rfl,hz,hk⟩;have hz8:z.length≤8:=by omega
    have hz1:1≤z.length:=by omega
    have cut:gw (Txt.slice z none (some 3))=true→ZgT (tSl (fun x lo hi H Q=>∃ z,x = .str z∧z.length≤sizeLine∧Q (.str (Txt.slice z lo hi)) H) (Ze2 2) Zhs (tPart (tC (.int 3)))) { nx:=fun _ H'=>Q .non H',rt:=Q } [some (.int n'),some (.int (1+n % 8)),some (.str z),v] H2:=
      fun hg=>⟨_,rfl,_,rfl,z,rfl,le_of_lt (ZC (by omega)),q _ hg⟩
    refine ⟨_,rfl,rfl,_,rfl,?_⟩;refine Yj (fun c=>Yw (cut ?_)) (fun c1=>?_)
    · have e:z="crown":=by injection (of_decide_eq_true c)
      rw [e]; decide +kernel
    refine ⟨_,rfl,rfl,_,rfl,?_⟩;refine Yj (fun c=>cut ?_) (fun c2=>?_)
    · have e:z="kids":=by injection (of_decide_eq_true c)
      rw [e]; decide +kernel
    refine ⟨_,rfl,q z ?_⟩;unfold gw;rw [decide_eq_true hz1,decide_eq_true hz8,hk,decide_eq_false (fun e=>c1 (by rw [e]; rfl)),decide_eq_false (fun e=>c2 (by rw [e]; rfl))];rfl
theorem Zfn {f:Addr} {fd:FuncData} (F:Fun K "_law_model" "_law_model" XB f fd) (T:Txt K g mg)  : FnOk P w0 K mg base CX0 1 f fd ["_law_year"] (ZaV K g):=by
  refine F.ok Ze8 (fun vs H Q E h=>?_) (fun cdv A outer s H vs Q E hr h=>?_)
  · obtain ⟨y,rfl,_⟩:=h;rfl
  obtain ⟨y,rfl,q⟩:=h;refine ⟨_,(
(@Zg _ _ _ (@Zm _ _ _ _ (@Yd _ _ _ _ _ (@Za _ _ _ _ _ (@Ym _ _ _ _ (@Za _ _ _ _ _ (by walk_at "0") (@Zc _) (by rfl))) (@Za _ _ _ _ _ (@XV _ _) (@Za _ _ _ _ _ (@XV _ _) (@Za _ _ _ _ _ (@XV _ _) (@Zc _) (by rfl)) (by rfl)) (by rfl)) (by rfl)))))),?_⟩
  refine ⟨_,rfl,(by show 1≤sizeLine; decide),fun c hc=>?_⟩;intro e1 h1 e2 h2 e3 h3;refine ⟨(by show 4≤sizeLine; decide),fun m hm=>?_⟩;have s1:=Zi hc (.lst [V.int y]);have s2:=Zi h1 (.dK []);have s3:=Zi h2 (.dK []);have s4:=Zi h3 (.dK []);have s5:=Zi hm (.tup [V.ref c,V.ref e1,V.ref e2,V.ref e3]);have t2:=s1.trans s2;have t3:=t2.trans s3;have t4:=t3.trans s4;have u1:upd (upd H c (.lst [V.int y])) e1 (.dK []) e1=some (.dK []):=Zd;have v1:=s3 _ _ u1;have u2:upd (upd (upd H c (.lst [V.int y])) e1 (.dK [])) e2 (.dK []) e2=some (.dK []):=Zd;have v2:=s4 _ _ u2;refine q m (Zak m c e1 e2 e3) _ (t4.trans s5) (fun a ha=>?_) ⟨c,e1,e2,e3,
    ⟨Zd,s5 _ _ (s4 _ _ (s3 _ _ (s2 _ _ Zd))),s5 _ _ (s4 _ _ v1),s5 _ _ v2,s5 _ _ Zd,ZB u1 h2,ZB v1 h3,ZB u2 h3⟩,rfl⟩
  unfold Zak at ha;simp only [mem_cons,not_mem_nil,or_false] at ha;rcases ha with rfl | rfl | rfl | rfl | rfl
  · exact t4.free hm
  · exact hc
  · exact s1.free h1
  · exact t2.free h2
  · exact t3.free h3
theorem Zgr {f:Addr} {fd:FuncData} (F:Fun K "_law_kids" "_law_kids" Jl f fd) (T:Txt K g mg)  : FnOk P w0 K mg base CX0 1 f fd ["_law_model_here","_law_name"] (Zbh K g):=by
  refine F.ok Zc0 (fun vs H Q E h=>?_) (fun cdv A outer s H vs Q E hr h=>?_)
  · obtain ⟨m,S,R,n,rfl,_⟩:=h;rfl
  obtain ⟨m,S,R,n,rfl,MM,W,hx,hk,q⟩:=h;obtain ⟨c,e1,e2,e3,M,eR⟩:=MdlAt.ex MM;have h1:∀ i,i<nk S.bs n→has S.bs (kid n i)=true:=fun i hi=>(W.cnt n i (by omega)).mpr hi;have h2:=W.no_kid n;generalize nk S.bs n=k at *;refine ⟨_,(
(@Ze _ _ _ _ _ (@Zw _ _ (2) _ _ _ _ Zc0.nd rfl (Or.inl rfl) (@Ym _ _ _ _ (@Zc _)) (by rfl) (by walk_at "u")) (@Ze _ _ _ _ _ (@Zci _ _ _ _ _ _ PassesOwn.never (@JH _ _ _ _ _ _ (@Zb1 _ _ _ _ _ (Z9 hr) (@Zn _ _ _ _ _ _ _ _ (@YK _) (@Zn _ _ _ _ _ _ _ _ (@YK _) (by walk_at "1") (@Zo _ _ _ _)) (@YG _ _ _ _ _ _ _ _ _ (@JS _) rfl T.z_str boot_str (@Za _ _ _ _ _ (@Zn _ _ _ _ _ _ _ _ (@Z6 _) (@ZD _ _ _ _ _ _ _ _ _ (@ZQ _) rfl T.z_len boot_len (@Za _ _ _ _ _ (by walk_at "2") (@Zc _) (by rfl)) (by decide) (by decide) (by rfl) (by rfl)) (@Zf _ _ _ _)) (@Zc _) (by rfl)) (by decide) (by decide) (by rfl) (by rfl))) (@Zt _ _ _ _ _ _ _ (@Zr _) (by walk_at "0") (@Zf _ _ _ _) (fun _ _=>rfl))) (by walk_at "n")) (@Zg _ _ _ (@ZH _ _ _ _ (@Xq _ _ _ _ _ _ _ _ _ _ _ _ plainAttrs_list PySem.F.slot_list_append PySem.F.type_list_append (@Xi _) (by walk_at "2") (@Za _ _ _ _ _ (@Zn _ _ _ _ _ _ _ _ (@YK _) (@Zn _ _ _ _ _ _ _ _ (@YK _) (by walk_at "1") (@Zo _ _ _ _)) (@YG _ _ _ _ _ _ _ _ _ (@JS _) rfl T.z_str boot_str (@Za _ _ _ _ _ (@Zn _ _ _ _ _ _ _ _ (@Z6 _) (@ZD _ _ _ _ _ _ _ _ _ (@ZQ _) rfl T.z_len boot_len (@Za _ _ _ _ _ (by walk_at "2") (@Zc _) (by rfl)) (by decide) (by decide) (by rfl) (by rfl)) (@Zf _ _ _ _)) (@Zc _) (by rfl)) (by decide) (by decide) (by rfl) (by rfl))) (@Zc _) (by rfl)) (by rfl) (by rfl) (by rfl) (by rfl) (by rfl)) (by rfl)))) (@Zg _ _ _ (@Zm _ _ _ _ (by walk_at "2")))))),?_⟩
  refine ⟨zero_le _,fun l hl=>?_⟩;have nm:m≠l:=ZB M.tup hl;have n1:e1≠l:=ZB M.h1 hl;refine ⟨fun mm σ H2=>∃ i,i≤k∧mm=k - i∧σ=[some (.ref m),some (.str n),some (.ref l)]∧H2=upd H l (.lst (YH n i)),⟨k,0,zero_le _,rfl,rfl,rfl⟩,?_⟩;rintro mm σ H2 ⟨i,hi,rfl,rfl,rfl⟩;have kl:(YH n i).length=i:=by unfold YH; rw [length_map,length_range]
  have c0:(0:Int)≤(((YH n i).length:Nat):Int)+1:=by omega
  have c1:(((YH n i).length:Nat):Int)+1<131:=by omega
  have tl:=Ze1 c0 c1;have l3:(n++(".":Str)).length=n.length+1:=by rw [Zkm]; rfl
  have ke:n++(".":Str)++(toString ((((YH n i).length:Nat):Int)+1):Str)=kid n i:=by rw [kl]; rfl
  have g:Yx (upd H l (.lst (YH n i))) e1 (.str (kid n i)) (Xc (yrs S.bs) (Sum.inr (kid n i):Key)):=Yx.k (k:=Sum.inr (kid n i)) (by rw [Zh n1]; exact M.h1);refine ⟨_,rfl,n,_,rfl,rfl,ZE (by show n.length+1≤500; omega),_,rfl,_,_,rfl, .inl ⟨_,SqL.of Zd,rfl⟩,_,_,rfl,rfl,_,rfl,ZaP c0 c1,_,_,rfl,rfl,ZE (by rw [l3]; omega),?_⟩;rw [ke];refine ⟨_,rfl,m,_,_,_,rfl,rfl,SqT.of (by rw [Zh nm]; exact M.tup),rfl,e1,_,rfl,g,_,rfl,?_⟩;rw [Z4]
  by_cases ci:i<k
  · rw [h1 i ci];refine Yw ⟨fun σ H2=>σ=[some (.ref m),some (.str n),some (.ref l)]∧H2=upd H l (.lst (YH n (i+1))),fun σ' H' ⟨a1,a2⟩=>⟨k - (i+1),by omega,i+1,ci,rfl,a1,a2⟩,?_⟩;refine ⟨_,rfl, .inl ⟨rfl,_,SqL.of Zd⟩,_,rfl,n,_,rfl,rfl,ZE (by show n.length+1≤500; omega),_,rfl,_,_,rfl, .inl ⟨_,SqL.of Zd,rfl⟩,_,_,rfl,rfl,_,rfl,ZaP c0 c1,_,_,rfl,rfl,ZE (by rw [l3]; omega),l,_,_,rfl,rfl,Zd,ZC (by rw [kl]; omega),rfl,?_⟩;rw [ke,Ze0,ZeI]
  · have e:i=k:=by omega
    subst e;rw [h2];exact Yb ⟨_,rfl,q l _ (Zi hl _) hl Zd⟩
theorem Zeu {f:Addr} {fd:FuncData} (F:Fun K "_law_living" "_law_living" Xf f fd) (T:Txt K g mg)  : FnOk P w0 K mg base CX0 1 f fd ["_law_model_here"] (Zaw K g):=by
  refine F.ok Zet (fun vs H Q E h=>?_) (fun cdv A outer s H vs Q E hr h=>?_)
  · obtain ⟨m,S,R,rfl,_⟩:=h;rfl
  obtain ⟨m,S,R,rfl,MM,hlen,q⟩:=h;obtain ⟨c,d1,d2,d3,B,eR⟩:=MdlAt.ex MM;obtain ⟨y,bs,ds,cs⟩:=S;simp only at B hlen q;refine ⟨_,(
(@Zg _ _ _ (@Zm _ _ _ _ (@ZhA _ _ _ (d1) (yrs bs) (@ZaM _ _ _ ("_law_name") _ _ _ ([("_law_model_here",s.heap.objs.size+1)]) _ ([("_law_model_here",0)]) _ _ _ rfl (@Zfh _ _ _ _ (@Zt _ _ _ _ _ _ _ (@Zr _) (by walk_at "0") (@Zf _ _ _ _) (fun _ _=>rfl))) (fun _ _ _ _ _=>(@YN _ _ _ (@JH _ _ _ _ _ _ (@XI _ _ _ _ _ (Z9 hr) (by walk_at "0") (@Zt _ _ _ _ _ _ _ (show IxR _ (ZcJ K) from (@Zr _)) (by walk_at "1") (@Zf _ _ _ _) (fun _ _=>rfl))) (by walk_at "n")))) (fun _ _ _ _ _=>(by walk_at "0")) rfl (by decide +kernel) rfl (by decide +kernel) rfl (fun _ _ h=>h) (YL rfl) (fun p hp=>by rw [List.mem_singleton.mp hp]; exact ⟨rfl,rfl,by first | exact .inl rfl | exact .inr rfl⟩) (by decide +kernel) (by intro _ ; rfl)))))),?_⟩
  have hb:=B.tup;have nb1:m≠d1:=ZI hb B.h1 (fun z=>by cases z);have yl:(yrs bs).length=bs.length:=by unfold yrs; rw [length_map]
  refine ⟨B.h1,_,rfl,m,_,_,_,rfl,rfl,SqT.of hb,rfl,d1,_,rfl,B.h1,fun o D hD=>⟨fun i k H2=>i≤bs.length∧k=bs.length - i∧H2=upd (upd H d1 (.frz o (.dK (yrs bs)))) D (.lst (((bs.take i).filter fun p => !has ds p.1).map fun p=>V.str p.1)),⟨bs.length,zero_le _,rfl,rfl⟩,?_⟩⟩;have n1:D≠d1:=fun e=>by rw [e,Zd] at hD; cases hD
  have hD0:H D=none:=by rw [Zh n1] at hD; exact hD
  have nb:m≠D:=ZB hb hD0;have n2:d2≠D:=ZB B.h2 hD0;rintro i k H2 ⟨hi,rfl,rfl⟩
  by_cases ci:i<bs.length
  · refine .inr ⟨⟨by rw [Zh (Ne.symm n1),Zd],by rw [yl]; exact ci⟩,fun x H' ⟨e,kk,v,ek,ex⟩=>?_⟩;subst e;have ek':(yrs bs)[i]? = some ((Sum.inr (bs[i]).1:Key),V.int (bs[i]).2):=by unfold yrs; rw [getElem?_map,getElem?_eq_getElem ci]; rfl
    rw [ek'] at ek;cases ek;subst ex;have g:Yx (upd (upd H d1 (.frz o (.dK (yrs bs)))) D (.lst (((bs.take i).filter fun p => !has ds p.1).map fun p=>V.str p.1))) d2 (.str (bs[i]).1) (Xc (yrs ds) (Sum.inr (bs[i]).1:Key)):=Yx.k (k:=Sum.inr (bs[i]).1) (by rw [Zh n2,Zh (Ne.symm B.n12)]; exact B.h2);refine ⟨_,rfl,_,rfl,m,_,_,_,rfl,rfl,SqT.of (by rw [Zh nb,Zh nb1]; exact hb),rfl,d2,_,rfl,g,_,rfl,?_⟩;rw [Z4];have tk:bs.take (i+1)=bs.take i++[bs[i]]:=(ZcD ci).symm;cases e:has ds (bs[i]).1 with
    | true =>
      refine Yb ⟨bs.length - (i+1),by omega,ci,rfl,?_⟩;rw [tk,filter_append];simp [e]
    | false =>
      refine Yw ⟨_,rfl,_,bs.length - (i+1),Zd,ZC ?_,by omega,ci,rfl,?_⟩
      · rw [length_map];exact le_trans (length_filter_le _ _) (by rw [length_take]; omega)
      · rw [Ze0,tk,filter_append,map_append];simp [e];rfl
  · have e:i=bs.length:=by omega
    subst e;refine .inl ⟨⟨by rw [Zh (Ne.symm n1),Zd],by rw [yl]; exact le_refl _⟩,o,by rw [Zh (Ne.symm n1),Zd],?_⟩;rw [take_length];have eq:upd (upd (upd H d1 (.frz o (.dK (yrs bs)))) D (.lst ((bs.filter fun p => !has ds p.1).map fun p=>V.str p.1))) d1 (.dK (yrs bs))=upd H D (.lst ((bs.filter fun p => !has ds p.1).map fun p=>V.str p.1)):=by
      funext a
      by_cases ha:a=d1
      · rw [ha,Zd,Zh (Ne.symm n1),B.h1]
      · rw [Zh ha]
        by_cases hA:a=D
        · rw [hA,Zd,Zd]
        · rw [Zh hA,Zh ha,Zh hA]
    rw [eq];exact q D _ (Zi hD0 _) hD0 Zd
theorem Zgn {f:Addr} {fd:FuncData} (F:Fun K "_law_play" "_law_play" Jg f fd) (T:Txt K g mg) (QbH:Dn P w0 K mg base 1 "_law_kids" ["_law_model_here","_law_name"] (Zbh K g)):FnOk P w0 K mg base CX0 2 f fd ["_law_model_here","_law_deed"] (Zbe K g):=by
  refine F.ok Jy (fun vs H Q E h=>?_) (fun cdv A outer s H vs Q E hr h=>?_)
  · obtain ⟨m,S,R,p,d,far,k,rfl,_⟩:=h;rfl
  obtain ⟨m,S,R,p,d,far,k,rfl,M,hp,O,hk98,hg,q⟩:=h;obtain ⟨c,e1,e2,e3,B,eR⟩:=MdlAt.ex M;refine ⟨_,(
(@Ze _ _ _ _ _ (@Zfe _ _ _ _ _ _ (by walk_at "0") (@Zg1 _ _ _ _ _ _ rfl (@Xo _ _ _ _ _ (@Yk _ _ (2) _ Jy.nd rfl (Or.inl rfl) (by walk_at "u")) (@Xo _ _ _ _ _ (@Yk _ _ (3) _ Jy.nd rfl (Or.inl rfl) (by walk_at "u")) (@Xo _ _ _ _ _ (@Yk _ _ (4) _ Jy.nd rfl (Or.inl rfl) (by walk_at "u")) (@Xo _ _ _ _ _ (@Yk _ _ (5) _ Jy.nd rfl (Or.inl rfl) (by walk_at "u")) (@Zdq _) (by rfl)) (by rfl)) (by rfl)) (by rfl)) (by rfl) (by rfl)) (by rfl) (by rfl) (by rfl)) (@Ze _ _ _ _ _ (@Zy _ _ _ _ _ _ _ _ (@Zp _ _ _ _ _ _ _ _ (@Ya _) (@Zt _ _ _ _ _ _ _ (@Zr _) (by walk_at "1") (@Zf _ _ _ _) (fun _ _=>rfl)) (@Zo _ _ _ _) (Zu _)) (@Zg _ _ _ (@Zfe _ _ _ _ _ _ (@Zn _ _ _ _ _ _ _ _ (@Z6 _) (@Zt _ _ _ _ _ _ _ (@Z2 _) (by walk_at "2") (@Zf _ _ _ _) (fun _ _=>rfl)) (@Zt _ _ _ _ _ _ _ (@Zr _) (by walk_at "1") (@Zf _ _ _ _) (fun _ _=>rfl))) (@pg_sub _ _ _ _ _ _ _ (by walk_at "2") (@Zf _ _ _ _) (@Zi0 _) (by intro _ ; rfl)) (by rfl) (by rfl) (by rfl))) (@Zq _)) (@Ze _ _ _ _ _ (@Zy _ _ _ _ _ _ _ _ (@Zp _ _ _ _ _ _ _ _ (@Ya _) (@Zt _ _ _ _ _ _ _ (@Zr _) (by walk_at "1") (@Zf _ _ _ _) (fun _ _=>rfl)) (@Zo _ _ _ _) (Zu _)) (@Zg _ _ _ (@Jv _ _ _ _ _ _ _ _ _ (Z9 hr) (by walk_at "3") (@Zt _ _ _ _ _ _ _ (@Zr _) (by walk_at "1") (@Zf _ _ _ _) (fun _ _=>rfl)) (@Zn _ _ _ _ _ _ _ _ (@Zaz _) (@Zt _ _ _ _ _ _ _ (@Z2 _) (by walk_at "2") (@Zf _ _ _ _) (fun _ _=>rfl)) (@Zt _ _ _ _ _ _ _ (@Zr _) (by walk_at "1") (@Zf _ _ _ _) (fun _ _=>rfl))) rfl)) (@Zq _)) (@Ze _ _ _ _ _ (@Zy _ _ _ _ _ _ _ _ (@Zp _ _ _ _ _ _ _ _ (@Ya _) (@Zt _ _ _ _ _ _ _ (@Zr _) (by walk_at "1") (@Zf _ _ _ _) (fun _ _=>rfl)) (@Zo _ _ _ _) (Zu _)) (@Zg _ _ _ (@Jv _ _ _ _ _ _ _ _ _ (Z9 hr) (by walk_at "3") (@Zn _ _ _ _ _ _ _ _ (@YK _) (@Zn _ _ _ _ _ _ _ _ (@YK _) (@Zt _ _ _ _ _ _ _ (@Zr _) (by walk_at "1") (@Zf _ _ _ _) (fun _ _=>rfl)) (@Zo _ _ _ _)) (@YG _ _ _ _ _ _ _ _ _ (@JS _) rfl T.z_str boot_str (@Za _ _ _ _ _ (@Zn _ _ _ _ _ _ _ _ (@Z6 _) (@ZD _ _ _ _ _ _ _ _ _ (@ZQ _) rfl T.z_len boot_len (@Za _ _ _ _ _ (@Zv _ _ _ _ _ _ _ _ _ _ QbH (hr.mono (by decide)) (@Za _ _ _ _ _ (by walk_at "0") (@Za _ _ _ _ _ (@Zt _ _ _ _ _ _ _ (@Zr _) (by walk_at "1") (@Zf _ _ _ _) (fun _ _=>rfl)) (@Zc _) (by rfl)) (by rfl)) (by rfl) (by decide) (by rfl) (by rfl)) (@Zc _) (by rfl)) (by decide) (by decide) (by rfl) (by rfl)) (@Zf _ _ _ _)) (@Zc _) (by rfl)) (by decide) (by decide) (by rfl) (by rfl))) (@Zt _ _ _ _ _ _ _ (@Z2 _) (by walk_at "2") (@Zf _ _ _ _) (fun _ _=>rfl)) rfl)) (@Zq _)) (@Ze _ _ _ _ _ (@Zy _ _ _ _ _ _ _ _ (@Zp _ _ _ _ _ _ _ _ (@Ya _) (@Zt _ _ _ _ _ _ _ (@Zr _) (by walk_at "1") (@Zf _ _ _ _) (fun _ _=>rfl)) (@Zo _ _ _ _) (Zu _)) (@Zg _ _ _ (@Jv _ _ _ _ _ _ _ _ _ (Z9 hr) (by walk_at "4") (@Zt _ _ _ _ _ _ _ (@Zr _) (by walk_at "1") (@Zf _ _ _ _) (fun _ _=>rfl)) (@Zt _ _ _ _ _ _ _ (@Z2 _) (by walk_at "2") (@Zf _ _ _ _) (fun _ _=>rfl)) rfl)) (@Zq _)) (@Zg _ _ _ (@Zy _ _ _ _ _ _ _ _ (@Zp _ _ _ _ _ _ _ _ (@Ya _) (@Zt _ _ _ _ _ _ _ (@Zr _) (by walk_at "1") (@Zf _ _ _ _) (fun _ _=>rfl)) (@Zo _ _ _ _) (Zu _)) (@Zg _ _ _ (@Jv _ _ _ _ _ _ _ _ _ (Z9 hr) (by walk_at "5") (@Zt _ _ _ _ _ _ _ (@Zr _) (by walk_at "1") (@Zf _ _ _ _) (fun _ _=>rfl)) (@Zt _ _ _ _ _ _ _ (@Z2 _) (by walk_at "2") (@Zf _ _ _ _) (fun _ _=>rfl)) rfl)) (@Zq _))))))))),?_⟩
  refine ⟨_,rfl,m,_,rfl,SqT.of B.tup,rfl,_,_,rfl,_,_,rfl,_,_,rfl,_,_,rfl,rfl,?_⟩;cases d with
  | arrive ww aa =>
    refine ⟨_,rfl,p,_,_,_,rfl,rfl,SqT.of hp,rfl,rfl,_,rfl,YI (by decide +kernel) ?_⟩;refine ⟨_,rfl,p,_,_,_,rfl,rfl,SqT.of hp,rfl,rfl,_,rfl,Zcs ?_⟩;refine ⟨_,rfl,c,_,_,_,rfl,rfl,SqL.of B.clk,rfl,_,rfl,p,_,_,_,rfl,rfl,SqT.of hp,rfl,_,_,rfl,rfl,_,rfl,_,rfl,p,_,_,_,rfl,rfl,SqT.of hp,rfl,e1,_,rfl,ZcA.k (k:=Sum.inr ww) B.h1 (ZC (by unfold yrs; rw [length_map]; have:=O.lb; omega)),?_⟩;rw [XT _ (ZbG hg.2.1),Zbx];obtain ⟨hp,hk,fin⟩:=B.put1 eR hp (bs':=S.bs++[(ww,S.y - aa)]);refine ⟨_,rfl,p,_,_,_,rfl,rfl,SqT.of hp,rfl,rfl,_,rfl,YI (by decide +kernel) ?_⟩;refine ⟨_,rfl,p,_,_,_,rfl,rfl,SqT.of hp,rfl,rfl,_,rfl,YI (by decide +kernel) ?_⟩;refine ⟨_,rfl,p,_,_,_,rfl,rfl,SqT.of hp,rfl,rfl,_,rfl,YI (by decide +kernel) ?_⟩;exact q _ hk fin
  | birth nn =>
    refine ⟨_,rfl,p,_,_,_,rfl,rfl,SqT.of hp,rfl,rfl,_,rfl,YI (by decide +kernel) ?_⟩;refine ⟨_,rfl,p,_,_,_,rfl,rfl,SqT.of hp,rfl,rfl,_,rfl,YI (by decide +kernel) ?_⟩;refine ⟨_,rfl,p,_,_,_,rfl,rfl,SqT.of hp,rfl,rfl,_,rfl,Zcs ?_⟩;have hx:=Xh (O.wf.wrt nn hg.1);have hf:=O.wf.few nn;have hlb:=O.lb;refine ⟨_,rfl,c,_,_,_,rfl,rfl,SqL.of B.clk,rfl,_,rfl,_,rfl,p,_,_,_,rfl,rfl,SqT.of hp,rfl,nn,_,rfl,rfl,ZE (by show nn.length+1≤500; omega),_,rfl,_,rfl,p,_,_,_,rfl,rfl,SqT.of hp,rfl,m,S,R,nn,rfl,M,O.wf,by omega,by omega,fun l H1 s1 hl1 hl2=>?_⟩;have B:=B.keep s1;have hp:=s1 _ _ hp;have M:=M.same s1;have kl:(YH nn (nk S.bs nn)).length=nk S.bs nn:=by unfold YH; rw [length_map,length_range]
    have c0:(0:Int)≤((nk S.bs nn:Nat):Int)+1:=by omega
    have c1:((nk S.bs nn:Nat):Int)+1<131:=by omega
    have tl:=Ze1 c0 c1;refine ⟨_,_,rfl, .inl ⟨_,SqL.of hl2,rfl⟩,_,_,rfl,rfl,?_⟩;rw [kl];refine ⟨_,rfl,ZaP c0 c1,_,_,rfl,rfl,ZE (by rw [show (nn++(".":Str)).length=nn.length+1 from XS _ _]; omega),e1,_,rfl,ZcA.k (k:=Sum.inr (kid nn (nk S.bs nn))) B.h1 (ZC (by unfold yrs; rw [length_map]; omega)),?_⟩;rw [XT _ (ZbG (O.wf.no_kid nn)),Zbx];obtain ⟨hp,hk1,fin⟩:=B.put1 eR hp (bs':=S.bs++[(kid nn (nk S.bs nn),S.y)]);have hk:=s1.kp.wide (Y:=R) (fun _ h=>nomatch h) |>.tr hk1 (fun a ha => .inl ha);refine ⟨_,rfl,p,_,_,_,rfl,rfl,SqT.of hp,rfl,rfl,_,rfl,YI (by decide +kernel) ?_⟩;refine ⟨_,rfl,p,_,_,_,rfl,rfl,SqT.of hp,rfl,rfl,_,rfl,YI (by decide +kernel) ?_⟩;exact q _ hk fin
  | death nn =>
    refine ⟨_,rfl,p,_,_,_,rfl,rfl,SqT.of hp,rfl,rfl,_,rfl,YI (by decide +kernel) ?_⟩;refine ⟨_,rfl,p,_,_,_,rfl,rfl,SqT.of hp,rfl,rfl,_,rfl,YI (by decide +kernel) ?_⟩;refine ⟨_,rfl,p,_,_,_,rfl,rfl,SqT.of hp,rfl,rfl,_,rfl,YI (by decide +kernel) ?_⟩;refine ⟨_,rfl,p,_,_,_,rfl,rfl,SqT.of hp,rfl,rfl,_,rfl,Zcs ?_⟩;refine ⟨_,rfl,c,_,_,_,rfl,rfl,SqL.of B.clk,rfl,_,rfl,_,rfl,p,_,_,_,rfl,rfl,SqT.of hp,rfl,e2,_,rfl,ZcA.k (k:=Sum.inr nn) B.h2 (ZC (by unfold yrs; rw [length_map]; have:=O.ld; omega)),?_⟩;rw [XT _ (ZbG hg.2),Zbx];obtain ⟨hp,hk,fin⟩:=B.put2 eR hp (ds':=S.ds++[(nn,S.y)]);refine ⟨_,rfl,p,_,_,_,rfl,rfl,SqT.of hp,rfl,rfl,_,rfl,YI (by decide +kernel) ?_⟩;exact q _ hk fin
  | comes ww =>
    refine ⟨_,rfl,p,_,_,_,rfl,rfl,SqT.of hp,rfl,rfl,_,rfl,YI (by decide +kernel) ?_⟩;refine ⟨_,rfl,p,_,_,_,rfl,rfl,SqT.of hp,rfl,rfl,_,rfl,YI (by decide +kernel) ?_⟩;refine ⟨_,rfl,p,_,_,_,rfl,rfl,SqT.of hp,rfl,rfl,_,rfl,YI (by decide +kernel) ?_⟩;refine ⟨_,rfl,p,_,_,_,rfl,rfl,SqT.of hp,rfl,rfl,_,rfl,YI (by decide +kernel) ?_⟩;refine ⟨_,rfl,p,_,_,_,rfl,rfl,SqT.of hp,rfl,rfl,_,rfl,Zcs ?_⟩;refine ⟨_,rfl,c,_,_,_,rfl,rfl,SqL.of B.clk,rfl,_,rfl,_,rfl,p,_,_,_,rfl,rfl,SqT.of hp,rfl,e3,_,rfl,ZcA.k (k:=Sum.inr ww) B.h3 (ZC (by unfold yrs; rw [length_map]; have:=O.lc; omega)),?_⟩;rw [XT _ (ZbG hg.2),Zbx];obtain ⟨hp,hk,fin⟩:=B.put3 eR hp (cs':=S.cs++[(ww,S.y)]);exact q _ hk fin
  | years kk =>
    refine ⟨_,rfl,p,_,_,_,rfl,rfl,SqT.of hp,rfl,rfl,_,rfl,Zcs ?_⟩;refine ⟨_,rfl,c,_,_,_,rfl,rfl,SqL.of B.clk,rfl,_,rfl,p,_,_,_,rfl,rfl,SqT.of hp,rfl,_,_,rfl,rfl,_,rfl,c,_,0,0,rfl,rfl,B.clk,rfl,?_⟩;have ky:=X0 (H:=H) (a:=c) (o := .lst [V.int (S.y+kk)]);have hp:upd H c (.lst [V.int (S.y+kk)]) p=some (.tup (Deed.years kk).vals):=by rw [Zh (ZI hp B.clk (fun z=>by cases z))]; exact hp
    have fin:Jr (upd H c (.lst [V.int (S.y+kk)])) m (S.step (.years kk)) R:=⟨c,e1,e2,e3,⟨by rw [Zh (ZI B.tup B.clk (fun z=>by cases z))]; exact B.tup,Zd,by rw [Zh (ZI B.h1 B.clk (fun z=>by cases z))]; exact B.h1,by rw [Zh (ZI B.h2 B.clk (fun z=>by cases z))]; exact B.h2,by rw [Zh (ZI B.h3 B.clk (fun z=>by cases z))]; exact B.h3,B.n12,B.n13,B.n23⟩,eR⟩;have hk:Z3 R H (upd H c (.lst [V.int (S.y+kk)])):=ky.wide (fun a ha=>by rw [List.mem_singleton.mp ha,eR]; simp [Zak]);refine ⟨_,rfl,p,_,_,_,rfl,rfl,SqT.of hp,rfl,rfl,_,rfl,YI (by decide +kernel) ?_⟩;refine ⟨_,rfl,p,_,_,_,rfl,rfl,SqT.of hp,rfl,rfl,_,rfl,YI (by decide +kernel) ?_⟩;refine ⟨_,rfl,p,_,_,_,rfl,rfl,SqT.of hp,rfl,rfl,_,rfl,YI (by decide +kernel) ?_⟩;refine ⟨_,rfl,p,_,_,_,rfl,rfl,SqT.of hp,rfl,rfl,_,rfl,YI (by decide +kernel) ?_⟩;exact q _ hk fin
theorem ZcN {f:Addr} {fd:FuncData} (F:Fun K "_law_next_deed" "_law_next_deed" Zz f fd) (T:Txt K g mg) (QbI:Dn P w0 K mg base 1 "_law_living" ["_law_model_here"] (Zaw K g)) (Qan:Dn P w0 K mg base 1 "_law_word" ["_law_n"] (Jx K g)):FnOk P w0 K mg base CX0 2 f fd ["_law_model_here","_law_n","_law_far"] (X4 K g):=by
  refine F.ok ZV (fun vs H Q E h=>?_) (fun cdv A outer s H vs Q E hr h=>?_)
  · obtain ⟨m,S,R,n,far,rfl,_⟩:=h;rfl
  obtain ⟨m,S,R,n,far,rfl,M,hlen,hfar,q⟩:=h;have rest6:PSs (X1 CX0 P w0 K mg base ["_law_model_here","_law_n","_law_far","_law_some","_law_kind","_law_word_here","_law_name"] "_law_next_deed" (Zb Zz) f cdv A outer s H E).nox ((Zk Zz).drop 6) (fun D σ H1=>∃ (n' kd:Int) (l:Addr) (v5 v6:Option V),σ=[some (.ref m),some (.int n'),some (.int far),some (.ref l),some (.int kd),v5,v6]∧Zj H H1∧H1 l=some (.lst (Zef S.bs S.ds))∧(∀ d p H',S.good far d→Zj H H'→H p=none→H' p=some (.tup d.vals)→D.rt (.ref p) H')):=by
    refine @Jw _ _ _ _ ((@Zg _ _ _ (@Zm _ _ _ _ (@Yd _ _ _ _ _ (@Za _ _ _ _ _ (@Zo _ _ _ _) (@Za _ _ _ _ _ (@Zn _ _ _ _ _ _ _ _ (@Z6 _) (@Zf _ _ _ _) (@Zn _ _ _ _ _ _ _ _ (@ZM _) (by walk_at "1") (by walk_at "2"))) (@Zc _) (by rfl)) (by rfl)))))) ?_;rintro D σ H1 ⟨n',kd,l,v5,v6,rfl,s1,hl,q⟩;have z0:=emod_nonneg n' (show far≠0 by omega);have z1:=emod_lt_of_pos n' hfar;refine ⟨_,rfl,_,rfl,_,_,rfl,rfl,hfar,_,_,rfl,rfl,(by show 2≤sizeLine; decide),fun p hp=>?_⟩;exact q (.years (1+n' % far)) p _ ⟨by omega,by omega⟩ (s1.trans (Zi hp _)) (s1.free hp) Zd
  have rest5:PSs (X1 CX0 P w0 K mg base ["_law_model_here","_law_n","_law_far","_law_some","_law_kind","_law_word_here","_law_name"] "_law_next_deed" (Zb Zz) f cdv A outer s H E).nox ((Zk Zz).drop 5) (fun D σ H1=>∃ (n' kd:Int) (l:Addr) (v5 v6:Option V),σ=[some (.ref m),some (.int n'),some (.int far),some (.ref l),some (.int kd),v5,v6]∧Zj H H1∧H1 l=some (.lst (Zef S.bs S.ds))∧(∀ d p H',S.good far d→Zj H H'→H p=none→H' p=some (.tup d.vals)→D.rt (.ref p) H')):=by
    refine @Jw _ _ _ _ ((@Ze _ _ _ _ _ (@Zy _ _ _ _ _ _ _ _ (@Zp _ _ _ _ _ _ _ _ (@Ya _) (by walk_at "4") (@Zf _ _ _ _) (Zu _)) (@Ze _ _ _ _ _ (@Zw _ _ (5) _ _ _ _ ZV.nd rfl (Or.inl rfl) (@Zt _ _ _ _ _ _ _ (@Z2 _) (@Ym _ _ _ _ (@Za _ _ _ _ _ (@Zo _ _ _ _) (@Za _ _ _ _ _ (@Zo _ _ _ _) (@Za _ _ _ _ _ (@Zo _ _ _ _) (@Za _ _ _ _ _ (@Zv _ _ _ _ _ _ _ _ _ _ Qan (hr.mono (by decide)) (@Za _ _ _ _ _ (@Zn _ _ _ _ _ _ _ _ (@ZT _) (by walk_at "1") (@Zf _ _ _ _)) (@Zc _) (by rfl)) (by rfl) (by decide) (by rfl) (by rfl)) (@Zc _) (by rfl)) (by rfl)) (by rfl)) (by rfl))) (@Zn _ _ _ _ _ _ _ _ (@ZM _) (by walk_at "1") (@Zf _ _ _ _)) (fun _ _=>rfl)) (by rfl) (by walk_at "u")) (@Zg _ _ _ (@Zy _ _ _ _ _ _ _ _ (@JH _ _ _ _ _ _ (@XI _ _ _ _ _ (Z9 hr) (by walk_at "5") (@Zt _ _ _ _ _ _ _ (@Zr _) (by walk_at "0") (@Zf _ _ _ _) (fun _ _=>rfl))) (by walk_at "n")) (@Zg _ _ _ (@Zm _ _ _ _ (@Yd _ _ _ _ _ (@Za _ _ _ _ _ (@Zo _ _ _ _) (@Za _ _ _ _ _ (by walk_at "5") (@Zc _) (by rfl)) (by rfl))))) (@Zq _)))) (@Zq _)) @rest6)) ?_;rintro D σ H1 ⟨n',kd,l,v5,v6,rfl,s1,hl,q⟩;obtain ⟨c,e1,e2,e3,B⟩:=(M.same s1).tup_of;refine ⟨_,rfl,rfl,_,rfl,Yj (fun _=>?_) (fun _=>⟨n',kd,l,v5,v6,rfl,s1,hl,q⟩)⟩;refine ⟨_,rfl,_,_,rfl,rfl,⟨by decide,by decide⟩,_,rfl,fun z hz=>⟨(by show 4≤sizeLine; decide),fun pl hpl=>?_⟩⟩;have z0:=emod_nonneg n' (show (4:Int)≠0 by omega);have z1:=emod_lt_of_pos n' (show (0:Int)<4 by omega);obtain ⟨y,hy,gy⟩:=pick4 hz z0 z1;have s2:=Zi hpl (.lst [V.str "war",V.str "flood",V.str "a",V.str z]);refine ⟨_,rfl,_,_,rfl,rfl,(by show (0:Int)<4; decide),pl,_,_,_,rfl,rfl,SqL.of Zd,hy,?_⟩;refine ⟨_,rfl,_,rfl,m,_,_,_,rfl,rfl,SqT.of (s2 _ _ B.tup),rfl,e3,_,rfl,Yx.k (k:=Sum.inr y) (s2 _ _ B.h3),_,rfl,?_⟩;rw [Z4];cases e:has S.cs y with
    | true=>exact Yb ⟨n',kd,l,_,v6,rfl,s1.trans s2,s2 _ _ hl,q⟩
    | false =>
      refine Yw ⟨_,rfl,(by show 2≤sizeLine; decide),fun p hp=>?_⟩;exact q (.comes y) p _ ⟨gy,e⟩ ((s1.trans s2).trans (Zi hp _)) ((s1.trans s2).free hp) Zd
  have rest4:PSs (X1 CX0 P w0 K mg base ["_law_model_here","_law_n","_law_far","_law_some","_law_kind","_law_word_here","_law_name"] "_law_next_deed" (Zb Zz) f cdv A outer s H E).nox ((Zk Zz).drop 4) (fun D σ H1=>∃ (n' kd:Int) (l:Addr) (v5 v6:Option V),σ=[some (.ref m),some (.int n'),some (.int far),some (.ref l),some (.int kd),v5,v6]∧Zj H H1∧H1 l=some (.lst (Zef S.bs S.ds))∧(∀ d p H',S.good far d→Zj H H'→H p=none→H' p=some (.tup d.vals)→D.rt (.ref p) H')):=by
    refine @Jw _ _ _ _ ((@Ze _ _ _ _ _ (@Zy _ _ _ _ _ _ _ _ (@PW.pt _ _ _ (@Zah _ _ _ _ _ _ _ (@Zp _ _ _ _ _ _ _ _ (@ZbU _) (by walk_at "4") (@Zf _ _ _ _) (Zu _)) (@Zah _ _ _ _ _ _ _ (@Zp _ _ _ _ _ _ _ _ (@Zbr _) (by walk_at "4") (@Zf _ _ _ _) (Zu _)) (@Ju _ _ _ _ (@Zp _ _ _ _ _ _ _ _ (@ZbU _) (@ZD _ _ _ _ _ _ _ _ _ (@ZQ _) rfl T.z_len boot_len (@Za _ _ _ _ _ (by walk_at "3") (@Zc _) (by rfl)) (by decide) (by decide) (by rfl) (by rfl)) (@Zf _ _ _ _) (Zu _)))))) (@Ze _ _ _ _ _ (@Zw _ _ (6) _ _ _ _ ZV.nd rfl (Or.inl rfl) (@Zt _ _ _ _ _ _ _ (@Z2 _) (by walk_at "3") (@Zn _ _ _ _ _ _ _ _ (@ZM _) (by walk_at "1") (@ZD _ _ _ _ _ _ _ _ _ (@ZQ _) rfl T.z_len boot_len (@Za _ _ _ _ _ (by walk_at "3") (@Zc _) (by rfl)) (by decide) (by decide) (by rfl) (by rfl))) (fun _ _=>rfl)) (by rfl) (by walk_at "u")) (@Ze _ _ _ _ _ (@Zy _ _ _ _ _ _ _ _ (@Zp _ _ _ _ _ _ _ _ (@ZbU _) (by walk_at "4") (@Zf _ _ _ _) (Zu _)) (@Zg _ _ _ (@Zm _ _ _ _ (@Yd _ _ _ _ _ (@Za _ _ _ _ _ (@Zo _ _ _ _) (@Za _ _ _ _ _ (by walk_at "6") (@Zc _) (by rfl)) (by rfl))))) (@Zq _)) (@Zg _ _ _ (@Zy _ _ _ _ _ _ _ _ (@Zp _ _ _ _ _ _ _ _ (@Zbr _) (@Xq _ _ _ _ _ _ _ _ _ _ _ _ plainAttrs_str slot_str_count type_str_count (@ZaO _) (by walk_at "6") (@Za _ _ _ _ _ (@Zo _ _ _ _) (@Zc _) (by rfl)) (by rfl) (by rfl) (by rfl) (by rfl) (by rfl)) (@Zf _ _ _ _) (Zu _)) (@Zg _ _ _ (@Zm _ _ _ _ (@Yd _ _ _ _ _ (@Za _ _ _ _ _ (@Zo _ _ _ _) (@Za _ _ _ _ _ (by walk_at "6") (@Zc _) (by rfl)) (by rfl))))) (@Zq _))))) (@Zq _)) @rest5)) ?_;rintro D σ H1 ⟨n',kd,l,v5,v6,rfl,s1,hl,q⟩;refine ⟨_,rfl,_,_,rfl,rfl,_,rfl,Yj (fun c1=>?_) (fun _=>Yb ⟨n',kd,l,v5,v6,rfl,s1,hl,q⟩)⟩;refine ⟨_,rfl,_,_,rfl,rfl,_,rfl,Yj (fun c2=>?_) (fun _=>Yb ⟨n',kd,l,v5,v6,rfl,s1,hl,q⟩)⟩;refine ⟨_,rfl,_,_,rfl, .inl ⟨_,SqL.of hl,rfl⟩,_,_,rfl,rfl,_,rfl,Yj (fun c3=>?_) (fun _=>⟨n',kd,l,v5,v6,rfl,s1,hl,q⟩)⟩;have hpos:(0:Int)<((Zef S.bs S.ds).length:Nat):=of_decide_eq_true c3;obtain ⟨v,hv⟩:=Zhl (xs:=Zef S.bs S.ds) (emod_nonneg n' (show ((Zef S.bs S.ds).length:Int)≠0 by omega)) (emod_lt_of_pos n' hpos);obtain ⟨nm,rfl,hb,hd⟩:=Zkk hv;refine ⟨_,rfl,_,rfl,_,rfl,_,_,rfl, .inl ⟨_,SqL.of hl,rfl⟩,_,_,rfl,rfl,hpos,l,_,_,_,rfl,rfl,SqL.of hl,hv,?_⟩;refine ⟨_,rfl,_,_,rfl,rfl,_,rfl,Yj (fun c4=>?_) (fun _=>?_)⟩
    · refine ⟨_,rfl,(by show 2≤sizeLine; decide),fun p hp=>?_⟩;exact q (.death nm) p _ ⟨hb,hd⟩ (s1.trans (Zi hp _)) (s1.free hp) Zd
    · refine ⟨_,rfl,rfl,nm,dot,rfl,rfl,_,_,rfl,rfl,_,rfl,Yj (fun c5=>?_) (fun _=>⟨n',kd,l,v5,_,rfl,s1,hl,q⟩)⟩;refine ⟨_,rfl,(by show 2≤sizeLine; decide),fun p hp=>?_⟩;exact q (.birth nm) p _ ⟨hb,hd,by have z:=of_decide_eq_true c5; unfold Xv; omega⟩ (s1.trans (Zi hp _)) (s1.free hp) Zd
  have rest3:PSs (X1 CX0 P w0 K mg base ["_law_model_here","_law_n","_law_far","_law_some","_law_kind","_law_word_here","_law_name"] "_law_next_deed" (Zb Zz) f cdv A outer s H E).nox ((Zk Zz).drop 3) (fun D σ H1=>∃ (n' kd:Int) (l:Addr) (v5 v6:Option V),σ=[some (.ref m),some (.int n'),some (.int far),some (.ref l),some (.int kd),v5,v6]∧Zj H H1∧H1 l=some (.lst (Zef S.bs S.ds))∧(∀ d p H',S.good far d→Zj H H'→H p=none→H' p=some (.tup d.vals)→D.rt (.ref p) H')):=by
    refine @Jw _ _ _ _ ((@Ze _ _ _ _ _ (@Zy _ _ _ _ _ _ _ _ (@PW.pt _ _ _ (@ZbT _ _ _ _ _ _ _ (@Zp _ _ _ _ _ _ _ _ (@Ya _) (by walk_at "4") (@Zf _ _ _ _) (Zu _)) (@Zay _ _ _ _ (@PW.pt _ _ _ (@Zah _ _ _ _ _ _ _ (@Zp _ _ _ _ _ _ _ _ (@Zbr _) (by walk_at "4") (@Zf _ _ _ _) (Zu _)) (@Ju _ _ _ _ (@Zp _ _ _ _ _ _ _ _ (@Ya _) (@ZD _ _ _ _ _ _ _ _ _ (@ZQ _) rfl T.z_len boot_len (@Za _ _ _ _ _ (by walk_at "3") (@Zc _) (by rfl)) (by decide) (by decide) (by rfl) (by rfl)) (@Zf _ _ _ _) (Zu _)))))))) (@Ze _ _ _ _ _ (@Zw _ _ (5) _ _ _ _ ZV.nd rfl (Or.inl rfl) (@Zv _ _ _ _ _ _ _ _ _ _ Qan (hr.mono (by decide)) (@Za _ _ _ _ _ (@Zn _ _ _ _ _ _ _ _ (@ZT _) (by walk_at "1") (@Zf _ _ _ _)) (@Zc _) (by rfl)) (by rfl) (by decide) (by rfl) (by rfl)) (by rfl) (by walk_at "u")) (@Zg _ _ _ (@Zy _ _ _ _ _ _ _ _ (@JH _ _ _ _ _ _ (@XI _ _ _ _ _ (Z9 hr) (by walk_at "5") (@Zt _ _ _ _ _ _ _ (@Zr _) (by walk_at "0") (@Zf _ _ _ _) (fun _ _=>rfl))) (by walk_at "n")) (@Zg _ _ _ (@Zm _ _ _ _ (@Yd _ _ _ _ _ (@Za _ _ _ _ _ (@Zo _ _ _ _) (@Za _ _ _ _ _ (by walk_at "5") (@Za _ _ _ _ _ (@Zn _ _ _ _ _ _ _ _ (@ZM _) (by walk_at "1") (@Zf _ _ _ _)) (@Zc _) (by rfl)) (by rfl)) (by rfl))))) (@Zq _)))) (@Zq _)) @rest4)) ?_;rintro D σ H1 ⟨n',kd,l,v5,v6,rfl,s1,hl,q⟩;obtain ⟨c,e1,e2,e3,B⟩:=(M.same s1).tup_of;refine ⟨_,rfl,rfl,_,rfl,Yj (fun _=>Yw ?_) (fun _=>⟨_,rfl,_,_,rfl,rfl,_,rfl,Yj (fun _=>⟨_,rfl,_,_,rfl, .inl ⟨_,SqL.of hl,rfl⟩,rfl,_,rfl,Yj (fun _=>?_) (fun _=>?_)⟩) (fun _=>Yb ?_)⟩)⟩
    all_goals try exact ⟨n',kd,l,v5,v6,rfl,s1,hl,q⟩
    all_goals
      refine ⟨_,rfl,_,_,rfl,rfl,⟨by decide,by decide⟩,_,rfl,fun z hz=>?_⟩;refine ⟨_,rfl,_,rfl,m,_,_,_,rfl,rfl,SqT.of B.tup,rfl,e1,_,rfl,Yx.k (k:=Sum.inr z) B.h1,_,rfl,?_⟩;rw [Z4];cases e:has S.bs z with
      | true=>exact Yb ⟨n',kd,l,_,v6,rfl,s1,hl,q⟩
      | false =>
        refine Yw ⟨_,rfl,_,rfl,_,_,rfl,rfl,(by show (0:Int)<121; decide),(by show 3≤sizeLine; decide),fun p hp=>?_⟩;have z0:=emod_nonneg n' (show (121:Int)≠0 by omega);have z1:=emod_lt_of_pos n' (show (0:Int)<121 by omega);exact q (.arrive z (n' % 121)) p _ ⟨hz,e,z0,by omega⟩ (s1.trans (Zi hp _)) (s1.free hp) Zd
  refine ⟨_,(@Ze _ _ _ _ _ (@Zw _ _ (3) _ _ _ _ ZV.nd rfl (Or.inl rfl) (@Zv _ _ _ _ _ _ _ _ _ _ QbI (hr.mono (by decide)) (@Za _ _ _ _ _ (by walk_at "0") (@Zc _) (by rfl)) (by rfl) (by decide) (by rfl) (by rfl)) (by rfl) (by walk_at "u")) (@Ze _ _ _ _ _ (@Zw _ _ (4) _ _ _ _ ZV.nd rfl (Or.inl rfl) (@Zn _ _ _ _ _ _ _ _ (@ZM _) (by walk_at "1") (@Zf _ _ _ _)) (by rfl) (by walk_at "u")) (@Ze _ _ _ _ _ (@Zw _ _ (1) _ _ _ _ ZV.nd rfl (Or.inl rfl) (@Zn _ _ _ _ _ _ _ _ (@ZT _) (by walk_at "1") (@Zf _ _ _ _)) (by rfl) (by walk_at "u")) @rest3))),?_⟩;refine ⟨_,rfl,m,S,R,rfl,M,hlen,fun l H1 s1 _ hl=>?_⟩;exact ⟨_,rfl,_,_,rfl,rfl,(by show (0:Int)<9; decide),_,rfl,_,_,rfl,rfl,⟨by decide,by decide⟩,_,_,l,_,_,rfl,s1,hl,q⟩
theorem Zfl {f:Addr} {fd:FuncData} (F:Fun K "_law_start" "_law_start" Xz f fd) (T:Txt K g mg) (Qan:Dn P w0 K mg base 1 "_law_word" ["_law_n"] (Jx K g)):FnOk P w0 K mg base CX0 2 f fd ["_law_n"] (ZaT K g):=by
  refine F.ok Xe (fun vs H Q E h=>?_) (fun cdv A outer s H vs Q E hr h=>?_)
  · obtain ⟨n,rfl,_⟩:=h;rfl
  obtain ⟨n,rfl,q⟩:=h;refine ⟨_,(
(@Ze _ _ _ _ _ (@Zw _ _ (1) _ _ _ _ Xe.nd rfl (Or.inl rfl) (@Ym _ _ _ _ (@Zc _)) (by rfl) (by walk_at "u")) (@Ze _ _ _ _ _ (@Zw _ _ (2) _ _ _ _ Xe.nd rfl (Or.inl rfl) (@XV _ _) (by rfl) (by walk_at "u")) (@Ze _ _ _ _ _ (@Za0 _ _ _ _ _ _ _ _ PassesOwn.never rfl (@ZaL _ _ _ _ _ _ rfl T.z_range (@Za _ _ _ _ _ (@Zn _ _ _ _ _ _ _ _ (@Z6 _) (@Zf _ _ _ _) (@Zn _ _ _ _ _ _ _ _ (@ZM _) (by walk_at "0") (@Zf _ _ _ _))) (@Zc _) (by rfl)) (by rfl)) (@Yk _ _ (3) _ Xe.nd rfl (Or.inl rfl) (by walk_at "u")) (@Ze _ _ _ _ _ (@Zw _ _ (0) _ _ _ _ Xe.nd rfl (Or.inl rfl) (@Zn _ _ _ _ _ _ _ _ (@Z6 _) (@Zn _ _ _ _ _ _ _ _ (@ZT _) (by walk_at "0") (@Zf _ _ _ _)) (@Zn _ _ _ _ _ _ _ _ (@Zbq _) (by walk_at "3") (@Zf _ _ _ _))) (by rfl) (by walk_at "u")) (@Ze _ _ _ _ _ (@Zw _ _ (4) _ _ _ _ Xe.nd rfl (Or.inl rfl) (@Zv _ _ _ _ _ _ _ _ _ _ Qan (hr.mono (by decide)) (@Za _ _ _ _ _ (@Zn _ _ _ _ _ _ _ _ (@ZT _) (by walk_at "0") (@Zf _ _ _ _)) (@Zc _) (by rfl)) (by rfl) (by decide) (by rfl) (by rfl)) (by rfl) (by walk_at "u")) (@Zg _ _ _ (@Zy _ _ _ _ _ _ _ _ (@JH _ _ _ _ _ _ (@XI _ _ _ _ _ (Z9 hr) (by walk_at "4") (by walk_at "2")) (by walk_at "n")) (@Ze _ _ _ _ _ (@Jv _ _ _ _ _ _ _ _ _ (Z9 hr) (by walk_at "2") (by walk_at "4") (@Zau _ _ _ _) rfl) (@Zg _ _ _ (@ZH _ _ _ _ (@Xq _ _ _ _ _ _ _ _ _ _ _ _ plainAttrs_list PySem.F.slot_list_append PySem.F.type_list_append (@Xi _) (by walk_at "1") (@Za _ _ _ _ _ (@Yd _ _ _ _ _ (@Za _ _ _ _ _ (@Zo _ _ _ _) (@Za _ _ _ _ _ (by walk_at "4") (@Za _ _ _ _ _ (@Zn _ _ _ _ _ _ _ _ (@ZM _) (by walk_at "0") (@Zf _ _ _ _)) (@Zc _) (by rfl)) (by rfl)) (by rfl))) (@Zc _) (by rfl)) (by rfl) (by rfl) (by rfl) (by rfl) (by rfl)) (by rfl)))) (@Zq _))))) (by intro _ ; rfl)) (@Zg _ _ _ (@Zm _ _ _ _ (by walk_at "1"))))))),?_⟩
  refine ⟨zero_le _,fun l hl=>?_⟩;intro dw hdw;have b1:=emod_lt_of_pos n (show (0:Int)<3 by decide);have b0:=emod_nonneg n (show (3:Int)≠0 by decide);have ndl:l≠dw:=fun e=>by rw [e,Zd] at hdw; cases hdw
  have hdw0:H dw=none:=by rw [Zh (Ne.symm ndl)] at hdw; exact hdw
  refine ⟨_,rfl,_,_,rfl,rfl,(by show (0:Int)<3; decide),_,_,rfl,rfl,1+n % 3,rfl,by omega,by omega,ZbI (n:=(1+n % 3).toNat) (fun i σ H2=>∃ (n':Int) (v3 v4:Option V) (was:List (Str×Int)) (ps:List Addr),σ=[some (.int n'),some (.ref l),some (.ref dw),v3,v4]∧Zj H H2∧(∀ a∈ps,H a=none)∧DeedsAt H2 l (was.map arr) ps∧H2 dw=some (.dK (ZfV was))∧was.length≤i∧First was∧(0<i→was≠[])) ?_ ?_ ?_⟩
  · refine ⟨n,none,none,[],[],rfl,(Zi hl _).trans (Zi hdw _),(fun _ h=>nomatch h),⟨?_,rfl,(fun i p d h=>by simp at h)⟩,Zd,le_refl _,⟨.nil,zero_le _,(fun _ h=>nomatch h)⟩,fun h=>absurd h (lt_irrefl 0)⟩;rw [Zh ndl,Zd];rfl
  · rintro i σ H2 hi ⟨n',v3,v4,was,ps,rfl,s2,hps,DD,hw,hlw,FF,hne⟩;have i3:i<3:=by omega
    refine ⟨_,rfl,_,_,rfl,rfl,⟨by decide,by decide⟩,_,rfl,_,_,rfl,rfl, .inr ⟨by decide,by decide⟩,_,_,rfl,rfl,?_⟩;refine ⟨_,rfl,_,_,rfl,rfl,⟨by decide,by decide⟩,_,rfl,fun z hz=>?_⟩;refine ⟨_,rfl,_,rfl,dw,_,rfl,Yx.k (k:=Sum.inr z) hw,_,rfl,?_⟩;rw [ZfU]
    by_cases hin:z∈was.map (·.1)
    · rw [decide_eq_true hin];exact Yb ⟨_,_,_,was,ps,rfl,s2,hps,DD,hw,by omega,FF,fun _ e=>by rw [e] at hin; cases hin⟩
    · rw [decide_eq_false hin];have vn:Xc (ZfV was) (Sum.inr z:Key)=none:=by
        have t:=ZfU was z;rw [decide_eq_false hin] at t;cases e:Xc (ZfV was) (Sum.inr z:Key) with
        | none=>rfl
        | some v=>rw [e] at t; cases t
      refine Yw ⟨_,rfl,_,rfl,dw,_,rfl,ZcA.k (k:=Sum.inr z) hw (ZC (by unfold ZfV; rw [length_map]; omega)),?_⟩;rw [XT _ vn];have nld:l≠dw:=ndl;refine ⟨_,rfl, .inl ⟨rfl,_,SqL.of (by rw [Zh nld]; exact DD.lst)⟩,_,rfl,_,rfl,_,_,rfl,rfl,(by show (0:Int)<67; decide),(by show 3≤sizeLine; decide),fun p hp=>?_⟩;have z0:=emod_nonneg (n' / 3+(0+(i:Int)) * 104729) (show (67:Int)≠0 by omega);have z1:=emod_lt_of_pos (n' / 3+(0+(i:Int)) * 104729) (show (0:Int)<67 by omega);have npd:p≠dw:=fun e=>by rw [e,Zd] at hp; cases hp
      have hp2:H2 p=none:=by rw [Zh npd] at hp; exact hp
      have npl:p≠l:=fun e=>by rw [e,DD.lst] at hp2; cases hp2
      have lw:=DD.lst;have pl:ps.length≤3:=by rw [DD.len,length_map]; exact FF.len
      refine ⟨l,_,_,rfl,rfl,(by rw [Zh (Ne.symm npl),Zh nld]; exact lw),ZC (by rw [length_map]; omega),?_⟩;have tp:∀ q∈ps,q≠dw:=fun q hq e=>by
        obtain ⟨o,ho⟩:=DD.live q (mem_cons_of_mem _ hq);obtain ⟨j,hj⟩:=List.mem_iff_getElem?.mp hq;have hj2:j<(was.map arr).length:=by rw [← DD.len]; exact (List.getElem?_eq_some_iff.mp hj).1
        have t:=DD.at_ j q _ hj (getElem?_eq_getElem hj2);rw [e,hw] at t;cases t
      have D1:DeedsAt (upd H2 dw (.dK (ZfV was++[((Sum.inr z:Key),V.bl true)]))) l (was.map arr) ps:=DD.mv fun a ha o e=>by
        rw [Zh]
        · exact e
        · rcases List.mem_cons.mp ha with rfl | ha
          · exact nld
          · exact tp a ha
      have D2:=D1.push (d:=arr (z,(n' / 3+(0+(i:Int)) * 104729) % 67)) (p:=p) (Zi hp (.tup (arr (z,(n' / 3+(0+(i:Int)) * 104729) % 67)).vals)) Zd;refine ⟨_,_,_,was++[(z,(n' / 3+(0+(i:Int)) * 104729) % 67)],ps++[p],rfl,?_,?_,?_,?_,?_,?_,fun _=>by simp⟩
      · exact ZX ((ZX s2 hdw0).trans (Zi hp _)) hl
      · intro a ha;rcases List.mem_append.mp ha with ha | ha
        · exact hps a ha
        · rw [List.mem_singleton.mp ha]; exact s2.free hp2
      · rw [map_append]; exact D2
      · rw [Zh (Ne.symm nld),Zh (Ne.symm npd),Zd];unfold ZfV;rw [map_append];rfl
      · rw [length_append,length_singleton]; omega
      · refine ⟨Zfv FF.nod ((ZfD was z).mpr hin),by rw [length_append,length_singleton]; omega,fun x hx=>?_⟩;rcases List.mem_append.mp hx with hx | hx
        · exact FF.ok x hx
        · rw [List.mem_singleton.mp hx]; exact ⟨hz,z0,by show _ % 67≤120; omega⟩
  · rintro σ H2 ⟨n',v3,v4,was,ps,rfl,s2,hps,DD,hw,hlw,FF,hne⟩;refine ⟨_,rfl,q l was ps H2 s2 (fun a ha=>?_) FF (hne (by omega)) DD⟩;rcases List.mem_cons.mp ha with rfl | ha
    · exact hl
    · exact hps a ha
theorem Zii {f:Addr} {fd:FuncData} (F:Fun K "_law_do" "_law_do" ZaI f fd) (T:Txt K g mg) (QbJ:Dm P w0 K mg base (CXR P w0 base) g.World 4 "comes" ["self","word"] (Zab K g)) (QbK:Dm P w0 K mg base (CXR P w0 base) g.World 2 "pass_years" ["self","many"] (Xk K g)) (QbL:Dm P w0 K mg base (CXR P w0 base) g.World 5 "arrive" ["self","word","age"] (JC K g)) (QbM:Dm P w0 K mg base (CXR P w0 base) g.World 5 "birth" ["self","name"] (Zac K g)) (QbN:Dm P w0 K mg base (CXR P w0 base) g.World 5 "death" ["self","name"] (Zaa K g)):FnOk P w0 K mg base CX0 6 f fd ["_law_world","_law_deed"] (ZcE K g):=by
  refine F.ok Zh6 (fun vs H Q E h=>?_) (fun cdv A outer s H vs Q E hr h=>?_)
  · obtain ⟨w,S,R,p,d,far,k,rfl,_⟩:=h;rfl
  obtain ⟨w,S,R,p,d,far,k,rfl,W,hp,O,hk,hg,hfar,q⟩:=h;refine ⟨_,(
(@Ze _ _ _ _ _ (@Zy _ _ _ _ _ _ _ _ (@Zp _ _ _ _ _ _ _ _ (@Ya _) (@Zt _ _ _ _ _ _ _ (@Zr _) (by walk_at "1") (@Zf _ _ _ _) (fun _ _=>rfl)) (@Zo _ _ _ _) (Zu _)) (@Zg _ _ _ (@Zm _ _ _ _ (@ZL _ _ _ _ _ _ _ _ _ _ _ _ _ _ _ _ Xr QbK (hr.mono (by decide)) (by walk_at "0") (@Za _ _ _ _ _ (@Zt _ _ _ _ _ _ _ (@Zr _) (by walk_at "1") (@Zf _ _ _ _) (fun _ _=>rfl)) (@Zc _) (by rfl)) (by rfl) (by rfl) (by rfl)))) (@Zq _)) (@Ze _ _ _ _ _ (@Zy _ _ _ _ _ _ _ _ (@Zp _ _ _ _ _ _ _ _ (@Ya _) (@Zt _ _ _ _ _ _ _ (@Zr _) (by walk_at "1") (@Zf _ _ _ _) (fun _ _=>rfl)) (@Zo _ _ _ _) (Zu _)) (@Zg _ _ _ (@Zm _ _ _ _ (@ZL _ _ _ _ _ _ _ _ _ _ _ _ _ _ _ _ Xr QbL (hr.mono (by decide)) (by walk_at "0") (@Za _ _ _ _ _ (@Zt _ _ _ _ _ _ _ (@Zr _) (by walk_at "1") (@Zf _ _ _ _) (fun _ _=>rfl)) (@Za _ _ _ _ _ (@Zt _ _ _ _ _ _ _ (@Zr _) (by walk_at "1") (@Zf _ _ _ _) (fun _ _=>rfl)) (@Zc _) (by rfl)) (by rfl)) (by rfl) (by rfl) (by rfl)))) (@Zq _)) (@Ze _ _ _ _ _ (@Zy _ _ _ _ _ _ _ _ (@Zp _ _ _ _ _ _ _ _ (@Ya _) (@Zt _ _ _ _ _ _ _ (@Zr _) (by walk_at "1") (@Zf _ _ _ _) (fun _ _=>rfl)) (@Zo _ _ _ _) (Zu _)) (@Zg _ _ _ (@Zm _ _ _ _ (@ZL _ _ _ _ _ _ _ _ _ _ _ _ _ _ _ _ Xr QbM (hr.mono (by decide)) (by walk_at "0") (@Za _ _ _ _ _ (@Zt _ _ _ _ _ _ _ (@Zr _) (by walk_at "1") (@Zf _ _ _ _) (fun _ _=>rfl)) (@Zc _) (by rfl)) (by rfl) (by rfl) (by rfl)))) (@Zq _)) (@Ze _ _ _ _ _ (@Zy _ _ _ _ _ _ _ _ (@Zp _ _ _ _ _ _ _ _ (@Ya _) (@Zt _ _ _ _ _ _ _ (@Zr _) (by walk_at "1") (@Zf _ _ _ _) (fun _ _=>rfl)) (@Zo _ _ _ _) (Zu _)) (@Zg _ _ _ (@Zm _ _ _ _ (@ZL _ _ _ _ _ _ _ _ _ _ _ _ _ _ _ _ Xr QbN (hr.mono (by decide)) (by walk_at "0") (@Za _ _ _ _ _ (@Zt _ _ _ _ _ _ _ (@Zr _) (by walk_at "1") (@Zf _ _ _ _) (fun _ _=>rfl)) (@Zc _) (by rfl)) (by rfl) (by rfl) (by rfl)))) (@Zq _)) (@Zg _ _ _ (@Zm _ _ _ _ (@ZL _ _ _ _ _ _ _ _ _ _ _ _ _ _ _ _ Xr QbJ (hr.mono (by decide)) (by walk_at "0") (@Za _ _ _ _ _ (@Zt _ _ _ _ _ _ _ (@Zr _) (by walk_at "1") (@Zf _ _ _ _) (fun _ _=>rfl)) (@Zc _) (by rfl)) (by rfl) (by rfl) (by rfl))))))))),?_⟩
  have lb:=O.lb;have ld:=O.ld;have lc:=O.lc;obtain ⟨dx,b,hd,RL,hw,L,hh,eR,n1,n2⟩:=W.ex;cases d with
  | arrive ww aa =>
    refine ⟨_,rfl,p,_,_,_,rfl,rfl,SqT.of hp,rfl,rfl,_,rfl,YI (by decide +kernel) ?_⟩;refine ⟨_,rfl,p,_,_,_,rfl,rfl,SqT.of hp,rfl,rfl,_,rfl,Zcs ?_⟩;refine ⟨_,rfl,w,dx,_,rfl,hw,rfl,_,rfl,p,_,_,_,rfl,rfl,SqT.of hp,rfl,_,rfl,p,_,_,_,rfl,rfl,SqT.of hp,rfl,w,S,R,ww,aa,rfl,W,by have:=(ZfE hg.1).2; omega,by omega,(fun e=>absurd hg.2.2 e),(fun _ e=>by rw [hg.1] at e; cases e),(fun _ _ e=>by rw [hg.2.1] at e; cases e),fun _ _ _ R' H' kp gr W'=>?_⟩;exact q _ R' H' kp gr W'
  | birth nn =>
    refine ⟨_,rfl,p,_,_,_,rfl,rfl,SqT.of hp,rfl,rfl,_,rfl,YI (by decide +kernel) ?_⟩;refine ⟨_,rfl,p,_,_,_,rfl,rfl,SqT.of hp,rfl,rfl,_,rfl,YI (by decide +kernel) ?_⟩;refine ⟨_,rfl,p,_,_,_,rfl,rfl,SqT.of hp,rfl,rfl,_,rfl,Zcs ?_⟩;refine ⟨_,rfl,w,dx,_,rfl,hw,rfl,_,rfl,p,_,_,_,rfl,rfl,SqT.of hp,rfl,w,S,R,nn,rfl,W,by omega,by have:=O.few nn; omega,(fun e=>by rw [hg.1] at e; cases e),(fun _ e=>by rw [hg.2.1] at e; cases e),(fun _ _ e=>by have:=hg.2.2; omega),fun _ _ _ R' H' kp gr W'=>?_⟩;exact q _ R' H' kp gr W'
  | death nn =>
    refine ⟨_,rfl,p,_,_,_,rfl,rfl,SqT.of hp,rfl,rfl,_,rfl,YI (by decide +kernel) ?_⟩;refine ⟨_,rfl,p,_,_,_,rfl,rfl,SqT.of hp,rfl,rfl,_,rfl,YI (by decide +kernel) ?_⟩;refine ⟨_,rfl,p,_,_,_,rfl,rfl,SqT.of hp,rfl,rfl,_,rfl,YI (by decide +kernel) ?_⟩;refine ⟨_,rfl,p,_,_,_,rfl,rfl,SqT.of hp,rfl,rfl,_,rfl,Zcs ?_⟩;refine ⟨_,rfl,w,dx,_,rfl,hw,rfl,_,rfl,p,_,_,_,rfl,rfl,SqT.of hp,rfl,w,S,R,nn,rfl,W,by omega,(fun e=>by rw [hg.1] at e; cases e),(fun _ e=>by rw [hg.2] at e; cases e),fun _ _ H' kp W'=>?_⟩;exact q _ R H' kp (ZaB.refl _ _) W'
  | comes ww =>
    refine ⟨_,rfl,p,_,_,_,rfl,rfl,SqT.of hp,rfl,rfl,_,rfl,YI (by decide +kernel) ?_⟩;refine ⟨_,rfl,p,_,_,_,rfl,rfl,SqT.of hp,rfl,rfl,_,rfl,YI (by decide +kernel) ?_⟩;refine ⟨_,rfl,p,_,_,_,rfl,rfl,SqT.of hp,rfl,rfl,_,rfl,YI (by decide +kernel) ?_⟩;refine ⟨_,rfl,p,_,_,_,rfl,rfl,SqT.of hp,rfl,rfl,_,rfl,YI (by decide +kernel) ?_⟩;refine ⟨_,rfl,w,dx,_,rfl,hw,rfl,_,rfl,p,_,_,_,rfl,rfl,SqT.of hp,rfl,w,S,R,ww,rfl,W,by have:=(ZfE hg.1).2; omega,by omega,(fun e=>by rw [hg.1] at e; cases e),(fun _ e=>by rw [hg.2] at e; cases e),fun _ _ H' kp W'=>?_⟩;exact q _ R H' kp (ZaB.refl _ _) W'
  | years kk =>
    refine ⟨_,rfl,p,_,_,_,rfl,rfl,SqT.of hp,rfl,rfl,_,rfl,Zcs ?_⟩;refine ⟨_,rfl,w,dx,_,rfl,hw,rfl,_,rfl,p,_,_,_,rfl,rfl,SqT.of hp,rfl,w,S,R,kk,rfl,W,(fun e=>absurd ⟨hg.1,by have:=hg.2; omega⟩ e),fun _ H' kp W'=>?_⟩;exact q _ R H' kp (ZaB.refl _ _) W'
theorem Zgo {f:Addr} {fd:FuncData} (F:Fun K "_law_path" "_law_path" Jh f fd) (T:Txt K g mg)  : FnOk P w0 K mg base CX0 1 f fd ["_law_model_here","_law_n"] (Zap K g):=by
  refine F.ok Y8 (fun vs H Q E h=>?_) (fun cdv A outer s H vs Q E hr h=>?_)
  · obtain ⟨m,S,R,n,rfl,_⟩:=h;rfl
  obtain ⟨m,S,R,n,rfl,M,W,hlen,⟨w0,hw0,_⟩,q⟩:=h;refine ⟨_,(
(@Ze _ _ _ _ _ (@Zw _ _ (2) _ _ _ _ Y8.nd rfl (Or.inl rfl) (@YG _ _ _ _ _ _ _ _ _ (@Zeq _ rfl) rfl T.z_list boot_list (@Za _ _ _ _ _ (@Zt _ _ _ _ _ _ _ (@Zr _) (by walk_at "0") (@Zf _ _ _ _) (fun _ _=>rfl)) (@Zc _) (by rfl)) (by decide) (by decide) (by rfl) (by rfl)) (by rfl) (by walk_at "u")) (@Ze _ _ _ _ _ (@Zw _ _ (3) _ _ _ _ Y8.nd rfl (Or.inl rfl) (@Zt _ _ _ _ _ _ _ (@Z2 _) (by walk_at "2") (@Zn _ _ _ _ _ _ _ _ (@ZM _) (by walk_at "1") (@ZD _ _ _ _ _ _ _ _ _ (@ZQ _) rfl T.z_len boot_len (@Za _ _ _ _ _ (by walk_at "2") (@Zc _) (by rfl)) (by decide) (by decide) (by rfl) (by rfl))) (fun _ _=>rfl)) (by rfl) (by walk_at "u")) (@Ze _ _ _ _ _ (@Zw _ _ (1) _ _ _ _ Y8.nd rfl (Or.inl rfl) (@Zn _ _ _ _ _ _ _ _ (@ZT _) (by walk_at "1") (@ZD _ _ _ _ _ _ _ _ _ (@ZQ _) rfl T.z_len boot_len (@Za _ _ _ _ _ (by walk_at "2") (@Zc _) (by rfl)) (by decide) (by decide) (by rfl) (by rfl))) (by rfl) (by walk_at "u")) (@Ze _ _ _ _ _ (@Za0 _ _ _ _ _ _ _ _ PassesOwn.never rfl (@ZaL _ _ _ _ _ _ rfl T.z_range (@Za _ _ _ _ _ (@Zt _ _ _ _ _ _ _ (@Z2 _) (@Ym _ _ _ _ (@Za _ _ _ _ _ (@Zf _ _ _ _) (@Za _ _ _ _ _ (@Zf _ _ _ _) (@Za _ _ _ _ _ (@Zf _ _ _ _) (@Za _ _ _ _ _ (@Zf _ _ _ _) (@Za _ _ _ _ _ (@Zf _ _ _ _) (@Zc _) (by rfl)) (by rfl)) (by rfl)) (by rfl)) (by rfl))) (@Zn _ _ _ _ _ _ _ _ (@ZM _) (by walk_at "1") (@Zf _ _ _ _)) (fun _ _=>rfl)) (@Zc _) (by rfl)) (by rfl)) (@Yk _ _ (4) _ Y8.nd rfl (Or.inl rfl) (by walk_at "u")) (@Ze _ _ _ _ _ (@Zw _ _ (1) _ _ _ _ Y8.nd rfl (Or.inl rfl) (@Zn _ _ _ _ _ _ _ _ (@ZT _) (by walk_at "1") (@Zf _ _ _ _)) (by rfl) (by walk_at "u")) (@Zg _ _ _ (@Zy _ _ _ _ _ _ _ _ (@Zp _ _ _ _ _ _ _ _ (@Zbr _) (@Xq _ _ _ _ _ _ _ _ _ _ _ _ plainAttrs_str slot_str_count type_str_count (@ZaO _) (by walk_at "3") (@Za _ _ _ _ _ (@Zo _ _ _ _) (@Zc _) (by rfl)) (by rfl) (by rfl) (by rfl) (by rfl) (by rfl)) (@Zf _ _ _ _) (Zu _)) (@Zg _ _ _ (@Zw _ _ (3) _ _ _ _ Y8.nd rfl (Or.inl rfl) (@Zn _ _ _ _ _ _ _ _ (@YK _) (@Zn _ _ _ _ _ _ _ _ (@YK _) (by walk_at "3") (@Zo _ _ _ _)) (@YG _ _ _ _ _ _ _ _ _ (@JS _) rfl T.z_str boot_str (@Za _ _ _ _ _ (@Zn _ _ _ _ _ _ _ _ (@Z6 _) (@Zf _ _ _ _) (@Zn _ _ _ _ _ _ _ _ (@ZM _) (by walk_at "1") (@Zf _ _ _ _))) (@Zc _) (by rfl)) (by decide) (by decide) (by rfl) (by rfl))) (by rfl) (by walk_at "u"))) (@Zq _)))) (by intro _ ; rfl)) (@Zg _ _ _ (@Zm _ _ _ _ (by walk_at "3")))))))),?_⟩
  obtain ⟨c,e1,e2,e3,B⟩:=M.tup_of;refine ⟨_,rfl,m,_,_,_,rfl,rfl,SqT.of B.tup,rfl,e1,_,rfl, .inl B.h1,fun l hl=>?_⟩;rw [keysK];have s1:=Zi hl (.lst ((Xs S.bs).map V.str));have hl1:upd H l (.lst ((Xs S.bs).map V.str)) l=some (.lst ((Xs S.bs).map V.str)):=Zd;generalize upd H l (.lst ((Xs S.bs).map V.str))=H1 at s1 hl1 ⊢;have kl:((Xs S.bs).map V.str).length=S.bs.length:=by unfold Xs; rw [length_map,length_map]
  have hpos0:0<S.bs.length:=by
    have:=(ZbH S.bs w0).mp hw0;cases e:S.bs with
    | nil=>rw [e] at this; cases this
    | cons x r=>simp
  have hpos:(0:Int)<(((Xs S.bs).map V.str).length:Nat):=by omega
  obtain ⟨v,hv⟩:=Zhl (xs:=(Xs S.bs).map V.str) (emod_nonneg n (show ((((Xs S.bs).map V.str).length:Nat):Int)≠0 by omega)) (emod_lt_of_pos n hpos);obtain ⟨nm,rfl,hnm⟩:∃ nm,v = .str nm∧has S.bs nm=true:=by
    unfold atI at hv;obtain ⟨j,_,e⟩:=Option.bind_eq_some_iff.mp hv;exact Zko e
  refine ⟨_,rfl,_,rfl,_,rfl,_,_,rfl, .inl ⟨_,SqL.of hl1,rfl⟩,_,_,rfl,rfl,hpos,l,_,_,_,rfl,rfl,SqL.of hl1,hv,?_⟩;refine ⟨_,rfl,_,rfl,_,_,rfl, .inl ⟨_,SqL.of hl1,rfl⟩,_,_,rfl,rfl,⟨hpos,by omega⟩,?_⟩;refine ⟨(by show 5≤sizeLine; decide),fun l2 hl2=>?_⟩;have s2:=Zi hl2 (.lst [V.int 0, .int 1, .int 0, .int 2, .int 1]);have z0:=emod_nonneg (n / ((((Xs S.bs).map V.str).length:Nat):Int)) (show (5:Int)≠0 by decide);have z1:=emod_lt_of_pos (n / ((((Xs S.bs).map V.str).length:Nat):Int)) (show (0:Int)<5 by decide);obtain ⟨t,ht,ht2⟩:∃ t:Nat,atI [V.int 0, .int 1, .int 0, .int 2, .int 1] ((n / ((((Xs S.bs).map V.str).length:Nat):Int)) % 5)=some (.int (t:Int))∧t≤2:=by
    rcases (show (n / ((((Xs S.bs).map V.str).length:Nat):Int)) % 5=0∨(n / ((((Xs S.bs).map V.str).length:Nat):Int)) % 5=1∨(n / ((((Xs S.bs).map V.str).length:Nat):Int)) % 5=2∨(n / ((((Xs S.bs).map V.str).length:Nat):Int)) % 5=3∨(n / ((((Xs S.bs).map V.str).length:Nat):Int)) % 5=4 by omega) with e | e | e | e | e <;> rw [e]
    · exact ⟨0,rfl,by decide⟩
    · exact ⟨1,rfl,by decide⟩
    · exact ⟨0,rfl,by decide⟩
    · exact ⟨2,rfl,by decide⟩
    · exact ⟨1,rfl,by decide⟩
  refine ⟨_,rfl,_,_,rfl,rfl,(by show (0:Int)<5; decide),l2,_,_,_,rfl,rfl,SqL.of Zd,ht,?_⟩;have d5:∀ x:Str,pok x=true→Xv x≤5:=fun x hx=>by
    unfold pok at hx;simp only [and_eq_true,decide_eq_true_eq] at hx;rw [Za3]; exact hx.1.2
  have nn:nr S.bs nm≠Str.empty:=by
    have h0:nm.length≠0:=fun e=>by rw [len0 e,Zks W] at hnm; cases hnm
    rw [ZaA h0 hnm];exact fun e=>h0 (by rw [e]; rfl)
  refine ⟨_,rfl,by omega,by omega,ZbI (n:=(t:Int).toNat) (fun i σ H2=>∃ (n2:Int) (z:Str) (v4:Option V),σ=[some (.ref m),some (.int n2),some (.ref l),some (.str z),v4]∧Zj H H2∧pok z=true∧nr S.bs z≠Str.empty) ⟨(n / ((((Xs S.bs).map V.str).length:Nat):Int)),nm,none,rfl,s1.trans s2,W.wrt nm hnm,nn⟩ ?_ ?_⟩
  · rintro i σ H2 hi ⟨n2,z,v4,rfl,s3,hz,hnz⟩;refine ⟨_,rfl,_,_,rfl,rfl,⟨by decide,by decide⟩,?_⟩;refine ⟨_,rfl,rfl,z,dot,rfl,rfl,_,_,rfl,rfl,_,rfl,Yj (fun cc=>?_) (fun _=>⟨_,z,_,rfl,s3,hz,hnz⟩)⟩;have hd:Xv z<5:=by have w:=of_decide_eq_true cc; unfold Xv; omega
    have zl:=Xh hz;have y0:=emod_nonneg (n2 / 5) (show (3:Int)≠0 by decide);have y1:=emod_lt_of_pos (n2 / 5) (show (0:Int)<3 by decide);obtain ⟨j,hj,hj3⟩:∃ j:Nat,1+n2 / 5 % 3=(j:Int)+1∧j<3:=⟨(n2 / 5 % 3).toNat,by omega,by omega⟩;have c1:(0:Int)≤(j:Int)+1:=by omega
    have c2:(j:Int)+1<131:=by omega
    have tl:=Ze1 c1 c2;refine ⟨_,rfl,z,_,rfl,rfl,ZE (by show z.length+1≤500; omega),_,rfl,_,_,rfl,rfl,(by show (0:Int)<3; decide),_,_,rfl,rfl,(j:Int)+1,(by show [V.int (1+n2 / 5 % 3)]=_; rw [hj]),ZaP c1 c2,_,_,rfl,rfl,ZE (by rw [show (z++(".":Str)).length=z.length+1 from XS _ _]; omega),?_⟩;refine ⟨_,kid z j,_,rfl,s3,Zhy hz hd (by omega),?_⟩;rw [Zg7];split
    · exact fun e=>Zcp z j (by rw [e]; rfl)
    · exact hnz
  · rintro σ H2 ⟨n2,z,v4,rfl,s3,hz,hnz⟩;exact ⟨_,rfl,q z H2 s3 hz hnz⟩
theorem Zgp {f:Addr} {fd:FuncData} (F:Fun K "_law_need" "_law_need" Ji f fd) (T:Txt K g mg) (QaX:Dn P w0 K mg base 1 "_law_path" ["_law_model_here","_law_n"] (Zap K g)) (Qan:Dn P w0 K mg base 1 "_law_word" ["_law_n"] (Jx K g)):FnOk P w0 K mg base CX0 2 f fd ["_law_model_here","_law_n"] (Zbf K g):=by
  refine F.ok Zas (fun vs H Q E h=>?_) (fun cdv A outer s H vs Q E hr h=>?_)
  · obtain ⟨m,S,R,n,rfl,_⟩:=h;rfl
  obtain ⟨m,S,R,n,rfl,M,W,hlen,RT,q⟩:=h;refine ⟨_,(
(@Ze _ _ _ _ _ (@Zw _ _ (2) _ _ _ _ Zas.nd rfl (Or.inl rfl) (@Zn _ _ _ _ _ _ _ _ (@ZM _) (by walk_at "1") (@Zf _ _ _ _)) (by rfl) (by walk_at "u")) (@Ze _ _ _ _ _ (@Zw _ _ (1) _ _ _ _ Zas.nd rfl (Or.inl rfl) (@Zn _ _ _ _ _ _ _ _ (@ZT _) (by walk_at "1") (@Zf _ _ _ _)) (by rfl) (by walk_at "u")) (@Ze _ _ _ _ _ (@Zy _ _ _ _ _ _ _ _ (@Zp _ _ _ _ _ _ _ _ (@Ya _) (by walk_at "2") (@Zf _ _ _ _) (Zu _)) (@Zg _ _ _ (@Zm _ _ _ _ (@Yd _ _ _ _ _ (@Za _ _ _ _ _ (@Zo _ _ _ _) (@Za _ _ _ _ _ (@Zn _ _ _ _ _ _ _ _ (@ZM _) (@Zt _ _ _ _ _ _ _ (@Z2 _) (@Ym _ _ _ _ (@Za _ _ _ _ _ (@ZD _ _ _ _ _ _ _ _ _ (@ZbK _ rfl) rfl T.z_max boot_max (@Za _ _ _ _ _ (@Zf _ _ _ _) (@Za _ _ _ _ _ (@Zn _ _ _ _ _ _ _ _ (@Zaz _) (@Zn _ _ _ _ _ _ _ _ (@Z6 _) (@Zt _ _ _ _ _ _ _ (@Z2 _) (@Zt _ _ _ _ _ _ _ (@Zr _) (by walk_at "0") (@Zf _ _ _ _) (fun _ _=>rfl)) (@Zf _ _ _ _) (fun _ _=>rfl)) (@Zn _ _ _ _ _ _ _ _ (@ZM _) (by walk_at "1") (@Zf _ _ _ _))) (@Zf _ _ _ _)) (@Zc _) (by rfl)) (by rfl)) (by decide) (by decide) (by rfl) (by rfl)) (@Za _ _ _ _ _ (@Zn _ _ _ _ _ _ _ _ (@ZT _) (by walk_at "1") (@Zf _ _ _ _)) (@Zc _) (by rfl)) (by rfl))) (@Zn _ _ _ _ _ _ _ _ (@ZM _) (@Zn _ _ _ _ _ _ _ _ (@ZT _) (by walk_at "1") (@Zf _ _ _ _)) (@Zf _ _ _ _)) (fun _ _=>rfl)) (@Zf _ _ _ _)) (@Zc _) (by rfl)) (by rfl))))) (@Zq _)) (@Ze _ _ _ _ _ (@Zy _ _ _ _ _ _ _ _ (@Zp _ _ _ _ _ _ _ _ (@Ya _) (by walk_at "2") (@Zf _ _ _ _) (Zu _)) (@Zg _ _ _ (@Zm _ _ _ _ (@Yd _ _ _ _ _ (@Za _ _ _ _ _ (@Zo _ _ _ _) (@Za _ _ _ _ _ (@Zt _ _ _ _ _ _ _ (@Z2 _) (@Ym _ _ _ _ (@Za _ _ _ _ _ (@Zo _ _ _ _) (@Za _ _ _ _ _ (@Zo _ _ _ _) (@Za _ _ _ _ _ (@Zo _ _ _ _) (@Za _ _ _ _ _ (@Zv _ _ _ _ _ _ _ _ _ _ Qan (hr.mono (by decide)) (@Za _ _ _ _ _ (@Zn _ _ _ _ _ _ _ _ (@ZT _) (by walk_at "1") (@Zf _ _ _ _)) (@Zc _) (by rfl)) (by rfl) (by decide) (by rfl) (by rfl)) (@Zc _) (by rfl)) (by rfl)) (by rfl)) (by rfl))) (@Zn _ _ _ _ _ _ _ _ (@ZM _) (by walk_at "1") (@Zf _ _ _ _)) (fun _ _=>rfl)) (@Zc _) (by rfl)) (by rfl))))) (@Zq _)) (@Ze _ _ _ _ _ (@Zw _ _ (3) _ _ _ _ Zas.nd rfl (Or.inl rfl) (@Zv _ _ _ _ _ _ _ _ _ _ QaX (hr.mono (by decide)) (@Za _ _ _ _ _ (by walk_at "0") (@Za _ _ _ _ _ (@Zn _ _ _ _ _ _ _ _ (@ZT _) (by walk_at "1") (@Zf _ _ _ _)) (@Zc _) (by rfl)) (by rfl)) (by rfl) (by decide) (by rfl) (by rfl)) (by rfl) (by walk_at "u")) (@Ze _ _ _ _ _ (@Zy _ _ _ _ _ _ _ _ (@Zp _ _ _ _ _ _ _ _ (@Zbr _) (by walk_at "2") (@Zf _ _ _ _) (Zu _)) (@Zg _ _ _ (@Zm _ _ _ _ (@Yd _ _ _ _ _ (@Za _ _ _ _ _ (@Zt _ _ _ _ _ _ _ (@Z2 _) (@Ym _ _ _ _ (@Za _ _ _ _ _ (@Zo _ _ _ _) (@Za _ _ _ _ _ (@Zo _ _ _ _) (@Za _ _ _ _ _ (@Zo _ _ _ _) (@Zc _) (by rfl)) (by rfl)) (by rfl))) (@Zn _ _ _ _ _ _ _ _ (@Zaz _) (by walk_at "2") (@Zf _ _ _ _)) (fun _ _=>rfl)) (@Za _ _ _ _ _ (by walk_at "3") (@Zc _) (by rfl)) (by rfl))))) (@Zq _)) (@Zg _ _ _ (@Zm _ _ _ _ (@Yd _ _ _ _ _ (@Za _ _ _ _ _ (@Zo _ _ _ _) (@Za _ _ _ _ _ (by walk_at "3") (@Za _ _ _ _ _ (@Zt _ _ _ _ _ _ _ (@Z2 _) (@Ym _ _ _ _ (@Za _ _ _ _ _ (@Zn _ _ _ _ _ _ _ _ (@ZM _) (by walk_at "1") (@Zf _ _ _ _)) (@Za _ _ _ _ _ (@Zn _ _ _ _ _ _ _ _ (@ZM _) (by walk_at "1") (@Zf _ _ _ _)) (@Zc _) (by rfl)) (by rfl))) (@Zn _ _ _ _ _ _ _ _ (@ZM _) (@Zn _ _ _ _ _ _ _ _ (@ZT _) (by walk_at "1") (@Zf _ _ _ _)) (@Zf _ _ _ _)) (fun _ _=>rfl)) (@Zc _) (by rfl)) (by rfl)) (by rfl)))))))))))),?_⟩
  obtain ⟨c,e1,e2,e3,B⟩:=M.tup_of;have htup:=B.tup;have hclk:=B.clk;have b0:=emod_nonneg n (show (8:Int)≠0 by decide);have b1:=emod_lt_of_pos n (show (0:Int)<8 by decide);walk_at "go";refine Yj (fun c0=>?_) (fun c0=>?_)
  · walk_at "go";intro l hl;have s1:=Zi hl (.lst [V.int (if S.y+n / 8 % 97 - 20>0 then S.y+n / 8 % 97 - 20 else 0), .int (n / 8 / 97)]);obtain ⟨v,hv,hv'⟩:=Zg0 (a:=V.int (if S.y+n / 8 % 97 - 20>0 then S.y+n / 8 % 97 - 20 else 0)) (b := .int (n / 8 / 97)) (n / 8 / 9);obtain ⟨y,rfl⟩:∃ y:Int,v = .int y:=by rcases hv' with e | e <;> exact ⟨_,e⟩
    walk_at "go";intro p hp;have y0:=emod_nonneg y (show (10000:Int)≠0 by decide);have y1:=emod_lt_of_pos y (show (0:Int)<10000 by decide);exact q (.year (y % 10000)) p _ (s1.trans (Zi hp _)) (s1.free hp) Zd ⟨y0,y1⟩
  have k0:n % 8≠0:=fun e=>c0 (decide_eq_true (congrArg V.int e));walk_at "go";refine Yj (fun c1=>?_) (fun c1=>?_)
  · walk_at "go";intro z hz;walk_at "go";intro l hl;have s1:=Zi hl (.lst [V.str "war",V.str "flood",V.str "a",V.str z]);have z0:=emod_nonneg (n / 8) (show (4:Int)≠0 by omega);have z1:=emod_lt_of_pos (n / 8) (show (0:Int)<4 by omega);obtain ⟨y,hy,gy⟩:=pick4 hz z0 z1;walk_at "go";intro p hp;exact q (.comes y) p _ (s1.trans (Zi hp _)) (s1.free hp) Zd gy
  have k1:n % 8≠1:=fun e=>c1 (decide_eq_true (congrArg V.int e));walk_at "go";intro z H1 s1 hz hnz;walk_at "go";refine Yj (fun c2=>?_) (fun c2=>?_)
  · have k2:n % 8<5:=of_decide_eq_true c2;walk_at "go";intro l hl;have s2:=Zi hl (.lst [V.str "born",V.str "dead",V.str "dead"]);obtain ⟨v,hv,hv'⟩:∃ v:Str,atI [V.str "born",V.str "dead",V.str "dead"] (n % 8 - 2)=some (.str v)∧(v="born"∨v="dead"):=by
      rcases (show n % 8=2∨n % 8=3∨n % 8=4 by omega) with e | e | e <;> rw [e]
      · exact ⟨_,rfl, .inl rfl⟩
      · exact ⟨_,rfl, .inr rfl⟩
      · exact ⟨_,rfl, .inr rfl⟩
    walk_at "go";intro p hp;rcases hv' with rfl | rfl
    · exact q (.born z) p _ ((s1.trans s2).trans (Zi hp _)) ((s1.trans s2).free hp) Zd ⟨hz,hnz⟩
    · exact q (.dead z) p _ ((s1.trans s2).trans (Zi hp _)) ((s1.trans s2).free hp) Zd ⟨hz,hnz⟩
  · walk_at "go";intro l hl;have s2:=Zi hl (.lst [V.int (n / 8 % 37), .int (n / 8 % 121)]);have x0:=emod_nonneg (n / 8) (show (37:Int)≠0 by decide);have x1:=emod_lt_of_pos (n / 8) (show (0:Int)<37 by decide);have x2:=emod_nonneg (n / 8) (show (121:Int)≠0 by decide);have x3:=emod_lt_of_pos (n / 8) (show (0:Int)<121 by decide);obtain ⟨v,hv,hv'⟩:=Zg0 (a:=V.int (n / 8 % 37)) (b := .int (n / 8 % 121)) (n / 8 / 121);obtain ⟨y,rfl,y0,y1⟩:∃ y:Int,v = .int y∧0≤y∧y≤120:=by
      rcases hv' with e | e
      · exact ⟨_,e,x0,by omega⟩
      · exact ⟨_,e,x2,by omega⟩
    walk_at "go";intro p hp;exact q (.age z y) p _ ((s1.trans s2).trans (Zi hp _)) ((s1.trans s2).free hp) Zd ⟨⟨hz,hnz⟩,y0,y1⟩
theorem Zfm {f:Addr} {fd:FuncData} (F:Fun K "_law_needs" "_law_needs" XA f fd) (T:Txt K g mg) (QbO:Dn P w0 K mg base 2 "_law_need" ["_law_model_here","_law_n"] (Zbf K g)) (Qaz:Dn P w0 K mg base 1 "_law_rich" ["_law_cell","_law_place"] (Zao K g)):FnOk P w0 K mg base CX0 3 f fd ["_law_model_here","_law_n","_law_most"] (ZaU K g):=by
  refine F.ok Ze7 (fun vs H Q E h=>?_) (fun cdv A outer s H vs Q E hr h=>?_)
  · obtain ⟨m,S,R,n,most,rfl,_⟩:=h;rfl
  obtain ⟨m,S,R,n,most,rfl,M,W,hlen,RT,h0,h100,q⟩:=h;refine ⟨_,(
(@Zg _ _ _ (@Zm _ _ _ _ (@ZaM _ _ _ ("_law_k") _ _ _ ([("_law_n",s.heap.objs.size+2),("_law_model_here",s.heap.objs.size+1)]) _ ([("_law_model_here",0),("_law_n",1)]) _ _ _ rfl (@ZaL _ _ _ _ _ _ rfl T.z_range (@Za _ _ _ _ _ (@Zn _ _ _ _ _ _ _ _ (@ZM _) (by walk_at "1") (@Zn _ _ _ _ _ _ _ _ (@Z6 _) (by walk_at "2") (@Zf _ _ _ _))) (@Zc _) (by rfl)) (by rfl)) (fun _ _ _ _ _=>(@Zai _)) (fun _ _ _ _ _=>(@Zv _ _ _ _ _ _ _ _ _ _ QbO (hr.mono (by decide)) (@Za _ _ _ _ _ (by walk_at "1") (@Za _ _ _ _ _ (@Zv _ _ _ _ _ _ _ _ _ _ Qaz (hr.mono (by decide)) (@Za _ _ _ _ _ (@Zn _ _ _ _ _ _ _ _ (@Z6 _) (@Zn _ _ _ _ _ _ _ _ (@ZM _) (by walk_at "2") (@Zf _ _ _ _)) (@Zn _ _ _ _ _ _ _ _ (@Zbq _) (@Zf _ _ _ _) (by walk_at "0"))) (@Za _ _ _ _ _ (@Zn _ _ _ _ _ _ _ _ (@Z6 _) (by walk_at "0") (@Zf _ _ _ _)) (@Zc _) (by rfl)) (by rfl)) (by rfl) (by decide) (by rfl) (by rfl)) (@Zc _) (by rfl)) (by rfl)) (by rfl) (by decide) (by rfl) (by rfl))) rfl (by decide +kernel) rfl (by decide +kernel) rfl (fun _ _ h=>h) (YL rfl) (fun p hp=>by simp only [mem_cons,not_mem_nil,or_false] at hp; rcases hp with rfl | rfl <;> exact ⟨rfl,rfl,by first | exact .inl rfl | exact .inr rfl⟩) (by decide +kernel) (by intro _ ; rfl))))),?_⟩
  have hp1:0<most+1:=by omega
  have b0:=emod_nonneg n (show most+1≠0 by omega);have b1:=emod_lt_of_pos n hp1;have b2 : -(2 ^ 62)≤n % (most+1):=by omega
  have b3:n % (most+1)<2 ^ 62:=by omega
  walk_at "go";refine lcR (n:=(n % (most+1)).toNat) (by omega) (fun _=>true) (fun _ v H2=>∃ p t,v=V.ref p∧H2 p=some (.tup (Atm.vals t))∧t.ok S∧H p=none) ZjW (fun i H2 hi s R0 r=>r H2 (Zj.refl _)) (fun i H2 hi _ s R0 r=>?_) (fun D ys H2 hD s h2 hp=>?_)
  · have M2:=M.same s;walk_at "go";intro r1;walk_at "go";intro t p H3 s3 hp ht ok;exact r _ H3 s3 ⟨p,t,rfl,ht,ok,s.free hp⟩
  · obtain ⟨ts,ps,A,o,fr,hl⟩:=ZhV h2 hp;rw [Zhg,length_range] at hl;exact q D ts ps H2 s (fun a ha=>by rcases List.mem_cons.mp ha with rfl | ha; exact hD; exact fr a ha) A o (by omega)
theorem Zgq {f:Addr} {fd:FuncData} (F:Fun K "_law_near" "_law_near" Jk f fd) (T:Txt K g mg)  : FnOk P w0 K mg base CX0 1 f fd ["_law_model_here","_law_name"] (Zbg K g):=by
  refine F.ok Zbl (fun vs H Q E h=>?_) (fun cdv A outer s H vs Q E hr h=>?_)
  · obtain ⟨m,S,RM,n,rfl,_⟩:=h;rfl
  obtain ⟨m,S,RM,n,rfl,M,hx,q⟩:=h;refine ⟨_,(
(@Ze _ _ _ _ _ (@Zci _ _ _ _ _ _ PassesOwn.never (@PW.pt _ _ _ (@Zah _ _ _ _ _ _ _ (@Zp _ _ _ _ _ _ _ _ (@ZdT _) (by walk_at "1") (@Zo _ _ _ _) (Zu _)) (@Ju _ _ _ _ (@JH _ _ _ _ _ _ (@XI _ _ _ _ _ (Z9 hr) (by walk_at "1") (@Zt _ _ _ _ _ _ _ (@Zr _) (by walk_at "0") (@Zf _ _ _ _) (fun _ _=>rfl))) (by walk_at "n"))))) (@Zg _ _ _ (@Zy _ _ _ _ _ _ _ _ (@Zp _ _ _ _ _ _ _ _ (@Zie _) (@Zo _ _ _ _) (by walk_at "1") rfl) (@Zg _ _ _ (@Zw _ _ (1) _ _ _ _ Zbl.nd rfl (Or.inl rfl) (@Zcj _ _ _ _ _ _ _ _ _ _ (@ZiY _) (by walk_at "1") (@Zdp _) (@Zdo _ _ _ (@Xq _ _ _ _ _ _ _ _ _ _ _ _ plainAttrs_str PySem.F.slot_str_rfind PySem.F.type_str_rfind (@Zjk _) (by walk_at "1") (@Za _ _ _ _ _ (@Zo _ _ _ _) (@Zc _) (by rfl)) (by rfl) (by rfl) (by rfl) (by rfl) (by rfl)))) (by rfl) (by walk_at "u"))) (@Zg _ _ _ (@Zw _ _ (1) _ _ _ _ Zbl.nd rfl (Or.inl rfl) (@Zo _ _ _ _) (by rfl) (by walk_at "u")))))) (@Zg _ _ _ (@Zm _ _ _ _ (by walk_at "1"))))),?_⟩
  obtain ⟨c,e1,e2,e3,B⟩:=M.tup_of;refine ⟨fun mm σ H2=>∃ z:Str,mm=z.length∧σ=[some (.ref m),some (.str z)]∧z.length≤200∧nr S.bs z=nr S.bs n∧H2=H,⟨_,n,rfl,rfl,hx,rfl,rfl⟩,?_⟩;rintro mm σ H2 ⟨z,rfl,rfl,hz,hnr,rfl⟩;refine ⟨_,rfl,rfl,_,rfl,?_⟩
  by_cases h0:z.length=0
  · have e0:=len0 h0;rw [show (!decide (V.str z=V.str ""))=false by rw [e0]; decide +kernel];refine Yb (Yb ⟨_,rfl,?_⟩);have e:nr S.bs n=z:=by rw [← hnr,e0,Zeb]
    rw [← e];exact q
  · rw [show (!decide (V.str z=V.str ""))=true by rw [decide_eq_false (fun e=>h0 (by injection e with e; rw [e]; rfl))]; rfl];refine Yw ?_;refine ⟨_,rfl,_,rfl,m,_,_,_,rfl,rfl,SqT.of B.tup,rfl,e1,_,rfl,Yx.k (k:=Sum.inr z) B.h1,_,rfl,?_⟩;rw [Z4];cases hh:has S.bs z with
    | true =>
      refine Yb ⟨_,rfl,?_⟩;have e:nr S.bs n=z:=by rw [← hnr,ZaA h0 hh]
      rw [← e];exact q
    | false =>
      have hu:=ZcC h0;refine Yw ⟨fun σ' H'=>σ'=[some (.ref m),some (.str (up z))]∧H'=H2,fun σ' H' ⟨e1,e2⟩=>⟨(up z).length,hu,up z,rfl,e1,by omega,by rw [← hnr,Zgu h0 hh],e2⟩,?_⟩;refine ⟨_,rfl,_,_,rfl,rfl,_,rfl,?_⟩;rw [in_dot]
      by_cases hd:46∈z.cps.toList
      · rw [decide_eq_true hd];refine Yw ?_;have hne:nms z≠[]:=fun e=>by
          have e2:pcs z=[wd z]:=by rw [XX,e]
          have e3:=Y9 z;rw [e2] at e3;have e4:wd z=z:=e3;exact Zaj (x:=z) (p:=wd z) (by rw [e2]; simp) (by rw [e4]; exact hd)
        obtain ⟨i,hi1,hi2⟩:=Zj3 hne;refine ⟨_,rfl,_,rfl,rfl,z,dot,rfl,rfl,_,rfl,z,rfl,ZE (by omega),?_⟩;rw [hi1];exact ⟨by rw [← hi2]; rfl,rfl⟩
      · rw [decide_eq_false hd];refine Yb ⟨?_,rfl⟩;have e:up z=Str.empty:=by
          unfold up;rcases StrLaws.last_spec z dot with ⟨e,_⟩ | ⟨i,e,w,_⟩
          · rw [e]
          · exact absurd (mem_of_getElem? ((at_iff z i).mp w)) hd
        rw [e];rfl
theorem Zev {f:Addr} {fd:FuncData} (F:Fun K "_law_holder" "_law_holder" Z1 f fd) (T:Txt K g mg) (QaX:Dn P w0 K mg base 1 "_law_path" ["_law_model_here","_law_n"] (Zap K g)) (QbP:Dn P w0 K mg base 1 "_law_near" ["_law_model_here","_law_name"] (Zbg K g)):FnOk P w0 K mg base CX0 2 f fd ["_law_model_here","_law_n"] (Zax K g):=by
  refine F.ok Jt (fun vs H Q E h=>?_) (fun cdv A outer s H vs Q E hr h=>?_)
  · obtain ⟨m,S,R,n,rfl,_⟩:=h;rfl
  obtain ⟨m,S,R,n,rfl,M,wf,hlen,RT,q⟩:=h;have ifb:PSs (X1 CX0 P w0 K mg base ["_law_model_here","_law_n","_law_name","_law_near_here"] "_law_holder" (Zb Z1) f cdv A outer s H E).nox (ZfF ((Zk Z1).getD 3 (.Pass ⟨0,0,0,0⟩))) (fun D σ H1=>∃ (x y:Str),σ=[some (.ref m),some (.int n),some (.str x),some (.str y)]∧Zj H H1∧okN S x∧D.rt=Q):=by
    refine @Jw _ _ _ _ ((@Zg _ _ _ (@Zm _ _ _ _ (@Yd _ _ _ _ _ (@Za _ _ _ _ _ (@Zo _ _ _ _) (@Za _ _ _ _ _ (by walk_at "2") (@Za _ _ _ _ _ (@Zt _ _ _ _ _ _ _ (@Z2 _) (@Ym _ _ _ _ (@Za _ _ _ _ _ (@Zn _ _ _ _ _ _ _ _ (@ZM _) (@Zn _ _ _ _ _ _ _ _ (@ZT _) (by walk_at "1") (@Zf _ _ _ _)) (@Zf _ _ _ _)) (@Za _ _ _ _ _ (@Zn _ _ _ _ _ _ _ _ (@ZM _) (@Zn _ _ _ _ _ _ _ _ (@ZT _) (by walk_at "1") (@Zf _ _ _ _)) (@Zf _ _ _ _)) (@Zc _) (by rfl)) (by rfl))) (@Zn _ _ _ _ _ _ _ _ (@ZM _) (@Zn _ _ _ _ _ _ _ _ (@ZT _) (by walk_at "1") (@Zf _ _ _ _)) (@Zf _ _ _ _)) (fun _ _=>rfl)) (@Zc _) (by rfl)) (by rfl)) (by rfl)))))) ?_;rintro D σ H1 ⟨x,y,rfl,s1,ox,hq⟩;have b0:=emod_nonneg (n / 5) (show (37:Int)≠0 by decide);have b1:=emod_lt_of_pos (n / 5) (show (0:Int)<37 by decide);have b2:=emod_nonneg (n / 5) (show (121:Int)≠0 by decide);have b3:=emod_lt_of_pos (n / 5) (show (0:Int)<121 by decide);walk_at "go";intro l2 hl2;obtain ⟨v,hv,hv'⟩:=Zg0 (a:=V.int (n / 5 % 37)) (b:=V.int (n / 5 % 121)) (n / 605);obtain ⟨k,rfl,k0,k1⟩:∃ k:Int,v = .int k∧0≤k∧k≤120:=by rcases hv' with e | e; exact ⟨_,e,b0,by omega⟩; exact ⟨_,e,b2,by omega⟩
    have s2:=Zi hl2 (.lst [V.int (n / 5 % 37), .int (n / 5 % 121)]);walk_at "go";intro p3 hp3;rw [hq];exact q (.kids x k) p3 _ ((s1.trans s2).trans (Zi hp3 _)) ((s1.trans s2).free hp3) Zd ⟨ox,k0,k1⟩
  have rest4:PSs (X1 CX0 P w0 K mg base ["_law_model_here","_law_n","_law_name","_law_near_here"] "_law_holder" (Zb Z1) f cdv A outer s H E).nox ((Zk Z1).drop 4) (fun D σ H1=>∃ (x y:Str),σ=[some (.ref m),some (.int n),some (.str x),some (.str y)]∧Zj H H1∧okN S x∧D.rt=Q):=by
    refine @Jw _ _ _ _ ((@Ze _ _ _ _ _ (@Zy _ _ _ _ _ _ _ _ (@JH _ _ _ _ _ _ (@Zb1 _ _ _ _ _ (Z9 hr) (by walk_at "3") (@Zt _ _ _ _ _ _ _ (@Zr _) (by walk_at "0") (@Zf _ _ _ _) (fun _ _=>rfl))) (by walk_at "n")) (@Zg _ _ _ (@Zm _ _ _ _ (@Yd _ _ _ _ _ (@Za _ _ _ _ _ (@Zo _ _ _ _) (@Za _ _ _ _ _ (@Zt _ _ _ _ _ _ _ (@Z2 _) (@Xq _ _ _ _ _ _ _ _ _ _ _ _ plainAttrs_str PySem.F.slot_str_split PySem.F.type_str_split (@Zgy _) (by walk_at "2") (@Za _ _ _ _ _ (@Zo _ _ _ _) (@Zc _) (by rfl)) (by rfl) (by rfl) (by rfl) (by rfl) (by rfl)) (@Zf _ _ _ _) (fun _ _=>rfl)) (@Za _ _ _ _ _ (@Zn _ _ _ _ _ _ _ _ (@ZM _) (by walk_at "1") (@Zf _ _ _ _)) (@Zc _) (by rfl)) (by rfl)) (by rfl))))) (@Zq _)) (@Zg _ _ _ (@Zm _ _ _ _ (@Yd _ _ _ _ _ (@Za _ _ _ _ _ (@Zo _ _ _ _) (@Za _ _ _ _ _ (by walk_at "2") (@Zc _) (by rfl)) (by rfl))))))) ?_;rintro D σ H1 ⟨x,y,rfl,s1,ox,hq⟩;have M1:=M.same s1;obtain ⟨c,e1,e2,e3,B⟩:=M1.tup_of;have xl:=Xh ox.1;have b0:=emod_nonneg n (show (37:Int)≠0 by decide);have b1:=emod_lt_of_pos n (show (0:Int)<37 by decide);refine ⟨_,rfl,_,rfl,m,_,_,_,rfl,rfl,SqT.of B.tup,rfl,e2,_,rfl,Yx.k (k:=Sum.inr y) B.h2,_,rfl,?_⟩;rw [Z4];cases hd:has S.ds y with
    | true =>
      refine Yw ?_;have h2:(Builtin.Str.partsBetween x (Builtin.Str.occurrences x dot 0 x.length (x.length+1)) dot.length).length≤sizeLine:=by
        rw [PyProof.Rows.len_partsBetween];have:=StrLaws.occ_length_le x dot 0 x.length (x.length+1);exact ZE (by omega)
      refine ⟨_,rfl,rfl,x,dot,rfl,rfl,by decide +kernel,ZE (by omega),h2,fun l2 hl2=>?_⟩;have s2:=Zi hl2 (.lst ((pcs x).map V.str));have e0:(pcs x).map V.str=V.str (wd x)::(nms x).map V.str:=by rw [XX]; rfl
      refine ⟨l2,(pcs x).map V.str,_,V.str (wd x),rfl,rfl,SqL.of Zd,by rw [e0]; exact Za4 (j:=0) rfl,?_⟩;walk_at "go";intro p3 hp3;rw [hq];exact q (.kids (wd x) (n % 37)) p3 _ ((s1.trans s2).trans (Zi hp3 _)) ((s1.trans s2).free hp3) Zd ⟨okN_wd wf ox,b0,by omega⟩
    | false =>
      refine Yb ?_;walk_at "go";intro p3 hp3;rw [hq];exact q (.one x) p3 _ (s1.trans (Zi hp3 _)) (s1.free hp3) Zd ox
  refine ⟨_,(@Ze _ _ _ _ _ (@Zw _ _ (2) _ _ _ _ Jt.nd rfl (Or.inl rfl) (@Zv _ _ _ _ _ _ _ _ _ _ QaX (hr.mono (by decide)) (@Za _ _ _ _ _ (by walk_at "0") (@Za _ _ _ _ _ (@Zn _ _ _ _ _ _ _ _ (@ZT _) (by walk_at "1") (@Zf _ _ _ _)) (@Zc _) (by rfl)) (by rfl)) (by rfl) (by decide) (by rfl) (by rfl)) (by rfl) (by walk_at "u")) (@Ze _ _ _ _ _ (@Zw _ _ (3) _ _ _ _ Jt.nd rfl (Or.inl rfl) (@Zv _ _ _ _ _ _ _ _ _ _ QbP (hr.mono (by decide)) (@Za _ _ _ _ _ (by walk_at "0") (@Za _ _ _ _ _ (by walk_at "2") (@Zc _) (by rfl)) (by rfl)) (by rfl) (by decide) (by rfl) (by rfl)) (by rfl) (by walk_at "u")) (@Ze _ _ _ _ _ (@Zy _ _ _ _ _ _ _ _ (@JH _ _ _ _ _ _ (@Zb1 _ _ _ _ _ (Z9 hr) (by walk_at "3") (@Zt _ _ _ _ _ _ _ (@Zr _) (by walk_at "0") (@Zf _ _ _ _) (fun _ _=>rfl))) (by walk_at "n")) (@Zg _ _ _ (@Zw _ _ (2) _ _ _ _ Jt.nd rfl (Or.inl rfl) (by walk_at "3") (by rfl) (by walk_at "u"))) (@Zq _)) (@Ze _ _ _ _ _ (@Zy _ _ _ _ _ _ _ _ (@PW.pt _ _ _ (@Zah _ _ _ _ _ _ _ (@Zp _ _ _ _ _ _ _ _ (@Zbr _) (@Xq _ _ _ _ _ _ _ _ _ _ _ _ plainAttrs_str slot_str_count type_str_count (@ZaO _) (by walk_at "2") (@Za _ _ _ _ _ (@Zo _ _ _ _) (@Zc _) (by rfl)) (by rfl) (by rfl) (by rfl) (by rfl) (by rfl)) (@Zf _ _ _ _) (Zu _)) (@Ju _ _ _ _ (@PW.pt _ _ _ (@ZbT _ _ _ _ _ _ _ (@JH _ _ _ _ _ _ (@Zb1 _ _ _ _ _ (Z9 hr) (by walk_at "3") (@Zt _ _ _ _ _ _ _ (@Zr _) (by walk_at "0") (@Zf _ _ _ _) (fun _ _=>rfl))) (by walk_at "n")) (@Zay _ _ _ _ (@Zp _ _ _ _ _ _ _ _ (@Zbr _) (@Zn _ _ _ _ _ _ _ _ (@ZM _) (by walk_at "1") (@Zf _ _ _ _)) (@Zf _ _ _ _) (Zu _)))))))) @ifb (@Zq _)) @rest4)))),?_⟩;walk_at "go";intro z H1 s1 pz nz;have M1:=M.same s1;have zl:=Xh pz;have zl2:z.length≤200:=by omega
  have oz:okN S z:=⟨pz,nz⟩;have oy:okN S (nr S.bs z):=ZhF wf ((nr_or S.bs z).resolve_left nz);refine ⟨_,rfl,_,rfl,m,S,R,z,rfl,M1,zl2,?_⟩;obtain ⟨c,e1,e2,e3,B⟩:=M1.tup_of;refine ⟨_,rfl,_,rfl,m,_,_,_,rfl,rfl,SqT.of B.tup,rfl,e2,_,rfl,Yx.k (k:=Sum.inr (nr S.bs z)) B.h2,_,rfl,?_⟩;rw [Z4];cases hd:has S.ds (nr S.bs z) with
  | true =>
    refine Yw ?_;refine ⟨_,rfl,_,rfl,rfl,_,dot,rfl,rfl,_,_,rfl,rfl,_,rfl,Yj (fun c1=>?_) (fun c1=>?_)⟩
    · refine ⟨_,rfl,_,rfl,m,_,_,_,rfl,rfl,SqT.of B.tup,rfl,e2,_,rfl,Yx.k (k:=Sum.inr (nr S.bs z)) B.h2,_,rfl,?_⟩;rw [Z4,hd];exact Yw (Yw ⟨_,_,rfl,s1,oy,rfl⟩)
    · exact Yb ⟨_,_,rfl,s1,oy,rfl⟩
  | false =>
    refine Yb ?_;refine ⟨_,rfl,rfl,_,dot,rfl,rfl,_,_,rfl,rfl,_,rfl,Yj (fun c1=>?_) (fun c1=>?_)⟩
    · refine ⟨_,rfl,_,rfl,m,_,_,_,rfl,rfl,SqT.of B.tup,rfl,e2,_,rfl,Yx.k (k:=Sum.inr (nr S.bs z)) B.h2,_,rfl,?_⟩;rw [Z4,hd];refine Yb ?_;refine ⟨_,rfl,_,_,rfl,rfl,(by show (0:Int)<5; decide),_,_,rfl,rfl,_,rfl,Yj (fun c2=>?_) (fun c2=>?_)⟩
      · exact ⟨_,_,rfl,s1,oz,rfl⟩
      · exact ⟨_,_,rfl,s1,oz,rfl⟩
    · exact Yb ⟨_,_,rfl,s1,oz,rfl⟩
theorem Zck {f:Addr} {fd:FuncData} (F:Fun K "_law_judged_row" "_law_judged_row" Yf f fd) (T:Txt K g mg) (QbQ:Dn P w0 K mg base 3 "_law_needs" ["_law_model_here","_law_n","_law_most"] (ZaU K g)) (QbR:Dn P w0 K mg base 2 "_law_holder" ["_law_model_here","_law_n"] (Zax K g)):FnOk P w0 K mg base CX0 4 f fd ["_law_model_here","_law_n"] (XN K g):=by
  refine F.ok Zat (fun vs H Q E h=>?_) (fun cdv A outer s H vs Q E hr h=>?_)
  · obtain ⟨m,S,R,n,rfl,_⟩:=h;rfl
  obtain ⟨m,S,R,n,rfl,M,wf,hlen,RT,q⟩:=h;refine ⟨_,(
(@Ze _ _ _ _ _ (@Zw _ _ (2) _ _ _ _ Zat.nd rfl (Or.inl rfl) (@Zv _ _ _ _ _ _ _ _ _ _ QbQ (hr.mono (by decide)) (@Za _ _ _ _ _ (by walk_at "0") (@Za _ _ _ _ _ (@Zn _ _ _ _ _ _ _ _ (@ZT _) (by walk_at "1") (@Zf _ _ _ _)) (@Za _ _ _ _ _ (@Zt _ _ _ _ _ _ _ (@Z2 _) (@Ym _ _ _ _ (@Za _ _ _ _ _ (@Zf _ _ _ _) (@Za _ _ _ _ _ (@Zf _ _ _ _) (@Za _ _ _ _ _ (@Zf _ _ _ _) (@Zc _) (by rfl)) (by rfl)) (by rfl))) (@Zn _ _ _ _ _ _ _ _ (@ZM _) (@Zn _ _ _ _ _ _ _ _ (@ZT _) (by walk_at "1") (@Zf _ _ _ _)) (@Zf _ _ _ _)) (fun _ _=>rfl)) (@Zc _) (by rfl)) (by rfl)) (by rfl)) (by rfl) (by decide) (by rfl) (by rfl)) (by rfl) (by walk_at "u")) (@Zg _ _ _ (@Zm _ _ _ _ (@Yd _ _ _ _ _ (@Za _ _ _ _ _ (@Zv _ _ _ _ _ _ _ _ _ _ QbR (hr.mono (by decide)) (@Za _ _ _ _ _ (by walk_at "0") (@Za _ _ _ _ _ (@Zn _ _ _ _ _ _ _ _ (@ZT _) (by walk_at "1") (@Zf _ _ _ _)) (@Zc _) (by rfl)) (by rfl)) (by rfl) (by decide) (by rfl) (by rfl)) (@Za _ _ _ _ _ (@ZaM _ _ _ ("_law_atom") _ _ _ ([("_law_n",s.heap.objs.size+1)]) _ ([("_law_n",1)]) _ _ _ rfl (@Yc _ _ _ _ (by walk_at "2")) (fun _ _ _ _ _=>(@YN _ _ _ (@PW.pt _ _ _ (@ZbT _ _ _ _ _ _ _ (@Zp _ _ _ _ _ _ _ _ (@ZdT _) (@Zt _ _ _ _ _ _ _ (show IxR _ (ZcJ K) from (@Zr _)) (by walk_at "0") (@Zf _ _ _ _) (fun _ _=>rfl)) (@Zo _ _ _ _) (Zu _)) (@Zay _ _ _ _ (@Zp _ _ _ _ _ _ _ _ (@Ya _) (@Zn _ _ _ _ _ _ _ _ (@ZM _) (by walk_at "1") (@Zf _ _ _ _)) (@Zf _ _ _ _) (Zu _))))))) (fun _ _ _ _ _=>(by walk_at "0")) rfl (by decide +kernel) rfl (by decide +kernel) rfl (fun _ _ h=>h) (YL rfl) (fun p hp=>by rw [List.mem_singleton.mp hp]; exact ⟨rfl,rfl,by first | exact .inl rfl | exact .inr rfl⟩) (by decide +kernel) (by intro _ ; rfl)) (@Zc _) (by rfl)) (by rfl))))))),?_⟩
  walk_at "go";intro l1 hl1;have s1:=Zi hl1 (.lst [V.int 4, .int 4, .int 6]);obtain ⟨v,hv⟩:=Zhl (xs:=[V.int 4, .int 4, .int 6]) (emod_nonneg (n / 7) (show (3:Int)≠0 by decide)) (emod_lt_of_pos (n / 7) (show (0:Int)<3 by decide));obtain ⟨k,rfl,k0,k6⟩:∃ k:Int,v = .int k∧0≤k∧k≤6:=by
    unfold atI at hv;obtain ⟨j,_,e⟩:=Option.bind_eq_some_iff.mp hv;have hm:=mem_of_getElem? e;simp only [mem_cons,List.mem_nil_iff,or_false] at hm;rcases hm with e | e | e <;> exact ⟨_,e,by decide,by decide⟩
  have M1:=M.same s1;have k100:k≤100:=by omega
  walk_at "go";intro l2 ts ps H2 s2 fl2 A2 ok2 hl2;have M2:=M1.same s2;refine ⟨_,rfl,_,rfl,_,_,rfl,rfl,⟨by decide,by decide⟩,m,S,R,_,rfl,M2,wf,hlen,RT,fun h p H3 s3 f3 h3 oh=>?_⟩;unfold Zhv;have A3:=A2.same s3;have tl:ts.length≤6:=by omega
  refine lcLT (xs:=ps.map V.ref) (fun a H1=>a=l2∧H1=H3) ?_ ?_ (by rw [length_map,A3.len]; omega) (fun i=>match ts[i]? with | some (.comes _)=>decide (n % 3=0) | _=>true) (fun _ _ _ v H2=>∃ p t,v=V.ref p∧H2 p=some (.tup (Atm.vals t))∧t.ok S∧True) ?_ ?_ ?_ ?_
  · exact fun R0 r=>⟨_,rfl,r l2 H3 ⟨rfl,rfl⟩⟩
  · rintro a H1 ⟨rfl,rfl⟩;exact SqL.of A3.lst
  · rintro a H1 i v H H' D ys hD kk ⟨p,t,rfl,hp,o,_⟩;exact ⟨p,t,rfl,kk.1 _ _ (fun z=>by rw [List.mem_singleton.mp z,hD] at hp; cases hp) hp,o,trivial⟩
  · rintro a H1 i x H4 ⟨rfl,rfl⟩ hx s R0 r;obtain ⟨p2,t,rfl,ht,hp2⟩:=(A3.same s).at' hx;rw [ht] at r;cases t with
    | comes c =>
      walk_at "go";have z:=r H4 (Zj.refl _);rw [show decide (n % 3=0)=decide (V.int (n % 3)=V.int 0) from (Zds _ _).symm] at z;exact z
    | born c =>
      walk_at "go";exact ZhK (by decide +kernel) (r H4 (Zj.refl _))
    | dead c =>
      walk_at "go";exact ZhK (by decide +kernel) (r H4 (Zj.refl _))
    | year c =>
      walk_at "go";exact ZhK (by decide +kernel) (r H4 (Zj.refl _))
    | age c b =>
      walk_at "go";exact ZhK (by decide +kernel) (r H4 (Zj.refl _))
  · rintro a H1 i x H4 ⟨rfl,rfl⟩ hx hf s R0 r;obtain ⟨p2,t,rfl,ht,hp2⟩:=(A3.same s).at' hx;exact ⟨_,rfl,r _ H4 (Zj.refl _) ⟨p2,t,rfl,hp2,ok2 t (mem_of_getElem? ht),trivial⟩⟩
  rintro a1 H1 D ys H4 ⟨rfl,rfl⟩ hD s4 h4 hpd;obtain ⟨ts',ps',A4,ok4,_,hl4⟩:=ZhV (fr:=fun _=>True) h4 hpd;have tl4:ts'.length≤6:=by
    have z:=length_filter_le (fun i=>match ts[i]? with | some (.comes _)=>decide (n % 3=0) | _=>true) (List.range (ps.map V.ref).length);rw [length_range,length_map,A3.len] at z;have e:ts'.length=(List.filter (fun i=>match ts[i]? with | some (.comes _)=>decide (n % 3=0) | _=>true) (List.range (ps.map V.ref).length)).length:=hl4;rw [length_map,A3.len] at e;omega
  walk_at "go";intro r hr;have sr:=Zi hr (.tup [V.ref p,V.ref D]);exact q h ts' ps' r p D _ (((((s1.trans s2).trans s3).trans s4)).trans sr) Zd (sr _ _ (s4 _ _ h3)) oh (A4.same sr) ok4 tl4
theorem Zfo {f:Addr} {fd:FuncData} (F:Fun K "_law_alike" "_law_alike" XC f fd) (T:Txt K g mg)  : FnOk P w0 K mg base CX0 1 f fd ["_law_one","_law_other"] (ZaW K g):=by
  refine F.ok Ze9 (fun vs H Q E h=>?_) (fun cdv A outer s H vs Q E hr h=>?_)
  · obtain ⟨r1,r2,l1,l2,rfl,_⟩:=h;rfl
  obtain ⟨r1,r2,l1,l2,rfl,hh,q⟩:=h;refine ⟨_,(
(@Ze _ _ _ _ _ (@Zy _ _ _ _ _ _ _ _ (@Zp _ _ _ _ _ _ _ _ (@ZdT _) (@Zt _ _ _ _ _ _ _ (@Zr _) (by walk_at "0") (@Zf _ _ _ _) (fun _ _=>rfl)) (@Zt _ _ _ _ _ _ _ (@Zr _) (by walk_at "1") (@Zf _ _ _ _) (fun _ _=>rfl)) (Zu _)) (@Zg _ _ _ (@Zm _ _ _ _ (@Zau _ _ _ _))) (@Zq _)) (@Zg _ _ _ (@Zm _ _ _ _ (@pe_or _ _ _ _ _ _ _ (@XW _ _ _ _ _ _ _ _ (@Ya _) (@Zt _ _ _ _ _ _ _ (@Zr _) (by walk_at "0") (@Zf _ _ _ _) (fun _ _=>rfl)) (@Zo _ _ _ _) (Zu _)) (@Zbo _ _ _ _ _ (@XW _ _ _ _ _ _ _ _ (@op_eqD _ hr.units) (@Zt _ _ _ _ _ _ _ (@Zr _) (by walk_at "0") (@Zf _ _ _ _) (fun _ _=>rfl)) (@Zt _ _ _ _ _ _ _ (@Zr _) (by walk_at "1") (@Zf _ _ _ _) (fun _ _=>rfl)) (Zu _)))))))),?_⟩
  rcases hh with ⟨h1,h2⟩ | ⟨ss,h1,h2,g1,g2,hss⟩
  · have t1:=SqT.of (K:=K) h1;have t2:=SqT.of (K:=K) h2;walk_at "go";exact Yw q
  · have t1:=SqT.of (K:=K) h1;have t2:=SqT.of (K:=K) h2;have sh:=ZcY hss;have u1:=SqL.of (K:=K) g1;have u2:=SqL.of (K:=K) g2;walk_at "go";refine ⟨Zf9 u1,Zf9 u2,sh,sh,?_⟩;rw [if_neg (by decide),ZjK hss];exact q
theorem ok_law {f:Addr} {fd:FuncData} (F:Fun K "law" "law" Zag f fd) (T:Txt K g mg) (Qaz:Dn P w0 K mg base 1 "_law_rich" ["_law_cell","_law_place"] (Zao K g)) (QbS:Dn P w0 K mg base 1 "_law_model" ["_law_year"] (ZaV K g)) (QbT:Dn P w0 K mg base 2 "_law_start" ["_law_n"] (ZaT K g)) (Qa0:Dn P w0 K mg base 1 "_law_cell_at" ["_law_script","_law_k"] (J5 K g)) (QbU:Dn P w0 K mg base 6 "_law_do" ["_law_world","_law_deed"] (ZcE K g)) (QbV:Dn P w0 K mg base 2 "_law_play" ["_law_model_here","_law_deed"] (Zbe K g)) (QbW:Dn P w0 K mg base 4 "_law_judged_row" ["_law_model_here","_law_n"] (XN K g)) (QbX:Dn P w0 K mg base 2 "_law_next_deed" ["_law_model_here","_law_n","_law_far"] (X4 K g)) (QaY:Dn P w0 K mg base 11 "judged" ["world","holder","atoms","term"] (ZcF K g)) (Qa5:Dn P w0 K mg base 1 "_law_alike" ["_law_one","_law_other"] (ZaW K g)) (QbY:Dk P w0 K mg base (CXR P w0 base) g.World 3 "World" ["self","year"] (XO K g)):FnOk P w0 K mg base CX0 12 f fd ["_law_script"] (Ze3 K g):=by
  refine F.ok Xl (fun vs H Q E h=>?_) (fun cdv A outer s H vs Q E hr h=>?_)
  · obtain ⟨a,ns,rfl,_⟩:=h;rfl
  obtain ⟨a,ns,rfl,hS,hlen,q⟩:=h;have turn6:PSs (X1 CX0 P w0 K mg base ["_law_script","_law_n","_law_model_here","_law_world","_law_deeds","_law_k","_law_m","_law_deed","_law_holder_here","_law_atoms","_law_term","_law_alone","_law_whole"] "law" (Zb Zag) f cdv A outer s H E).nox ((ZfF ((Zk Zag).getD 4 (.Pass ⟨0,0,0,0⟩))).drop 6) (fun D σ H3=>∃ (a m w l p p2 l2:Addr) (n kk r9:Int) (S2:Mo) (R1:List Addr) (h:Ho) (ts:List Atm) (ps:List Addr) (v10 v11 v12:Option V),σ=[some (.ref a),some (.int n),some (.ref m),some (.ref w),some (.ref l),some (.int kk),some (.int r9),some (.ref p),some (.ref p2),some (.ref l2),v10,v11,v12]∧WorldAt g H3 w S2 R1∧S2.bs.length≤40∧Dated S2∧H3 p2=some (.tup h.vals)∧h.ok S2∧AtmsAt H3 l2 ts ps∧(∀ t∈ts,t.ok S2)∧ts.length≤6∧∀ H',Zj H3 H'→∀ v5 v6 v7 v8 v9 v10 v11 v12,D.nx [some (.ref a),some (.int n),some (.ref m),some (.ref w),some (.ref l),v5,v6,v7,v8,v9,v10,v11,v12] H'):=by
    refine @Jw _ _ _ _ ((@Ze _ _ _ _ _ (@Zw _ _ (9) _ _ _ _ Xl.nd rfl (Or.inl rfl) (@Zcj _ _ _ _ _ _ _ _ _ _ (@Zhw _) (@ZaM _ _ _ ("_law_atom") _ _ _ ([]) _ ([]) _ _ _ rfl (@Yc _ _ _ _ (by walk_at "9")) (fun _ _ _ _ _=>(@YN _ _ _ (@Zp _ _ _ _ _ _ _ _ (@ZdT _) (@Zt _ _ _ _ _ _ _ (show IxR _ (ZcJ K) from (@Zr _)) (by walk_at "0") (@Zf _ _ _ _) (fun _ _=>rfl)) (@Zo _ _ _ _) (Zu _)))) (fun _ _ _ _ _=>(by walk_at "0")) rfl (by decide +kernel) rfl (by decide +kernel) rfl (fun _ _ h=>nomatch h) (YL rfl) (fun p hp=>nomatch hp) (by decide +kernel) (by intro _ ; rfl)) (@Zdp _) (@Zdo _ _ _ (@Zf _ _ _ _))) (by rfl) (by walk_at "u")) (@Zg _ _ _ (@Zy _ _ _ _ _ _ _ _ (@Zp _ _ _ _ _ _ _ _ (@ZbU _) (@ZD _ _ _ _ _ _ _ _ _ (@ZQ _) rfl T.z_len boot_len (@Za _ _ _ _ _ (by walk_at "9") (@Zc _) (by rfl)) (by decide) (by decide) (by rfl) (by rfl)) (@Zf _ _ _ _) (Zu _)) (@Ze _ _ _ _ _ (@Zw _ _ (10) _ _ _ _ Xl.nd rfl (Or.inr rfl) (@Zn _ _ _ _ _ _ _ _ (@ZM _) (by walk_at "6") (@Zf _ _ _ _)) (by rfl) (by walk_at "u")) (@Ze _ _ _ _ _ (@ZaK _ (11) _ _ _ _ _ ("_law_atom") _ _ _ ([("_law_world",s.heap.objs.size+1),("_law_term",s.heap.objs.size+3),("_law_holder_here",s.heap.objs.size+2)]) _ ([("_law_world",3),("_law_holder_here",8),("_law_term",10)]) _ _ _ Xl.nd rfl (Or.inl rfl) rfl (@Yc _ _ _ _ (by walk_at "9")) (fun _ _ _ _ _=>(@Zai _)) (fun _ _ _ _ _=>(@Zt _ _ _ _ _ _ _ (show IxR _ (ZcJ K) from (@Zr _)) (@Zv _ _ _ _ _ _ _ _ _ _ QaY (hr.mono (by decide)) (@Za _ _ _ _ _ (by walk_at "1") (@Za _ _ _ _ _ (by walk_at "2") (@Za _ _ _ _ _ (@Ym _ _ _ _ (@Za _ _ _ _ _ (by walk_at "0") (@Zc _) (by rfl))) (@Za _ _ _ _ _ (by walk_at "3") (@Zc _) (by rfl)) (by rfl)) (by rfl)) (by rfl)) (by rfl) (by decide) (by rfl) (by rfl)) (@Zf _ _ _ _) (fun _ _=>rfl))) rfl (by decide +kernel) rfl (by decide +kernel) rfl (L2.cl_sub (fun p hp=>by simp only [mem_cons,not_mem_nil,or_false] at hp; rcases hp with rfl | rfl | rfl <;> rfl)) (YL rfl) (fun p hp=>by simp only [mem_cons,not_mem_nil,or_false] at hp; rcases hp with rfl | rfl | rfl <;> exact ⟨rfl,rfl,by first | exact .inl rfl | exact .inr rfl⟩) (by decide +kernel) (by intro _ ; rfl) (by rfl) (by walk_at "u")) (@Ze _ _ _ _ _ (@Zw _ _ (12) _ _ _ _ Xl.nd rfl (Or.inl rfl) (@Zv _ _ _ _ _ _ _ _ _ _ QaY (hr.mono (by decide)) (@Za _ _ _ _ _ (by walk_at "3") (@Za _ _ _ _ _ (by walk_at "8") (@Za _ _ _ _ _ (@YG _ _ _ _ _ _ _ _ _ (show Jz _ (.type "list") (Zfd K) from (@Zb8 _)) rfl T.z_list boot_list (@Za _ _ _ _ _ (by walk_at "9") (@Zc _) (by rfl)) (by decide) (by decide) (by rfl) (by rfl)) (@Za _ _ _ _ _ (by walk_at "10") (@Zc _) (by rfl)) (by rfl)) (by rfl)) (by rfl)) (by rfl) (by decide) (by rfl) (by rfl)) (by rfl) (by walk_at "u")) (@Ze _ _ _ _ _ (@Zy _ _ _ _ _ _ _ _ (@PW.pt _ _ _ (@Zah _ _ _ _ _ _ _ (@Zp _ _ _ _ _ _ _ _ (@Za1 _) (@Zo _ _ _ _) (by walk_at "11") rfl) (@Ju _ _ _ _ (@Zp _ _ _ _ _ _ _ _ (@ZdT _) (@Zt _ _ _ _ _ _ _ (@Zr _) (by walk_at "12") (@Zf _ _ _ _) (fun _ _=>rfl)) (@Zo _ _ _ _) (Zu _))))) (@Zg _ _ _ (@Zm _ _ _ _ (@Zau _ _ _ _))) (@Zq _)) (@Ze _ _ _ _ _ (@Zy _ _ _ _ _ _ _ _ (@Jo _ _ _ _ (@ZP _ _ _ (@Zv _ _ _ _ _ _ _ _ _ _ Qa5 (hr.mono (by decide)) (@Za _ _ _ _ _ (by walk_at "12") (@Za _ _ _ _ _ (@Zv _ _ _ _ _ _ _ _ _ _ QaY (hr.mono (by decide)) (@Za _ _ _ _ _ (by walk_at "3") (@Za _ _ _ _ _ (by walk_at "8") (@Za _ _ _ _ _ (@pe_rev _ _ _ _ _ _ _ (by walk_at "9") (@pe_un _ _ _ _ _ _ (@un_neg _) (@Zf _ _ _ _))) (@Za _ _ _ _ _ (by walk_at "10") (@Zc _) (by rfl)) (by rfl)) (by rfl)) (by rfl)) (by rfl) (by decide) (by rfl) (by rfl)) (@Zc _) (by rfl)) (by rfl)) (by rfl) (by decide) (by rfl) (by rfl)) (by intro _ ; rfl))) (@Zg _ _ _ (@Zm _ _ _ _ (@Zau _ _ _ _))) (@Zq _)) (@Zg _ _ _ (@Zy _ _ _ _ _ _ _ _ (@Jo _ _ _ _ (@ZP _ _ _ (@Zv _ _ _ _ _ _ _ _ _ _ Qa5 (hr.mono (by decide)) (@Za _ _ _ _ _ (by walk_at "12") (@Za _ _ _ _ _ (@Zv _ _ _ _ _ _ _ _ _ _ QaY (hr.mono (by decide)) (@Za _ _ _ _ _ (by walk_at "3") (@Za _ _ _ _ _ (by walk_at "8") (@Za _ _ _ _ _ (@Zn _ _ _ _ _ _ _ _ (@ZdU _) (by walk_at "9") (@Zcj _ _ _ _ _ _ _ _ _ _ (@Zhw _) (by walk_at "9") (@Zdp _) (@Zdo _ _ _ (@Zf _ _ _ _)))) (@Za _ _ _ _ _ (by walk_at "10") (@Zc _) (by rfl)) (by rfl)) (by rfl)) (by rfl)) (by rfl) (by decide) (by rfl) (by rfl)) (@Zc _) (by rfl)) (by rfl)) (by rfl) (by decide) (by rfl) (by rfl)) (by intro _ ; rfl))) (@Zg _ _ _ (@Zm _ _ _ _ (@Zau _ _ _ _))) (@Zq _)))))))) (@Zq _))))) ?_;rintro D σ H3 ⟨a,m,w,l,p,p2,l2,n,kk,r9,S2,R1,h,ts,ps,v10,v11,v12,rfl,W3,lb40,DD,hp2,oh,A3,ok3,tl3,fin2⟩;unfold ZgS ZfX tSl;dsimp only;refine lcAtQ (tl':=ts) ?_ (by omega) notC ?_ ?_ ?_
    · exact fun R0 r=>⟨_,rfl,r l2 ps H3 (Zj.refl _) A3⟩
    · intro p5 t H5 s5 ht hp5 R0 r;cases t with
      | comes c =>
        walk_at "go";rw [decide_eq_true rfl];exact r H5 (Zj.refl _)
      | year c =>
        walk_at "go";rw [Y5,decide_eq_false (by decide +kernel)];exact r H5 (Zj.refl _)
      | born c =>
        walk_at "go";rw [Y5,decide_eq_false (by decide +kernel)];exact r H5 (Zj.refl _)
      | dead c =>
        walk_at "go";rw [Y5,decide_eq_false (by decide +kernel)];exact r H5 (Zj.refl _)
      | age c b =>
        walk_at "go";rw [Y5,decide_eq_false (by decide +kernel)];exact r H5 (Zj.refl _)
    · exact fun x H2 s2 R0 r=>⟨_,rfl,r H2 (Zj.refl _)⟩
    intro D5 ps5 H5 s5 f5 A5;have e5:ZfL (ps5.map V.ref) none (some 5)=(ps5.map V.ref).take 5:=Zep _ 5;refine ⟨_,rfl,D5,_,rfl,SqL.of A5.lst,fun l6 hl6=>?_⟩;rw [e5];have s6:=Zi hl6 (.lst ((ps5.map V.ref).take 5));have A6:=A5.take (k:=5) (l':=l6) s6 Zd;have s36:=s5.trans s6;generalize upd H5 l6 (.lst ((ps5.map V.ref).take 5))=H6 at s36 A6 ⊢;obtain ⟨t6,ht6⟩:∃ t6,t6=(ts.filter notC).take 5:=⟨_,rfl⟩;obtain ⟨p6,hp6⟩:∃ p6,p6=ps5.take 5:=⟨_,rfl⟩;rw [← ht6,← hp6] at A6;have ok6:∀ t∈t6,t.ok S2:=fun t ht=>by rw [ht6] at ht; exact ok3 t (List.mem_filter.mp (mem_of_mem_take ht)).1
    have l65:t6.length≤5:=by rw [ht6]; exact List.length_take_le _ _
    clear ht6 hp6 e5 s6 hl6 A5;have W6:=W3.same s36;have hh6:=s36 _ _ hp2;have hA6:=SqL.of (K:=K) A6.lst;have fin6:∀ H',Zj H6 H'→∀ v5 v6 v7 v8 v9 v10 v11 v12,D.nx [some (.ref a),some (.int n),some (.ref m),some (.ref w),some (.ref l),v5,v6,v7,v8,v9,v10,v11,v12] H':=fun H' s=>fin2 H' (s36.trans s);have tm0:=emod_nonneg r9 (show (61:Int)≠0 by decide);have tm1:=emod_lt_of_pos r9 (show (0:Int)<61 by decide);have tm2:r9 % 61≤100:=by omega
    refine ⟨_,rfl,_,_,rfl, .inl ⟨_,SqL.of A6.lst,rfl⟩,_,_,rfl,rfl,_,rfl,Yj (fun c=>?_) (fun c=>?_)⟩
    · have ne6:t6≠[]:=fun z=>by
        have:=of_decide_eq_true c;rw [length_map,A6.len,z] at this;exact absurd this (by decide)
      have wf2:=W3.wf;refine ⟨_,rfl,_,_,rfl,rfl,(by show (0:Int)<61; decide),?_⟩;unfold Zc6;dsimp only;refine lcLT (xs:=p6.map V.ref) (fun a H1=>a=l6∧H1=H6) ?_ ?_ (by rw [length_map,A6.len]; omega) (fun _=>true) (fun _ _ i v H'=>∃ g:Str,v=V.str g∧∀ t,t6[i]? = some t→TagJ S2 h [t] (r9 % 61) g) ?_ ?_ ?_ ?_
      · exact fun R0 r=>⟨_,rfl,r l6 H6 ⟨rfl,rfl⟩⟩
      · rintro a H1 ⟨rfl,rfl⟩;exact SqL.of A6.lst
      · exact fun a H1 i v H H' D ys hD kk hP=>hP
      · exact fun a H1 i x H7 hA hx s R0 r=>r H7 (Zj.refl _)
      · rintro a H1 i x H7 ⟨rfl,rfl⟩ hx _ s R0 r;obtain ⟨p7,t,rfl,ht,hp7⟩:=(A6.same s).at' hx;have W7:=W6.same s;have hh7:=s _ _ hh6;walk_at "go";intro l8 hl8;have s8:=Zi hl8 (.lst [V.ref p7]);have A8:AtmsAt (upd H7 l8 (.lst [V.ref p7])) l8 [t] [p7]:=⟨Zd,rfl,fun j q u h1 h2=>by
          cases j with
          | zero=>cases h1; cases h2; exact s8 _ _ hp7
          | succ j=>cases h1⟩
        have W8:=W7.same s8;have hh8:=s8 _ _ hh7;have ok8:∀ u∈[t],u.ok S2:=fun u hu=>by rw [List.mem_singleton.mp hu]; exact ok6 t (mem_of_getElem? ht)
        have len8:[t].length≤20:=by show 1≤20; omega
        generalize upd H7 l8 (.lst [V.ref p7])=H8 at s8 A8 W8 hh8 ⊢;walk_at "go";intro rj lj Hj sj fr fl Jj;obtain ⟨gg,hgg,tgg⟩:=Jj.tagJ;have tT:=SqT.of (K:=K) hgg;walk_at "go";exact r _ Hj (s8.trans sj) ⟨gg,rfl,fun t' e=>by rw [ht] at e; cases e; exact tgg⟩
      rintro a1 H1 D7 ys H7 ⟨rfl,rfl⟩ hD7 s7 h7 hpd;obtain ⟨gs,e1,e2,e3⟩:=ZeF hpd;subst e1;rw [Zhg,length_map,A6.len] at e2 e3;rw [length_range] at e2;have tags:∀ (i:Nat) (t:Atm) (x:Str),t6[i]? = some t→gs[i]? = some x→TagJ S2 h [t] (r9 % 61) x:=fun i t x h1 h2=>e3 i i x (by rw [List.getElem?_range (List.getElem?_eq_some_iff.mp h1).1]) h2 t h1;have A7:=A6.same s7;have W7:=W6.same s7;have hh7:=s7 _ _ hh6;have t20:t6.length≤20:=by omega
      walk_at "go";refine ⟨.inl (SqL.of A7.lst),fun l8 hl8=>?_⟩;have s8:=Zi hl8 (.lst (p6.map V.ref));have A8:=(A7.same s8).copy (l':=l8) Zd;have W8:=W7.same s8;have hh8:=s8 _ _ hh7;generalize upd H7 l8 (.lst (p6.map V.ref))=H8 at s8 A8 W8 hh8 ⊢;walk_at "go";intro rw_ lw Hw sw frw flw JW;obtain ⟨gw,hgw,tgw⟩:=JW.tagJ;have s8w:=s8.trans sw;have h7w:=s8w _ _ h7;have gwT:=SqT.of (K:=K) hgw;have fl7:(gs.map V.str).all Zbw=true:=by rw [List.all_map,List.all_eq_true]; intro _ _; rfl
      refine ⟨_,rfl,D7,_,rfl, .inl (SqL.of h7w),rfl,fl7,_,rfl,?_⟩;rw [if_pos rfl,Zcr];cases hgl:decide (("late":Str)∈gs) with
      | true =>
        refine Yb ?_;unfold ZfW;dsimp only;have Aw:=A7.same s8w;have Ww:=W7.same s8w;have hhw:=s8w _ _ hh7;walk_at "go";refine ⟨SqL.of Aw.lst,fun lr hlr=>?_⟩;have sr:=Zi hlr (.lst (p6.map V.ref).reverse);have Ar:=Aw.rev (l':=lr) sr Zd;have Wr:=Ww.same sr;have hhr:=sr _ _ hhw;have okr:∀ t∈t6.reverse,t.ok S2:=fun t ht=>ok6 t (List.mem_reverse.mp ht);have lenr:t6.reverse.length≤20:=by rw [length_reverse]; omega
        generalize upd Hw lr (.lst (p6.map V.ref).reverse)=Hr at sr Ar Wr hhr ⊢;walk_at "go";intro r1 l1 H1 s1 fr1 fl1 J1;have sw1:=sr.trans s1;have DJ:=Zcq wf2 oh ok6 (fun t=>List.mem_reverse.symm) (JW.same sw1) J1;walk_at "go";have Aw1:=Aw.same sw1;have e1:ZfL (p6.map V.ref) none (some 1)=(p6.map V.ref).take 1:=Zep _ 1;refine ⟨SqL.of Aw1.lst,fun ls hls=>?_⟩;rw [e1];have sS:=Zi hls (.lst ((p6.map V.ref).take 1));have As:=Aw1.take (k:=1) (l':=ls) sS Zd;have Aw2:=Aw1.same sS;generalize upd H1 ls (.lst ((p6.map V.ref).take 1))=Hs at sS As Aw2 ⊢;refine ⟨a1,ls,_,_,rfl,rfl,Aw2.lst,As.lst,ZE (by rw [length_map,length_map,length_take,A6.len]; show _+_≤500; omega),fun lc hlc=>?_⟩;have sc:=Zi hlc (.lst (p6.map V.ref++(p6.take 1).map V.ref));have Ac:=Aw2.app2 As (l3:=lc) sc Zd;have swc:=(sw1.trans sS).trans sc;have Wc:=Ww.same swc;have hhc:=swc _ _ hhw;have okc:∀ t∈t6++t6.take 1,t.ok S2:=fun t ht=>by
          rcases List.mem_append.mp ht with z | z
          · exact ok6 t z
          · exact ok6 t (mem_of_mem_take z)
        have lenc:(t6++t6.take 1).length≤20:=by rw [length_append,length_take]; omega
        generalize upd Hs lc (.lst (p6.map V.ref++(p6.take 1).map V.ref))=Hc at swc Ac Wc hhc ⊢;walk_at "go";intro r3 l3 H3' s3' fr3 fl3 J3;have sw3:=swc.trans s3';have DJ2:=Zcq wf2 oh ok6 (fun t=>by rw [mem_append]; exact ⟨.inl,fun z=>z.elim id fun z=>mem_of_mem_take z⟩) (JW.same sw3) J3;walk_at "go";exact fin6 _ ((s7.trans s8w).trans sw3) _ _ _ _ _ _ _ _
      | false =>
        have esure:gw="sure":=ZiR wf2 oh ne6 tgw e2 tags (of_decide_eq_false hgl);subst esure;refine Yw ?_;walk_at "go";unfold ZfW;dsimp only;have Aw:=A7.same s8w;have Ww:=W7.same s8w;have hhw:=s8w _ _ hh7;walk_at "go";refine ⟨SqL.of Aw.lst,fun lr hlr=>?_⟩;have sr:=Zi hlr (.lst (p6.map V.ref).reverse);have Ar:=Aw.rev (l':=lr) sr Zd;have Wr:=Ww.same sr;have hhr:=sr _ _ hhw;have okr:∀ t∈t6.reverse,t.ok S2:=fun t ht=>ok6 t (List.mem_reverse.mp ht);have lenr:t6.reverse.length≤20:=by rw [length_reverse]; omega
        generalize upd Hw lr (.lst (p6.map V.ref).reverse)=Hr at sr Ar Wr hhr ⊢;walk_at "go";intro r1 l1 H1 s1 fr1 fl1 J1;have sw1:=sr.trans s1;have DJ:=Zcq wf2 oh ok6 (fun t=>List.mem_reverse.symm) (JW.same sw1) J1;walk_at "go";have Aw1:=Aw.same sw1;have e1:ZfL (p6.map V.ref) none (some 1)=(p6.map V.ref).take 1:=Zep _ 1;refine ⟨SqL.of Aw1.lst,fun ls hls=>?_⟩;rw [e1];have sS:=Zi hls (.lst ((p6.map V.ref).take 1));have As:=Aw1.take (k:=1) (l':=ls) sS Zd;have Aw2:=Aw1.same sS;generalize upd H1 ls (.lst ((p6.map V.ref).take 1))=Hs at sS As Aw2 ⊢;refine ⟨a1,ls,_,_,rfl,rfl,Aw2.lst,As.lst,ZE (by rw [length_map,length_map,length_take,A6.len]; show _+_≤500; omega),fun lc hlc=>?_⟩;have sc:=Zi hlc (.lst (p6.map V.ref++(p6.take 1).map V.ref));have Ac:=Aw2.app2 As (l3:=lc) sc Zd;have swc:=(sw1.trans sS).trans sc;have Wc:=Ww.same swc;have hhc:=swc _ _ hhw;have okc:∀ t∈t6++t6.take 1,t.ok S2:=fun t ht=>by
          rcases List.mem_append.mp ht with z | z
          · exact ok6 t z
          · exact ok6 t (mem_of_mem_take z)
        have lenc:(t6++t6.take 1).length≤20:=by rw [length_append,length_take]; omega
        generalize upd Hs lc (.lst (p6.map V.ref++(p6.take 1).map V.ref))=Hc at swc Ac Wc hhc ⊢;walk_at "go";intro r3 l3 H3' s3' fr3 fl3 J3;have sw3:=swc.trans s3';have DJ2:=Zcq wf2 oh ok6 (fun t=>by rw [mem_append]; exact ⟨.inl,fun z=>z.elim id fun z=>mem_of_mem_take z⟩) (JW.same sw3) J3;walk_at "go";exact fin6 _ ((s7.trans s8w).trans sw3) _ _ _ _ _ _ _ _
    · exact fin6 _ (Zj.refl _) _ _ _ _ _ _ _ _
  have turn:PSs (X1 CX0 P w0 K mg base ["_law_script","_law_n","_law_model_here","_law_world","_law_deeds","_law_k","_law_m","_law_deed","_law_holder_here","_law_atoms","_law_term","_law_alone","_law_whole"] "law" (Zb Zag) f cdv A outer s H E).nox ((ZfF ((Zk Zag).getD 4 (.Pass ⟨0,0,0,0⟩))).drop 2) (fun D σ H9=>∃ (a m w l:Addr)  (n kk mm:Int) (S:Mo) (R RM RX:List Addr) (xs:Unit) (i dl:Nat) (p:Addr) (d:Deed) (dps:List Addr) (v8 v9 v10 v11 v12:Option V),σ=[some (.ref a),some (.int n),some (.ref m),some (.ref w),some (.ref l),some (.int kk),some (.int mm),some (.ref p),v8,v9,v10,v11,v12]∧WorldAt g H9 w S R∧Jr H9 m S RM∧Dj RM R∧DtX H9 S xs RX∧Dj RX R∧Dj RX RM∧S.Ok i∧i<30∧kk=0+(i:Int)∧H9 l=some (.lst (dps.map V.ref))∧dps.length=dl∧l∉R++RM++RX∧H9 p=some (.tup d.vals)∧S.good 25 d∧Zdm (S.step d)∧∀ R' H' xs' RX' v5 v6 v7 v8 v9 v10 v11 v12,Z3 (R++RM++RX) H9 H'→ZaB H9 R R'→ZaB H9 RX RX'→WorldAt g H' w (S.step d) R'→Jr H' m (S.step d) RM→Dj RM R'→DtX H' (S.step d) xs' RX'→Dj RX' R'→Dj RX' RM→D.nx [some (.ref a),some (.int n),some (.ref m),some (.ref w),some (.ref l),v5,v6,v7,v8,v9,v10,v11,v12] H'):=by
    refine @Jw _ _ _ _ ((@Ze _ _ _ _ _ (@ZH _ _ _ _ (@Zv _ _ _ _ _ _ _ _ _ _ QbU (hr.mono (by decide)) (@Za _ _ _ _ _ (by walk_at "3") (@Za _ _ _ _ _ (by walk_at "7") (@Zc _) (by rfl)) (by rfl)) (by rfl) (by decide) (by rfl) (by rfl)) (by rfl)) (@Ze _ _ _ _ _ (@ZH _ _ _ _ (@Zv _ _ _ _ _ _ _ _ _ _ QbV (hr.mono (by decide)) (@Za _ _ _ _ _ (by walk_at "2") (@Za _ _ _ _ _ (by walk_at "7") (@Zc _) (by rfl)) (by rfl)) (by rfl) (by decide) (by rfl) (by rfl)) (by rfl)) (@Ze _ _ _ _ _ (@Zw _ _ (6) _ _ _ _ Xl.nd rfl (Or.inl rfl) (@Zv _ _ _ _ _ _ _ _ _ _ Qaz (hr.mono (by decide)) (@Za _ _ _ _ _ (@Zn _ _ _ _ _ _ _ _ (@ZM _) (by walk_at "6") (@Zf _ _ _ _)) (@Za _ _ _ _ _ (@Zn _ _ _ _ _ _ _ _ (@Z6 _) (by walk_at "5") (@Zf _ _ _ _)) (@Zc _) (by rfl)) (by rfl)) (by rfl) (by decide) (by rfl) (by rfl)) (by rfl) (by walk_at "u")) (@Ze _ _ _ _ _ (@Zfe _ _ _ _ _ _ (@Zv _ _ _ _ _ _ _ _ _ _ QbW (hr.mono (by decide)) (@Za _ _ _ _ _ (by walk_at "2") (@Za _ _ _ _ _ (by walk_at "6") (@Zc _) (by rfl)) (by rfl)) (by rfl) (by decide) (by rfl) (by rfl)) (@Zg1 _ _ _ _ _ _ rfl (@Xo _ _ _ _ _ (@Yk _ _ (8) _ Xl.nd rfl (Or.inr rfl) (by walk_at "u")) (@Xo _ _ _ _ _ (@Yk _ _ (9) _ Xl.nd rfl (Or.inl rfl) (by walk_at "u")) (@Zdq _) (by rfl)) (by rfl)) (by rfl) (by rfl)) (by rfl) (by rfl) (by rfl)) @turn6))))) ?_;rintro D σ H9 ⟨a,m,w,l,n,kk,mm,S,R,RM,RX,xs,i,dl,p,d,dps,v8,v9,v10,v11,v12,rfl,W,M,dj,E,dER,dEM,O,hi,hkk,hl9,hdl,nl9,hp,hg,rt,qn⟩;refine ⟨_,rfl,_,rfl,w,S,R,p,d,25,i,rfl,W,hp,O,by omega,hg,by decide,fun v R1 H1 k1 gr W1=>?_⟩;have hp1:=k1.1 p _ (W.no_tup hp) hp;refine ⟨_,rfl,_,rfl,m,S,RM,p,d,25,i,rfl,M.keep k1 dj,hp1,O,by omega,hg,fun H2 k2 M2=>?_⟩;have dj1:Dj RM R1:=dj.grow M.live gr;have O2:=O.step hg (by omega);have W2:=W1.keep k2 dj1.symm;have E1:=DtX.keep E k1 dER;have E2:=DtX.step (DtX.keep E1 k2 dEM) hg O;have dER1:Dj RX R1:=dER.grow (DtX.live E) gr;have hl2:H2 l=some (.lst (dps.map V.ref)):=k2.1 _ _ (fun z=>nl9 (by simp [z])) (k1.1 _ _ (fun z=>nl9 (by simp [z])) hl9);have nlX:l∉RX:=fun z=>nl9 (by simp [z]);have kA:Z3 (R++RM++RX) H9 H2:=(k1.wide (fun x hx=>by simp [hx])).tr k2 (fun x hx => .inl (by simp [hx]));have lb2:=O2.lb;have fr2:∀ x,H2 x=none→H9 x=none:=fun x hx=>kA.2 x hx;have fin:∀ H' xs' RX',Z3 RX H2 H'→ZaB H2 RX RX'→DtX H' (S.step d) xs' RX'→∀ v5 v6 v7 v8 v9 v10 v11 v12,D.nx [some (.ref a),some (.int n),some (.ref m),some (.ref w),some (.ref l),v5,v6,v7,v8,v9,v10,v11,v12] H':=fun H' xs' RX' kx gx E' v5 v6 v7 v8 v9 v10 v11 v12 =>
      qn R1 H' xs' RX' v5 v6 v7 v8 v9 v10 v11 v12 (kA.tr kx (fun x hx => .inl (by simp [hx]))) gr (fun x hx=>(gx x hx).imp id (fr2 x)) (W2.keep kx dER1.symm) (M2.keep kx dEM.symm) dj1 E' (fun x hx hx2=>(gx x hx).elim (fun z=>dER1 x z hx2) (fun z=>by obtain ⟨o,e⟩:=W2.live x hx2; rw [z] at e; cases e)) (fun x hx hx2=>(gx x hx).elim (fun z=>dEM x z hx2) (fun z=>by obtain ⟨o,e⟩:=M2.live x hx2; rw [z] at e; cases e))
    clear qn kA;generalize hSd:S.step d=S2 at *;clear M W hSd k1 k2 hg hp1 gr O hp W1 E1 E fr2 hl9 nl9;have wf2:=O2.wf;have lb40:S2.bs.length≤40:=by omega
    have lb98:S2.bs.length≤98:=by omega
    have fin2:∀ H',Zj H2 H'→∀ v5 v6 v7 v8 v9 v10 v11 v12,D.nx [some (.ref a),some (.int n),some (.ref m),some (.ref w),some (.ref l),v5,v6,v7,v8,v9,v10,v11,v12] H':=fun H' s=>fin H' () RX (s.kp.wide (fun _ h=>nomatch h)) (ZaB.refl _ _) (E2.same s);walk_at "go";intro r9;walk_at "go";intro h ts ps r2 p2 l2 H3 s3 hr2 hp2 oh A3 ok3 tl3;have W3:=W2.same s3;have M3:=M2.same s3;have DD:=E2.d;walk_at "go";exact fun H' s v5 v6 v7 v8 v9 v10 v11 v12=>fin2 H' (s3.trans s) v5 v6 v7 v8 v9 v10 v11 v12
  have ZbY:PSs (X1 CX0 P w0 K mg base ["_law_script","_law_n","_law_model_here","_law_world","_law_deeds","_law_k","_law_m","_law_deed","_law_holder_here","_law_atoms","_law_term","_law_alone","_law_whole"] "law" (Zb Zag) f cdv A outer s H E).nox ((Zk Zag).drop 5) (fun D σ H1=>∃ (a m w:Addr)  (n:Int) (S:Mo) (R RM RX:List Addr) (xs:Unit) (i:Nat) (v4 v5 v6 v7 v8 v9 v10 v11 v12:Option V),σ=[some (.ref a),some (.int n),some (.ref m),some (.ref w),v4,v5,v6,v7,v8,v9,v10,v11,v12]∧WorldAt g H1 w S R∧Jr H1 m S RM∧Dj RM R∧DtX H1 S xs RX∧Dj RX R∧Dj RX RM∧S.Ok i∧0<i∧i<30∧Zdm S∧∀ H',D.rt (.bl true) H'):=by
    refine @Jw _ _ _ _ ((@Zg _ _ _ (@Zm _ _ _ _ (@Zau _ _ _ _)))) ?_;rintro D σ H1 ⟨a,m,w,n,S,R,RM,RX,xs,i,v4,v5,v6,v7,v8,v9,v10,v11,v12,rfl,W,M,dj,E,dER,dEM,O,hi0,hi,RT,q⟩;exact q H1
  refine ⟨_,(@Ze _ _ _ _ _ (@Zw _ _ (1) _ _ _ _ Xl.nd rfl (Or.inl rfl) (@Zv _ _ _ _ _ _ _ _ _ _ Qaz (hr.mono (by decide)) (@Za _ _ _ _ _ (@Zv _ _ _ _ _ _ _ _ _ _ Qa0 (hr.mono (by decide)) (@Za _ _ _ _ _ (by walk_at "0") (@Za _ _ _ _ _ (@Zf _ _ _ _) (@Zc _) (by rfl)) (by rfl)) (by rfl) (by decide) (by rfl) (by rfl)) (@Za _ _ _ _ _ (@Zf _ _ _ _) (@Zc _) (by rfl)) (by rfl)) (by rfl) (by decide) (by rfl) (by rfl)) (by rfl) (by walk_at "u")) (@Ze _ _ _ _ _ (@Zw _ _ (2) _ _ _ _ Xl.nd rfl (Or.inl rfl) (@Zv _ _ _ _ _ _ _ _ _ _ QbS (hr.mono (by decide)) (@Za _ _ _ _ _ (@Zn _ _ _ _ _ _ _ _ (@ZM _) (by walk_at "1") (@Zf _ _ _ _)) (@Zc _) (by rfl)) (by rfl) (by decide) (by rfl) (by rfl)) (by rfl) (by walk_at "u")) (@Ze _ _ _ _ _ (@Zw _ _ (3) _ _ _ _ Xl.nd rfl (Or.inr rfl) (@pe_mk _ _ _ _ _ _ _ _ _ _ _ _ _ Xr QbY (hr.mono (by decide)) rfl (@Za _ _ _ _ _ (@Zt _ _ _ _ _ _ _ (@Z2 _) (@Zt _ _ _ _ _ _ _ (@Zr _) (by walk_at "2") (@Zf _ _ _ _) (fun _ _=>rfl)) (@Zf _ _ _ _) (fun _ _=>rfl)) (@Zc _) (by rfl)) (by decide) (by rfl) (by rfl)) (by rfl) (by walk_at "u")) (@Ze _ _ _ _ _ (@Zw _ _ (4) _ _ _ _ Xl.nd rfl (Or.inl rfl) (@Zv _ _ _ _ _ _ _ _ _ _ QbT (hr.mono (by decide)) (@Za _ _ _ _ _ (@Zv _ _ _ _ _ _ _ _ _ _ Qaz (hr.mono (by decide)) (@Za _ _ _ _ _ (@Zv _ _ _ _ _ _ _ _ _ _ Qa0 (hr.mono (by decide)) (@Za _ _ _ _ _ (by walk_at "0") (@Za _ _ _ _ _ (@Zf _ _ _ _) (@Zc _) (by rfl)) (by rfl)) (by rfl) (by decide) (by rfl) (by rfl)) (@Za _ _ _ _ _ (@Zf _ _ _ _) (@Zc _) (by rfl)) (by rfl)) (by rfl) (by decide) (by rfl) (by rfl)) (@Zc _) (by rfl)) (by rfl) (by decide) (by rfl) (by rfl)) (by rfl) (by walk_at "u")) (@Ze _ _ _ _ _ (@Za0 _ _ _ _ _ _ _ _ PassesOwn.never rfl (@ZaL _ _ _ _ _ _ rfl T.z_range (@Za _ _ _ _ _ (@Zn _ _ _ _ _ _ _ _ (@Z6 _) (@ZD _ _ _ _ _ _ _ _ _ (@ZQ _) rfl T.z_len boot_len (@Za _ _ _ _ _ (by walk_at "4") (@Zc _) (by rfl)) (by decide) (by decide) (by rfl) (by rfl)) (@ZD _ _ _ _ _ _ _ _ _ (@ZeQ _ rfl) rfl T.z_min PyProof.Rows.boot_min (@Za _ _ _ _ _ (@Zf _ _ _ _) (@Za _ _ _ _ _ (@ZD _ _ _ _ _ _ _ _ _ (@ZbK _ rfl) rfl T.z_max boot_max (@Za _ _ _ _ _ (@Zf _ _ _ _) (@Za _ _ _ _ _ (@Zn _ _ _ _ _ _ _ _ (@Zaz _) (@ZD _ _ _ _ _ _ _ _ _ (@ZQ _) rfl T.z_len boot_len (@Za _ _ _ _ _ (by walk_at "0") (@Zc _) (by rfl)) (by decide) (by decide) (by rfl) (by rfl)) (@Zf _ _ _ _)) (@Zc _) (by rfl)) (by rfl)) (by decide) (by decide) (by rfl) (by rfl)) (@Zc _) (by rfl)) (by rfl)) (by decide) (by decide) (by rfl) (by rfl))) (@Zc _) (by rfl)) (by rfl)) (@Yk _ _ (5) _ Xl.nd rfl (Or.inl rfl) (by walk_at "u")) (@Ze _ _ _ _ _ (@Zw _ _ (6) _ _ _ _ Xl.nd rfl (Or.inl rfl) (@Zv _ _ _ _ _ _ _ _ _ _ Qaz (hr.mono (by decide)) (@Za _ _ _ _ _ (@Zv _ _ _ _ _ _ _ _ _ _ Qa0 (hr.mono (by decide)) (@Za _ _ _ _ _ (by walk_at "0") (@Za _ _ _ _ _ (@Zn _ _ _ _ _ _ _ _ (@Z6 _) (@Zf _ _ _ _) (@ZD _ _ _ _ _ _ _ _ _ (@ZbK _ rfl) rfl T.z_max boot_max (@Za _ _ _ _ _ (@Zf _ _ _ _) (@Za _ _ _ _ _ (@Zn _ _ _ _ _ _ _ _ (@Zaz _) (by walk_at "5") (@ZD _ _ _ _ _ _ _ _ _ (@ZQ _) rfl T.z_len boot_len (@Za _ _ _ _ _ (by walk_at "4") (@Zc _) (by rfl)) (by decide) (by decide) (by rfl) (by rfl))) (@Zc _) (by rfl)) (by rfl)) (by decide) (by decide) (by rfl) (by rfl))) (@Zc _) (by rfl)) (by rfl)) (by rfl) (by decide) (by rfl) (by rfl)) (@Za _ _ _ _ _ (by walk_at "5") (@Zc _) (by rfl)) (by rfl)) (by rfl) (by decide) (by rfl) (by rfl)) (by rfl) (by walk_at "u")) (@Ze _ _ _ _ _ (@Zy _ _ _ _ _ _ _ _ (@Zp _ _ _ _ _ _ _ _ (@Zbr _) (by walk_at "5") (@ZD _ _ _ _ _ _ _ _ _ (@ZQ _) rfl T.z_len boot_len (@Za _ _ _ _ _ (by walk_at "4") (@Zc _) (by rfl)) (by decide) (by decide) (by rfl) (by rfl)) (Zu _)) (@Zg _ _ _ (@Zw _ _ (7) _ _ _ _ Xl.nd rfl (Or.inl rfl) (@Zt _ _ _ _ _ _ _ (@Z2 _) (by walk_at "4") (by walk_at "5") (fun _ _=>rfl)) (by rfl) (by walk_at "u"))) (@Zg _ _ _ (@Zw _ _ (7) _ _ _ _ Xl.nd rfl (Or.inl rfl) (@Zv _ _ _ _ _ _ _ _ _ _ QbX (hr.mono (by decide)) (@Za _ _ _ _ _ (by walk_at "2") (@Za _ _ _ _ _ (by walk_at "6") (@Za _ _ _ _ _ (@Zf _ _ _ _) (@Zc _) (by rfl)) (by rfl)) (by rfl)) (by rfl) (by decide) (by rfl) (by rfl)) (by rfl) (by walk_at "u")))) @turn)) (by intro _ ; rfl)) @ZbY))))),?_⟩;have s00:Zj H H:=Zj.refl H;have E0:∀ y:Int,DtX H (mo0 y) () []:=fun y=>⟨Dated.zero y,rfl⟩;have fE:∀ x∈([]:List Addr),H x=none:=fun x hx=>by cases hx
  obtain ⟨RX0,eRX0⟩:∃ X:List Addr,X=[]:=⟨_,rfl⟩;rw [← eRX0] at E0 fE;obtain ⟨xs0,exs0⟩:∃ X:Unit,X=():=⟨_,rfl⟩;rw [← exs0] at E0;clear eRX0 exs0;refine ⟨_,rfl,a,ns,0,rfl,s00.seq hS,by decide,fun c0=>⟨c0,1,rfl,fun n=>⟨_,rfl,_,_,rfl,rfl,(by show (0:Int)<3000; decide),_,rfl,fun m RM H1 s1 fM M=>?_⟩⟩⟩;have z0:=emod_nonneg n (show (3000:Int)≠0 by decide);have z1:=emod_lt_of_pos n (show (0:Int)<3000 by decide);obtain ⟨c,e1,e2,e3,BM⟩:=M.tup_of;refine ⟨_,rfl,m,_,_,_,rfl,rfl,SqT.of BM.tup,rfl,c,_,_,_,rfl,rfl,SqL.of BM.clk,rfl,?_⟩;intro w dxl nb ndx nex;refine ⟨w,dxl,_,rfl,Zd,(fun e=>absurd ⟨z0,by show n % 3000≤9999; omega⟩ e),fun _ R0 H2 kp fr W=>⟨rfl,?_⟩⟩;have s12:=made nb ndx kp;have fR:∀ x∈R0,H1 x=none:=fun x hx=>(fr x hx).elim (fun e=>by rw [e]; exact nb) ZeH;have s02:=s1.trans s12;refine ⟨_,rfl,a,ns,1,rfl,(s00.trans s02).seq hS,by decide,fun c1=>⟨c1,2,rfl,fun r1=>⟨r1,rfl,fun l was ps H3 s23 fl FF hne DD=>?_⟩⟩⟩;have W3:=W.same s23;have M3:=(M.same s12).same s23;have dMR:Dj RM R0:=M.live.dj fR;have s03:=s02.trans s23;have E3:=DtX.same (E0 (n % 3000)) s03;have lv0:=DtX.live (E0 (n % 3000));have dE0R:Dj RX0 R0:=lv0.dj (fun x hx=>s1.free (fR x hx));have dE0M:Dj RX0 RM:=lv0.dj fM;obtain ⟨X,hX⟩:∃ X,X=R0++RM++RX0:=⟨_,rfl⟩;have fX:∀ x∈X,H x=none:=fun x hx=>by
    rw [hX] at hx;rcases List.mem_append.mp hx with hx | hx
    · rcases List.mem_append.mp hx with hx | hx
      · exact s00.free (s1.free (fR x hx))
      · exact s00.free (fM x hx)
    · exact fE x hx
  have dX:Dj (l::ps) X:=fun x hx hx2=>by
    have z:=fl x hx;rw [hX] at hx2;rcases List.mem_append.mp hx2 with h2 | h2
    · rcases List.mem_append.mp h2 with h2 | h2
      · obtain ⟨o,e⟩:=W.live x h2; rw [z] at e; cases e
      · obtain ⟨o,e⟩:=(M.same s12).live x h2; rw [z] at e; cases e
    · obtain ⟨o,e⟩:=lv0 x h2; rw [s02.free z] at e; cases e
  have pl:ps.length=was.length:=by rw [DD.len,length_map]
  refine ⟨_,rfl,_,_,rfl, .inl ⟨_,SqL.of DD.lst,rfl⟩,_,rfl,_,_,rfl, .inl ⟨_,(s00.trans s03).seq hS,rfl⟩,_,_,rfl,rfl,_,_,rfl,_,_,rfl,_,_,rfl,rfl,?_⟩;obtain ⟨t,ht,ht16⟩:∃ t:Nat,(if (if ((ns.map V.int).length:Int) - 2>0 then ((ns.map V.int).length:Int) - 2 else 0)<12 then (if ((ns.map V.int).length:Int) - 2>0 then ((ns.map V.int).length:Int) - 2 else 0) else 12)=(t:Int)∧t≤12:=by
    refine ⟨(if (if ((ns.map V.int).length:Int) - 2>0 then ((ns.map V.int).length:Int) - 2 else 0)<12 then (if ((ns.map V.int).length:Int) - 2>0 then ((ns.map V.int).length:Int) - 2 else 0) else 12).toNat,?_,?_⟩ <;> split <;> split <;> omega
  rw [ht];have hl3w:=FF.len;have e2:(((ps.map V.ref).length:Nat):Int)+(t:Int)=((was.length+t:Nat):Int):=by rw [length_map,pl]; omega
  refine ⟨_,rfl,by rw [e2]; omega,by rw [e2]; omega,?_⟩;rw [e2];have hwpos:0<was.length:=by cases was with | nil=>exact absurd rfl hne | cons x r=>simp
  refine ZbI (n:=was.length+t) (fun i σ H2=>∃ (S:Mo) (R RX:List Addr) (xs:Unit) (v5 v6 v7 v8 v9 v10 v11 v12:Option V),σ=[some (.ref a),some (.int n),some (.ref m),some (.ref w),some (.ref l),v5,v6,v7,v8,v9,v10,v11,v12]∧Z3 X H3 H2∧WorldAt g H2 w S R∧Jr H2 m S RM∧Dj RM R∧ZaB H3 X R∧DtX H2 S xs RX∧Dj RX R∧Dj RX RM∧ZaB H3 X RX∧S.Ok i∧(i≤was.length→S.bs.map (·.1)=(was.take i).map (·.1))∧(0<i→Zdm S)) ?_ ?_ ?_
  · exact ⟨mo0 _,R0,RX0,xs0,none,none,none,none,none,none,none,none,rfl,Z3.refl _ _,W3,M3,dMR,fun x hx => .inl (by rw [hX]; simp [hx]),E3,dE0R,dE0M,fun x hx => .inl (by rw [hX]; simp [hx]),Mo.Ok.zero _,fun _=>rfl,fun z=>absurd z (lt_irrefl 0)⟩
  · rintro i σ H8 hi ⟨S,R,RX,xs,v5,v6,v7,v8,v9,v10,v11,v12,rfl,K8,W8,M8,dj,gX,E8,dER,dEM,gE,O,hw,rt⟩;have s08:Zj H H8:=(s00.trans s03).keep K8 fX;have D8:=DD.keep K8 dX;have i27:i<20:=by omega
    have nlA:l∉R++RM++RX:=fun hx=>by
      have nX:l∉X:=dX l (by simp);obtain ⟨o3,e3⟩:=DD.live l (by simp);rcases List.mem_append.mp hx with hx | hx
      · rcases List.mem_append.mp hx with hx | hx
        · rcases gX l hx with z | z
          · exact nX z
          · rw [z] at e3; cases e3
        · exact nX (by rw [hX]; simp [hx])
      · rcases gE l hx with z | z
        · exact nX z
        · rw [z] at e3; cases e3
    have inX:∀ x∈R++RM++RX,x∈X∨H3 x=none:=fun x hx=>by
      rcases List.mem_append.mp hx with hx | hx
      · rcases List.mem_append.mp hx with hx | hx
        · exact gX x hx
        · exact .inl (by rw [hX]; simp [hx])
      · exact gE x hx
    have ik:(0:Int)≤2+(if (0:Int)+(i:Int) - (((ps.map V.ref).length:Nat):Int)>0 then (0:Int)+(i:Int) - (((ps.map V.ref).length:Nat):Int) else 0):=by split <;> omega
    refine ⟨_,rfl,_,rfl,_,rfl,_,_,rfl, .inl ⟨_,SqL.of D8.lst,rfl⟩,_,_,rfl,rfl,_,_,rfl,_,_,rfl,rfl,a,ns,_,rfl,s08.seq hS,ik,fun c2=>⟨_,rfl,c2,_,rfl,fun n2=>?_⟩⟩;refine ⟨_,rfl,_,rfl,_,_,rfl, .inl ⟨_,SqL.of D8.lst,rfl⟩,_,_,rfl,rfl,_,rfl,Yj (fun c=>?_) (fun c=>?_)⟩
    · have ci:i<was.length:=by have z:=of_decide_eq_true c; rw [length_map,pl] at z; omega
      have hpi:ps[i]? = some (ps[i]'(by omega)):=getElem?_eq_getElem (by omega);have e3:atI (ps.map V.ref) (0+(i:Int))=some (.ref (ps[i]'(by omega))):=by
        rw [Int.zero_add];exact Za4 (by rw [getElem?_map,hpi]; rfl)
      refine ⟨_,rfl,_,rfl,l,_,_,_,rfl,rfl,SqL.of D8.lst,e3,?_⟩;have hp:=D8.at_ i _ (arr was[i]) hpi (by rw [getElem?_map,getElem?_eq_getElem ci]; rfl);obtain ⟨hg,hw2⟩:=FF.good ci (hw (by omega)) (far:=25);have rt2:=FF.root hne (Nat.succ_pos i) hw2;exact ⟨a,m,w,l,n,_,n2,S,R,RM,RX,xs,i,_,_,_,ps,_,_,_,_,_,rfl,W8,M8,dj,E8,dER,dEM,O,by omega,rfl,D8.lst,rfl,nlA,hp,hg,rt2,fun R' H' xs' RX' v5 v6 v7 v8 v9 v10 v11 v12 k gr gr2 L' M' dj' E' dA dB=>⟨_,R',RX',xs',v5,v6,v7,v8,v9,v10,v11,v12,rfl,K8.tr k inX,L',M',dj',fun x hx=>(gr x hx).elim (gX x) fun z => .inr (K8.2 x z),E',dA,dB,fun x hx=>(gr2 x hx).elim (gE x) fun z => .inr (K8.2 x z),O.step hg (by omega),fun _=>hw2,fun _=>rt2⟩⟩
    · have ci:was.length≤i:=by
        have z:¬ ((0:Int)+(i:Int)<(((ps.map V.ref).length:Nat):Int)):=fun w=>c (decide_eq_true w);rw [length_map,pl] at z;omega
      refine ⟨_,rfl,_,rfl,m,S,RM,n2,25,rfl,M8,by have:=O.lb; omega,by decide,fun d p H9 hg s9 _ hp=>?_⟩;exact ⟨a,m,w,l,n,_,n2,S,R,RM,RX,xs,i,_,p,d,ps,_,_,_,_,_,rfl,W8.same s9,M8.same s9,dj,DtX.same E8 s9,dER,dEM,O,by omega,rfl,s9 _ _ D8.lst,rfl,nlA,hp,hg,(rt (by omega)).step d,fun R' H' xs' RX' v5 v6 v7 v8 v9 v10 v11 v12 k gr gr2 L' M' dj' E' dA dB=>⟨_,R',RX',xs',v5,v6,v7,v8,v9,v10,v11,v12,rfl,(K8.same s9).tr k inX,L',M',dj',fun x hx=>(gr x hx).elim (gX x) fun z => .inr (K8.2 x (s9.free z)),E',dA,dB,fun x hx=>(gr2 x hx).elim (gE x) fun z => .inr (K8.2 x (s9.free z)),O.step hg (by omega),fun z=>by omega,fun _=>(rt (by omega)).step d⟩⟩
  · rintro σ H8 ⟨S,R,RX,xs,v5,v6,v7,v8,v9,v10,v11,v12,rfl,K8,W8,M8,dj,gX,E8,dER,dEM,gE,O,hw,rt⟩;exact ⟨a,m,w,n,S,R,RM,RX,xs,was.length+t,_,_,_,_,_,_,_,_,_,rfl,W8,M8,dj,E8,dER,dEM,O,by omega,by omega,rt (by omega),q⟩
end
theorem all_mk {l:PySem.W.OpenLaw} {w:World} {K:Frag} {h:Heap} {mg:Str→Option Value} {fa:Addr} (X:K.In h) (G:h.Ns mainGlobals mg) (hfa:mg "law"=some (.ref fa))
    {Qa6:Addr}
    {Qao:Addr}
    {Qap:Addr}
    {Qaq:Addr}
    {Qar:Addr}
    {Qas:Addr}
    {Qat:Addr}
    {Qad:Addr}
    {Qaf:Addr}
    {Qa7:Tok}
    {Qa8:Tok}
    {Qa9:Tok}
    {Qba:Tok}
    {Qbb:Tok}
    {Qbc:Tok}
    {Qa1:Addr} {Qdr:Option Addr} {Qds:Nat} {Qdt:Array (Option Value)} {Qdu Qdv:Tok}
    {Qbd:Tok}
    {Qbe:Tok}
    {Qbf:Tok}
    {Qbg:Tok}
    {Qbh:Tok}
    {Qa2:Addr} {Qdw:Option Addr} {Qdx:Nat} {Qdy:Array (Option Value)} {Qdz QdA QdB:Tok}
    {f0 f1 f2 f3 f4 f5 f6 f7 f8 f9 f10 f11 f12 f13 f14 f15 f16 f17 f18 f19 f20 f21 f22 f23 f24 f25 f26 f27 f28 f29 f30 f31 f32 f33 f34 f35 f36 f37 f38 f39 f40 f41 f42 f43 f44 f45 f46 f47 f48 f49 f50 f51 f52 f53 f54 f55 f56 f57 f58 f59 f60 f61 f62 f63 f64 f65 f66 f67 f68 f69 f70 f71 f72 f73 f74 f75 f76 f77:Addr} {od0 an0 od1 an1 od2 an2 od3 an3 od4 an4 od5 an5 od6 an6 od7 an7 od8 an8 od9 an9 od10 an10 od11 an11 od12 an12 od13 an13 od14 an14 od15 an15 od16 an16 od17 an17 od18 an18 od19 an19 od20 an20 od21 an21 od22 an22 od23 an23 od24 an24 od25 an25 od26 an26 od27 an27 od28 an28 od29 an29 od30 an30 od31 an31 od32 an32 od33 an33 od34 an34 od35 an35 od36 an36 od37 an37 od38 an38 od39 an39 od40 an40 od41 an41 od42 an42 od43 an43 od44 an44 od45 an45 od46 an46 od47 an47 od48 an48 od49 an49 od50 an50 od51 an51 od52 an52 od53 an53 od54 an54 od55 an55 od56 an56 od57 an57 od58 an58 od59 an59 od60 an60 od61 an61 od62 an62 od63 an63 od64 an64 od65 an65 od66 an66 od67 an67 od68 an68 od69 an69 od70 an70 od71 an71 od72 an72 od73 an73 od74 an74 od75 an75 od76 an76 od77 an77:Option Addr} {sl0 sl1 sl2 sl3 sl4 sl5 sl6 sl7 sl8 sl9 sl10 sl11 sl12 sl13 sl14 sl15 sl16 sl17 sl18 sl19 sl20 sl21 sl22 sl23 sl24 sl25 sl26 sl27 sl28 sl29 sl30 sl31 sl32 sl33 sl34 sl35 sl36 sl37 sl38 sl39 sl40 sl41 sl42 sl43 sl44 sl45 sl46 sl47 sl48 sl49 sl50 sl51 sl52 sl53 sl54 sl55 sl56 sl57 sl58 sl59 sl60 sl61 sl62 sl63 sl64 sl65 sl66 sl67 sl68 sl69 sl70 sl71 sl72 sl73 sl74 sl75 sl76 sl77:Array (Option Value)} {oc0 kV0 dc0 pm0 cd0 ct0 oc1 kV1 dc1 pm1 cd1 ct1 oc2 kV2 dc2 pm2 cd2 ct2 oc3 kV3 dc3 pm3 cd3 ct3 oc4 kV4 dc4 pm4 cd4 ct4 oc5 kV5 dc5 pm5 cd5 ct5 oc6 kV6 dc6 pm6 cd6 ct6 oc7 kV7 dc7 pm7 cd7 ct7 oc8 kV8 dc8 pm8 cd8 ct8 oc9 kV9 dc9 pm9 cd9 ct9 oc10 kV10 dc10 pm10 cd10 ct10 oc11 kV11 dc11 pm11 cd11 ct11 oc12 kV12 dc12 pm12 cd12 ct12 oc13 kV13 dc13 pm13 cd13 ct13 oc14 kV14 dc14 pm14 cd14 ct14 oc15 kV15 dc15 pm15 cd15 ct15 oc16 kV16 dc16 pm16 cd16 ct16 oc17 kV17 dc17 pm17 cd17 ct17 oc18 kV18 dc18 pm18 cd18 ct18 oc19 kV19 dc19 pm19 cd19 ct19 oc20 kV20 dc20 pm20 cd20 ct20 oc21 kV21 dc21 pm21 cd21 ct21 oc22 kV22 dc22 pm22 cd22 ct22 oc23 kV23 dc23 pm23 cd23 ct23 oc24 kV24 dc24 pm24 cd24 ct24 oc25 kV25 dc25 pm25 cd25 ct25 oc26 kV26 dc26 pm26 cd26 ct26 oc27 kV27 dc27 pm27 cd27 ct27 oc28 kV28 dc28 pm28 cd28 ct28 oc29 kV29 dc29 pm29 cd29 ct29 oc30 kV30 dc30 pm30 cd30 ct30 oc31 kV31 dc31 pm31 cd31 ct31 oc32 kV32 dc32 pm32 cd32 ct32 oc33 kV33 dc33 pm33 cd33 ct33 oc34 kV34 dc34 pm34 cd34 ct34 oc35 kV35 dc35 pm35 cd35 ct35 oc36 kV36 dc36 pm36 cd36 ct36 oc37 kV37 dc37 pm37 cd37 ct37 oc38 kV38 dc38 pm38 cd38 ct38 oc39 kV39 dc39 pm39 cd39 ct39 oc40 kV40 dc40 pm40 cd40 ct40 oc41 kV41 dc41 pm41 cd41 ct41 oc42 kV42 dc42 pm42 cd42 ct42 oc43 kV43 dc43 pm43 cd43 ct43 oc44 kV44 dc44 pm44 cd44 ct44 oc45 kV45 dc45 pm45 cd45 ct45 oc46 kV46 dc46 pm46 cd46 ct46 oc47 kV47 dc47 pm47 cd47 ct47 oc48 kV48 dc48 pm48 cd48 ct48 oc49 kV49 dc49 pm49 cd49 ct49 oc50 kV50 dc50 pm50 cd50 ct50 oc51 kV51 dc51 pm51 cd51 ct51 oc52 kV52 dc52 pm52 cd52 ct52 oc53 kV53 dc53 pm53 cd53 ct53 oc54 kV54 dc54 pm54 cd54 ct54 oc55 kV55 dc55 pm55 cd55 ct55 oc56 kV56 dc56 pm56 cd56 ct56 oc57 kV57 dc57 pm57 cd57 ct57 oc58 kV58 dc58 pm58 cd58 ct58 oc59 kV59 dc59 pm59 cd59 ct59 oc60 kV60 dc60 pm60 cd60 ct60 oc61 kV61 dc61 pm61 cd61 ct61 oc62 kV62 dc62 pm62 cd62 ct62 oc63 kV63 dc63 pm63 cd63 ct63 oc64 kV64 dc64 pm64 cd64 ct64 oc65 kV65 dc65 pm65 cd65 ct65 oc66 kV66 dc66 pm66 cd66 ct66 oc67 kV67 dc67 pm67 cd67 ct67 oc68 kV68 dc68 pm68 cd68 ct68 oc69 kV69 dc69 pm69 cd69 ct69 oc70 kV70 dc70 pm70 cd70 ct70 oc71 kV71 dc71 pm71 cd71 ct71 oc72 kV72 dc72 pm72 cd72 ct72 oc73 kV73 dc73 pm73 cd73 ct73 oc74 kV74 dc74 pm74 cd74 ct74 oc75 kV75 dc75 pm75 cd75 ct75 oc76 kV76 dc76 pm76 cd76 ct76 oc77 kV77 dc77 pm77 cd77 ct77:Value}
    (QbZ:nsIn K mainGlobals "int"=some none)
    (Qb0:nsIn K mainGlobals "len"=some none)
    (Qb1:nsIn K mainGlobals "range"=some none)
    (Qb2:nsIn K mainGlobals "list"=some none)
    (Qb3:nsIn K mainGlobals "str"=some none)
    (Qb4:nsIn K mainGlobals "min"=some none)
    (Qb5:nsIn K mainGlobals "max"=some none)
    (Qb6:nsIn K mainGlobals "sorted"=some none)
    (Qb7:nsIn K mainGlobals "set"=some none)
    (Qb8:nsIn K mainGlobals "ValueError"=some none)
    (Qb9:nsIn K mainGlobals "LandError"=some (some (.ref Qa6)))
    (Qca:nsIn K mainGlobals "NoText"=some (some (.ref Qao)))
    (Qcb:nsIn K mainGlobals "OutOfBound"=some (some (.ref Qap)))
    (Qcc:nsIn K mainGlobals "Taken"=some (some (.ref Qaq)))
    (Qcd:nsIn K mainGlobals "NoPerson"=some (some (.ref Qar)))
    (Qce:nsIn K mainGlobals "Gone"=some (some (.ref Qas)))
    (Qcf:nsIn K mainGlobals "TooDeep"=some (some (.ref Qat)))
    (Qcg:excIn K Qas bmV "ValueError.__new__"=true)
    (Qch:findIn K (.ref Qas) "__getattribute__"=some (some (.builtin "BaseException.__getattribute__")))
    (Qci:findIn K (.ref Qas) "__getattr__"=some none)
    (Qcj:findIn K (.ref Qas) "__class__"=some (some (.builtin "object.__class__")))
    (Qck:subIn K (.ref Qas) (.type "object")=some true)
    (Qcl:subIn K (.ref Qas) (.type "BaseException")=some true)
    (Qcm:excIn K Qar bmV "ValueError.__new__"=true)
    (Qcn:findIn K (.ref Qar) "__getattribute__"=some (some (.builtin "BaseException.__getattribute__")))
    (Qco:findIn K (.ref Qar) "__getattr__"=some none)
    (Qcp:findIn K (.ref Qar) "__class__"=some (some (.builtin "object.__class__")))
    (Qcq:subIn K (.ref Qar) (.type "object")=some true)
    (Qcr:subIn K (.ref Qar) (.type "BaseException")=some true)
    (Qcs:excIn K Qao bmV "ValueError.__new__"=true)
    (Qct:findIn K (.ref Qao) "__getattribute__"=some (some (.builtin "BaseException.__getattribute__")))
    (Qcu:findIn K (.ref Qao) "__getattr__"=some none)
    (Qcv:findIn K (.ref Qao) "__class__"=some (some (.builtin "object.__class__")))
    (Qcw:subIn K (.ref Qao) (.type "object")=some true)
    (Qcx:subIn K (.ref Qao) (.type "BaseException")=some true)
    (Qcy:excIn K Qap bmV "ValueError.__new__"=true)
    (Qcz:findIn K (.ref Qap) "__getattribute__"=some (some (.builtin "BaseException.__getattribute__")))
    (QcA:findIn K (.ref Qap) "__getattr__"=some none)
    (QcB:findIn K (.ref Qap) "__class__"=some (some (.builtin "object.__class__")))
    (QcC:subIn K (.ref Qap) (.type "object")=some true)
    (QcD:subIn K (.ref Qap) (.type "BaseException")=some true)
    (QcE:excIn K Qaq bmV "ValueError.__new__"=true)
    (QcF:findIn K (.ref Qaq) "__getattribute__"=some (some (.builtin "BaseException.__getattribute__")))
    (QcG:findIn K (.ref Qaq) "__getattr__"=some none)
    (QcH:findIn K (.ref Qaq) "__class__"=some (some (.builtin "object.__class__")))
    (QcI:subIn K (.ref Qaq) (.type "object")=some true)
    (QcJ:subIn K (.ref Qaq) (.type "BaseException")=some true)
    (QcK:excIn K Qat bmV "ValueError.__new__"=true)
    (QcT:findIn K (.ref Qat) "__getattribute__"=some (some (.builtin "BaseException.__getattribute__")))
    (QcU:findIn K (.ref Qat) "__getattr__"=some none)
    (QcV:findIn K (.ref Qat) "__class__"=some (some (.builtin "object.__class__")))
    (QcW:subIn K (.ref Qat) (.type "object")=some true)
    (QcX:subIn K (.ref Qat) (.type "BaseException")=some true)
    (QcY:nsIn K mainGlobals "Lives"=some (some (.ref Qad)))
    (pg_Lives:plainGet K Qad Str.empty=true)
    (hd_Lives:hasDictIn K Qad=true)
    (po_Lives:plainOver K Qad=true)
    (sa_Lives:findIn K (.ref Qad) "__setattr__"=some (some (.builtin "object.__setattr__")))
    (na_Lives_births:findIn K (.ref Qad) "births"=some none)
    (na_Lives_deaths:findIn K (.ref Qad) "deaths"=some none)
    (na_Lives_broods:findIn K (.ref Qad) "broods"=some none)
    (QcZ:nsIn K mainGlobals "World"=some (some (.ref Qaf)))
    (pg_World:plainGet K Qaf Str.empty=true)
    (hd_World:hasDictIn K Qaf=true)
    (po_World:plainOver K Qaf=true)
    (sa_World:findIn K (.ref Qaf) "__setattr__"=some (some (.builtin "object.__setattr__")))
    (na_World_year:findIn K (.ref Qaf) "year"=some none)
    (na_World_lives:findIn K (.ref Qaf) "lives"=some none)
    (na_World_happened:findIn K (.ref Qaf) "happened"=some none)
    (Qc0:nsIn K mainGlobals "MET"=some (some (.str "met" Qa7)))
    (Qc1:nsIn K mainGlobals "FAILED"=some (some (.str "failed" Qa8)))
    (Qc2:nsIn K mainGlobals "HANGS"=some (some (.str "hangs" Qa9)))
    (Qc3:nsIn K mainGlobals "LONGEST_WORD"=some (some (.int 8 Qba)))
    (Qc4:nsIn K mainGlobals "LONGEST_NUMBER"=some (some (.int 2 Qbb)))
    (Qc5:nsIn K mainGlobals "MOST_NUMBERS"=some (some (.int 5 Qbc)))
    (Qc6:nsIn K mainGlobals "BARRED"=some (some (.ref Qa1)))
    (lk_BARRED:K.lookup Qa1=some ⟨.type "tuple",Qdr, .seq #[.str "crown" Qdu, .str "kids" Qdv] Qds,Qdt⟩)
    (Qc7:nsIn K mainGlobals "LATE"=some (some (.str "late" Qbd)))
    (Qc8:nsIn K mainGlobals "LAST_FIRST_YEAR"=some (some (.int 9999 Qbe)))
    (Qc9:nsIn K mainGlobals "MOST_YEARS"=some (some (.int 60 Qbf)))
    (Qda:nsIn K mainGlobals "OLDEST"=some (some (.int 120 Qbg)))
    (Qdb:nsIn K mainGlobals "SURE"=some (some (.str "sure" Qbh)))
    (Qdc:nsIn K mainGlobals "ABOUT_PEOPLE"=some (some (.ref Qa2)))
    (lk_ABOUT_PEOPLE:K.lookup Qa2=some ⟨.type "tuple",Qdw, .seq #[.str "born" Qdz, .str "dead" QdA, .str "age" QdB] Qdx,Qdy⟩)
    (a0:nsIn K mainGlobals "within"=some (some (.ref f0)))
    (l0:K.lookup f0=some ⟨oc0,od0, .func (fnOf "within" "within" (Zl ZaG) (Zk ZaG) (Zb ZaG) .none kV0 dc0 pm0 an0 cd0 ct0),sl0⟩)
    (cc0:codeIn K cd0 "within"=true)
    (k0:keepIn K (.ref f0)=true)
    (a1:nsIn K mainGlobals "good_word"=some (some (.ref f1)))
    (l1:K.lookup f1=some ⟨oc1,od1, .func (fnOf "good_word" "good_word" (Zl XD) (Zk XD) (Zb XD) .none kV1 dc1 pm1 an1 cd1 ct1),sl1⟩)
    (cc1:codeIn K cd1 "good_word"=true)
    (k1:keepIn K (.ref f1)=true)
    (a2:nsIn K mainGlobals "good_number"=some (some (.ref f2)))
    (l2:K.lookup f2=some ⟨oc2,od2, .func (fnOf "good_number" "good_number" (Zl YT) (Zk YT) (Zb YT) .none kV2 dc2 pm2 an2 cd2 ct2),sl2⟩)
    (cc2:codeIn K cd2 "good_number"=true)
    (k2:keepIn K (.ref f2)=true)
    (a3:nsIn K mainGlobals "parts"=some (some (.ref f3)))
    (l3:K.lookup f3=some ⟨oc3,od3, .func (fnOf "parts" "parts" (Zl ZbD) (Zk ZbD) (Zb ZbD) .none kV3 dc3 pm3 an3 cd3 ct3),sl3⟩)
    (cc3:codeIn K cd3 "parts"=true)
    (k3:keepIn K (.ref f3)=true)
    (a4:nsIn K mainGlobals "shortened"=some (some (.ref f4)))
    (l4:K.lookup f4=some ⟨oc4,od4, .func (fnOf "shortened" "shortened" (Zl Xy) (Zk Xy) (Zb Xy) .none kV4 dc4 pm4 an4 cd4 ct4),sl4⟩)
    (cc4:codeIn K cd4 "shortened"=true)
    (k4:keepIn K (.ref f4)=true)
    (a5:findIn K (.ref Qad) "nearest"=some (some (.ref f5)))
    (i5:isFn K (.ref f5)=true)
    (l5:K.lookup f5=some ⟨oc5,od5, .func (fnOf "nearest" "Lives.nearest" (Zl Yr) (Zk Yr) (Zb Yr) .none kV5 dc5 pm5 an5 cd5 ct5),sl5⟩)
    (cc5:codeIn K cd5 "Lives.nearest"=true)
    (k5:keepIn K (.ref f5)=true)
    (a6:nsIn K mainGlobals "nearest_named"=some (some (.ref f6)))
    (l6:K.lookup f6=some ⟨oc6,od6, .func (fnOf "nearest_named" "nearest_named" (Zl Yn) (Zk Yn) (Zb Yn) .none kV6 dc6 pm6 an6 cd6 ct6),sl6⟩)
    (cc6:codeIn K cd6 "nearest_named"=true)
    (k6:keepIn K (.ref f6)=true)
    (a7:findIn K (.ref Qad) "known"=some (some (.ref f7)))
    (i7:isFn K (.ref f7)=true)
    (l7:K.lookup f7=some ⟨oc7,od7, .func (fnOf "known" "Lives.known" (Zl Y0) (Zk Y0) (Zb Y0) .none kV7 dc7 pm7 an7 cd7 ct7),sl7⟩)
    (cc7:codeIn K cd7 "Lives.known"=true)
    (k7:keepIn K (.ref f7)=true)
    (a8:findIn K (.ref Qad) "want_known"=some (some (.ref f8)))
    (i8:isFn K (.ref f8)=true)
    (l8:K.lookup f8=some ⟨oc8,od8, .func (fnOf "want_known" "Lives.want_known" (Zl ZZ) (Zk ZZ) (Zb ZZ) .none kV8 dc8 pm8 an8 cd8 ct8),sl8⟩)
    (cc8:codeIn K cd8 "Lives.want_known"=true)
    (k8:keepIn K (.ref f8)=true)
    (a9:findIn K (.ref Qad) "age_in"=some (some (.ref f9)))
    (i9:isFn K (.ref f9)=true)
    (l9:K.lookup f9=some ⟨oc9,od9, .func (fnOf "age_in" "Lives.age_in" (Zl YF) (Zk YF) (Zb YF) .none kV9 dc9 pm9 an9 cd9 ct9),sl9⟩)
    (cc9:codeIn K cd9 "Lives.age_in"=true)
    (k9:keepIn K (.ref f9)=true)
    (a10:findIn K (.ref Qaf) "age"=some (some (.ref f10)))
    (i10:isFn K (.ref f10)=true)
    (l10:K.lookup f10=some ⟨oc10,od10, .func (fnOf "age" "World.age" (Zl XH) (Zk XH) (Zb XH) .none kV10 dc10 pm10 an10 cd10 ct10),sl10⟩)
    (cc10:codeIn K cd10 "World.age"=true)
    (k10:keepIn K (.ref f10)=true)
    (a11:findIn K (.ref Qad) "alive"=some (some (.ref f11)))
    (i11:isFn K (.ref f11)=true)
    (l11:K.lookup f11=some ⟨oc11,od11, .func (fnOf "alive" "Lives.alive" (Zl Y4) (Zk Y4) (Zb Y4) .none kV11 dc11 pm11 an11 cd11 ct11),sl11⟩)
    (cc11:codeIn K cd11 "Lives.alive"=true)
    (k11:keepIn K (.ref f11)=true)
    (a12:nsIn K mainGlobals "age_stand"=some (some (.ref f12)))
    (l12:K.lookup f12=some ⟨oc12,od12, .func (fnOf "age_stand" "age_stand" (Zl XG) (Zk XG) (Zb XG) .none kV12 dc12 pm12 an12 cd12 ct12),sl12⟩)
    (cc12:codeIn K cd12 "age_stand"=true)
    (k12:keepIn K (.ref f12)=true)
    (a13:nsIn K mainGlobals "person_stand"=some (some (.ref f13)))
    (l13:K.lookup f13=some ⟨oc13,od13, .func (fnOf "person_stand" "person_stand" (Zl YA) (Zk YA) (Zb YA) .none kV13 dc13 pm13 an13 cd13 ct13),sl13⟩)
    (cc13:codeIn K cd13 "person_stand"=true)
    (k13:keepIn K (.ref f13)=true)
    (a14:findIn K (.ref Qaf) "came_in"=some (some (.ref f14)))
    (i14:isFn K (.ref f14)=true)
    (l14:K.lookup f14=some ⟨oc14,od14, .func (fnOf "came_in" "World.came_in" (Zl Yq) (Zk Yq) (Zb Yq) .none kV14 dc14 pm14 an14 cd14 ct14),sl14⟩)
    (cc14:codeIn K cd14 "World.came_in"=true)
    (k14:keepIn K (.ref f14)=true)
    (a15:nsIn K mainGlobals "atom_stand"=some (some (.ref f15)))
    (l15:K.lookup f15=some ⟨oc15,od15, .func (fnOf "atom_stand" "atom_stand" (Zl Xg) (Zk Xg) (Zb Xg) .none kV15 dc15 pm15 an15 cd15 ct15),sl15⟩)
    (cc15:codeIn K cd15 "atom_stand"=true)
    (k15:keepIn K (.ref f15)=true)
    (a16:nsIn K mainGlobals "together"=some (some (.ref f16)))
    (l16:K.lookup f16=some ⟨oc16,od16, .func (fnOf "together" "together" (Zl X9) (Zk X9) (Zb X9) .none kV16 dc16 pm16 an16 cd16 ct16),sl16⟩)
    (cc16:codeIn K cd16 "together"=true)
    (k16:keepIn K (.ref f16)=true)
    (a17:nsIn K mainGlobals "stand"=some (some (.ref f17)))
    (l17:K.lookup f17=some ⟨oc17,od17, .func (fnOf "stand" "stand" (Zl ZbC) (Zk ZbC) (Zb ZbC) .none kV17 dc17 pm17 an17 cd17 ct17),sl17⟩)
    (cc17:codeIn K cd17 "stand"=true)
    (k17:keepIn K (.ref f17)=true)
    (a18:findIn K (.ref Qad) "children"=some (some (.ref f18)))
    (i18:isFn K (.ref f18)=true)
    (l18:K.lookup f18=some ⟨oc18,od18, .func (fnOf "children" "Lives.children" (Zl Yh) (Zk Yh) (Zb Yh) .none kV18 dc18 pm18 an18 cd18 ct18),sl18⟩)
    (cc18:codeIn K cd18 "Lives.children"=true)
    (k18:keepIn K (.ref f18)=true)
    (a19:nsIn K mainGlobals "brood"=some (some (.ref f19)))
    (l19:K.lookup f19=some ⟨oc19,od19, .func (fnOf "brood" "brood" (Zl ZbE) (Zk ZbE) (Zb ZbE) .none kV19 dc19 pm19 an19 cd19 ct19),sl19⟩)
    (cc19:codeIn K cd19 "brood"=true)
    (k19:keepIn K (.ref f19)=true)
    (a20:nsIn K mainGlobals "left_out"=some (some (.ref f20)))
    (l20:K.lookup f20=some ⟨oc20,od20, .func (fnOf "left_out" "left_out" (Zl Jd) (Zk Jd) (Zb Jd) .none kV20 dc20 pm20 an20 cd20 ct20),sl20⟩)
    (cc20:codeIn K cd20 "left_out"=true)
    (k20:keepIn K (.ref f20)=true)
    (a21:nsIn K mainGlobals "members"=some (some (.ref f21)))
    (l21:K.lookup f21=some ⟨oc21,od21, .func (fnOf "members" "members" (Zl JU) (Zk JU) (Zb JU) .none kV21 dc21 pm21 an21 cd21 ct21),sl21⟩)
    (cc21:codeIn K cd21 "members"=true)
    (k21:keepIn K (.ref f21)=true)
    (a22:nsIn K mainGlobals "has_seat"=some (some (.ref f22)))
    (l22:K.lookup f22=some ⟨oc22,od22, .func (fnOf "has_seat" "has_seat" (Zl Jn) (Zk Jn) (Zb Jn) .none kV22 dc22 pm22 an22 cd22 ct22),sl22⟩)
    (cc22:codeIn K cd22 "has_seat"=true)
    (k22:keepIn K (.ref f22)=true)
    (a23:nsIn K mainGlobals "waiting"=some (some (.ref f23)))
    (l23:K.lookup f23=some ⟨oc23,od23, .func (fnOf "waiting" "waiting" (Zl JT) (Zk JT) (Zb JT) .none kV23 dc23 pm23 an23 cd23 ct23),sl23⟩)
    (cc23:codeIn K cd23 "waiting"=true)
    (k23:keepIn K (.ref f23)=true)
    (a24:nsIn K mainGlobals "may_grow"=some (some (.ref f24)))
    (l24:K.lookup f24=some ⟨oc24,od24, .func (fnOf "may_grow" "may_grow" (Zl Jc) (Zk Jc) (Zb Jc) .none kV24 dc24 pm24 an24 cd24 ct24),sl24⟩)
    (cc24:codeIn K cd24 "may_grow"=true)
    (k24:keepIn K (.ref f24)=true)
    (a25:nsIn K mainGlobals "class_stand"=some (some (.ref f25)))
    (l25:K.lookup f25=some ⟨oc25,od25, .func (fnOf "class_stand" "class_stand" (Zl YU) (Zk YU) (Zb YU) .none kV25 dc25 pm25 an25 cd25 ct25),sl25⟩)
    (cc25:codeIn K cd25 "class_stand"=true)
    (k25:keepIn K (.ref f25)=true)
    (a26:nsIn K mainGlobals "want_word"=some (some (.ref f26)))
    (l26:K.lookup f26=some ⟨oc26,od26, .func (fnOf "want_word" "want_word" (Zl Xx) (Zk Xx) (Zb Xx) .none kV26 dc26 pm26 an26 cd26 ct26),sl26⟩)
    (cc26:codeIn K cd26 "want_word"=true)
    (k26:keepIn K (.ref f26)=true)
    (a27:findIn K (.ref Qad) "__init__"=some (some (.ref f27)))
    (i27:isFn K (.ref f27)=true)
    (l27:K.lookup f27=some ⟨oc27,od27, .func (fnOf "__init__" "Lives.__init__" (Zl Yi) (Zk Yi) (Zb Yi) .none kV27 dc27 pm27 an27 cd27 ct27),sl27⟩)
    (cc27:codeIn K cd27 "Lives.__init__"=true)
    (k27:keepIn K (.ref f27)=true)
    (a28:findIn K (.ref Qad) "enter"=some (some (.ref f28)))
    (i28:isFn K (.ref f28)=true)
    (l28:K.lookup f28=some ⟨oc28,od28, .func (fnOf "enter" "Lives.enter" (Zl Y1) (Zk Y1) (Zb Y1) .none kV28 dc28 pm28 an28 cd28 ct28),sl28⟩)
    (cc28:codeIn K cd28 "Lives.enter"=true)
    (k28:keepIn K (.ref f28)=true)
    (a29:findIn K (.ref Qad) "want_alive"=some (some (.ref f29)))
    (i29:isFn K (.ref f29)=true)
    (l29:K.lookup f29=some ⟨oc29,od29, .func (fnOf "want_alive" "Lives.want_alive" (Zl Z0) (Zk Z0) (Zb Z0) .none kV29 dc29 pm29 an29 cd29 ct29),sl29⟩)
    (cc29:codeIn K cd29 "Lives.want_alive"=true)
    (k29:keepIn K (.ref f29)=true)
    (a30:findIn K (.ref Qad) "arrive"=some (some (.ref f30)))
    (i30:isFn K (.ref f30)=true)
    (l30:K.lookup f30=some ⟨oc30,od30, .func (fnOf "arrive" "Lives.arrive" (Zl YE) (Zk YE) (Zb YE) .none kV30 dc30 pm30 an30 cd30 ct30),sl30⟩)
    (cc30:codeIn K cd30 "Lives.arrive"=true)
    (k30:keepIn K (.ref f30)=true)
    (a31:findIn K (.ref Qad) "birth"=some (some (.ref f31)))
    (i31:isFn K (.ref f31)=true)
    (l31:K.lookup f31=some ⟨oc31,od31, .func (fnOf "birth" "Lives.birth" (Zl Y3) (Zk Y3) (Zb Y3) .none kV31 dc31 pm31 an31 cd31 ct31),sl31⟩)
    (cc31:codeIn K cd31 "Lives.birth"=true)
    (k31:keepIn K (.ref f31)=true)
    (a32:findIn K (.ref Qad) "death"=some (some (.ref f32)))
    (i32:isFn K (.ref f32)=true)
    (l32:K.lookup f32=some ⟨oc32,od32, .func (fnOf "death" "Lives.death" (Zl Y2) (Zk Y2) (Zb Y2) .none kV32 dc32 pm32 an32 cd32 ct32),sl32⟩)
    (cc32:codeIn K cd32 "Lives.death"=true)
    (k32:keepIn K (.ref f32)=true)
    (a33:findIn K (.ref Qad) "born_in"=some (some (.ref f33)))
    (i33:isFn K (.ref f33)=true)
    (l33:K.lookup f33=some ⟨oc33,od33, .func (fnOf "born_in" "Lives.born_in" (Zl Ys) (Zk Ys) (Zb Ys) .none kV33 dc33 pm33 an33 cd33 ct33),sl33⟩)
    (cc33:codeIn K cd33 "Lives.born_in"=true)
    (k33:keepIn K (.ref f33)=true)
    (a34:findIn K (.ref Qad) "names"=some (some (.ref f34)))
    (i34:isFn K (.ref f34)=true)
    (l34:K.lookup f34=some ⟨oc34,od34, .func (fnOf "names" "Lives.names" (Zl YZ) (Zk YZ) (Zb YZ) .none kV34 dc34 pm34 an34 cd34 ct34),sl34⟩)
    (cc34:codeIn K cd34 "Lives.names"=true)
    (k34:keepIn K (.ref f34)=true)
    (a35:findIn K (.ref Qad) "living"=some (some (.ref f35)))
    (i35:isFn K (.ref f35)=true)
    (l35:K.lookup f35=some ⟨oc35,od35, .func (fnOf "living" "Lives.living" (Zl YD) (Zk YD) (Zb YD) .none kV35 dc35 pm35 an35 cd35 ct35),sl35⟩)
    (cc35:codeIn K cd35 "Lives.living"=true)
    (k35:keepIn K (.ref f35)=true)
    (a36:nsIn K mainGlobals "is_class"=some (some (.ref f36)))
    (l36:K.lookup f36=some ⟨oc36,od36, .func (fnOf "is_class" "is_class" (Zl Jm) (Zk Jm) (Zb Jm) .none kV36 dc36 pm36 an36 cd36 ct36),sl36⟩)
    (cc36:codeIn K cd36 "is_class"=true)
    (k36:keepIn K (.ref f36)=true)
    (a37:nsIn K mainGlobals "left_out_of"=some (some (.ref f37)))
    (l37:K.lookup f37=some ⟨oc37,od37, .func (fnOf "left_out_of" "left_out_of" (Zl YR) (Zk YR) (Zb YR) .none kV37 dc37 pm37 an37 cd37 ct37),sl37⟩)
    (cc37:codeIn K cd37 "left_out_of"=true)
    (k37:keepIn K (.ref f37)=true)
    (a38:nsIn K mainGlobals "wanted"=some (some (.ref f38)))
    (l38:K.lookup f38=some ⟨oc38,od38, .func (fnOf "wanted" "wanted" (Zl ZaH) (Zk ZaH) (Zb ZaH) .none kV38 dc38 pm38 an38 cd38 ct38),sl38⟩)
    (cc38:codeIn K cd38 "wanted"=true)
    (k38:keepIn K (.ref f38)=true)
    (a39:nsIn K mainGlobals "whole_stand"=some (some (.ref f39)))
    (l39:K.lookup f39=some ⟨oc39,od39, .func (fnOf "whole_stand" "whole_stand" (Zl YQ) (Zk YQ) (Zb YQ) .none kV39 dc39 pm39 an39 cd39 ct39),sl39⟩)
    (cc39:codeIn K cd39 "whole_stand"=true)
    (k39:keepIn K (.ref f39)=true)
    (a40:nsIn K mainGlobals "want_between"=some (some (.ref f40)))
    (l40:K.lookup f40=some ⟨oc40,od40, .func (fnOf "want_between" "want_between" (Zl Yz) (Zk Yz) (Zb Yz) .none kV40 dc40 pm40 an40 cd40 ct40),sl40⟩)
    (cc40:codeIn K cd40 "want_between"=true)
    (k40:keepIn K (.ref f40)=true)
    (a41:findIn K (.ref Qaf) "__init__"=some (some (.ref f41)))
    (i41:isFn K (.ref f41)=true)
    (l41:K.lookup f41=some ⟨oc41,od41, .func (fnOf "__init__" "World.__init__" (Zl Yg) (Zk Yg) (Zb Yg) .none kV41 dc41 pm41 an41 cd41 ct41),sl41⟩)
    (cc41:codeIn K cd41 "World.__init__"=true)
    (k41:keepIn K (.ref f41)=true)
    (a42:findIn K (.ref Qaf) "pass_years"=some (some (.ref f42)))
    (i42:isFn K (.ref f42)=true)
    (l42:K.lookup f42=some ⟨oc42,od42, .func (fnOf "pass_years" "World.pass_years" (Zl ZY) (Zk ZY) (Zb ZY) .none kV42 dc42 pm42 an42 cd42 ct42),sl42⟩)
    (cc42:codeIn K cd42 "World.pass_years"=true)
    (k42:keepIn K (.ref f42)=true)
    (a43:findIn K (.ref Qaf) "arrive"=some (some (.ref f43)))
    (i43:isFn K (.ref f43)=true)
    (l43:K.lookup f43=some ⟨oc43,od43, .func (fnOf "arrive" "World.arrive" (Zl YC) (Zk YC) (Zb YC) .none kV43 dc43 pm43 an43 cd43 ct43),sl43⟩)
    (cc43:codeIn K cd43 "World.arrive"=true)
    (k43:keepIn K (.ref f43)=true)
    (a44:findIn K (.ref Qaf) "birth"=some (some (.ref f44)))
    (i44:isFn K (.ref f44)=true)
    (l44:K.lookup f44=some ⟨oc44,od44, .func (fnOf "birth" "World.birth" (Zl YY) (Zk YY) (Zb YY) .none kV44 dc44 pm44 an44 cd44 ct44),sl44⟩)
    (cc44:codeIn K cd44 "World.birth"=true)
    (k44:keepIn K (.ref f44)=true)
    (a45:findIn K (.ref Qaf) "death"=some (some (.ref f45)))
    (i45:isFn K (.ref f45)=true)
    (l45:K.lookup f45=some ⟨oc45,od45, .func (fnOf "death" "World.death" (Zl YW) (Zk YW) (Zb YW) .none kV45 dc45 pm45 an45 cd45 ct45),sl45⟩)
    (cc45:codeIn K cd45 "World.death"=true)
    (k45:keepIn K (.ref f45)=true)
    (a46:findIn K (.ref Qaf) "comes"=some (some (.ref f46)))
    (i46:isFn K (.ref f46)=true)
    (l46:K.lookup f46=some ⟨oc46,od46, .func (fnOf "comes" "World.comes" (Zl YX) (Zk YX) (Zb YX) .none kV46 dc46 pm46 an46 cd46 ct46),sl46⟩)
    (cc46:codeIn K cd46 "World.comes"=true)
    (k46:keepIn K (.ref f46)=true)
    (a47:nsIn K mainGlobals "class_end"=some (some (.ref f47)))
    (l47:K.lookup f47=some ⟨oc47,od47, .func (fnOf "class_end" "class_end" (Zl XF) (Zk XF) (Zb XF) .none kV47 dc47 pm47 an47 cd47 ct47),sl47⟩)
    (cc47:codeIn K cd47 "class_end"=true)
    (k47:keepIn K (.ref f47)=true)
    (a48:nsIn K mainGlobals "first_end"=some (some (.ref f48)))
    (l48:K.lookup f48=some ⟨oc48,od48, .func (fnOf "first_end" "first_end" (Zl XE) (Zk XE) (Zb XE) .none kV48 dc48 pm48 an48 cd48 ct48),sl48⟩)
    (cc48:codeIn K cd48 "first_end"=true)
    (k48:keepIn K (.ref f48)=true)
    (a49:nsIn K mainGlobals "births_away"=some (some (.ref f49)))
    (l49:K.lookup f49=some ⟨oc49,od49, .func (fnOf "births_away" "births_away" (Zl YV) (Zk YV) (Zb YV) .none kV49 dc49 pm49 an49 cd49 ct49),sl49⟩)
    (cc49:codeIn K cd49 "births_away"=true)
    (k49:keepIn K (.ref f49)=true)
    (a50:nsIn K mainGlobals "atom_lingers"=some (some (.ref f50)))
    (l50:K.lookup f50=some ⟨oc50,od50, .func (fnOf "atom_lingers" "atom_lingers" (Zl YB) (Zk YB) (Zb YB) .none kV50 dc50 pm50 an50 cd50 ct50),sl50⟩)
    (cc50:codeIn K cd50 "atom_lingers"=true)
    (k50:keepIn K (.ref f50)=true)
    (a51:nsIn K mainGlobals "class_lingers"=some (some (.ref f51)))
    (l51:K.lookup f51=some ⟨oc51,od51, .func (fnOf "class_lingers" "class_lingers" (Zl Yo) (Zk Yo) (Zb Yo) .none kV51 dc51 pm51 an51 cd51 ct51),sl51⟩)
    (cc51:codeIn K cd51 "class_lingers"=true)
    (k51:keepIn K (.ref f51)=true)
    (a52:nsIn K mainGlobals "hanging"=some (some (.ref f52)))
    (l52:K.lookup f52=some ⟨oc52,od52, .func (fnOf "hanging" "hanging" (Zl JX) (Zk JX) (Zb JX) .none kV52 dc52 pm52 an52 cd52 ct52),sl52⟩)
    (cc52:codeIn K cd52 "hanging"=true)
    (k52:keepIn K (.ref f52)=true)
    (a53:nsIn K mainGlobals "is_late"=some (some (.ref f53)))
    (l53:K.lookup f53=some ⟨oc53,od53, .func (fnOf "is_late" "is_late" (Zl JV) (Zk JV) (Zb JV) .none kV53 dc53 pm53 an53 cd53 ct53),sl53⟩)
    (cc53:codeIn K cd53 "is_late"=true)
    (k53:keepIn K (.ref f53)=true)
    (a54:nsIn K mainGlobals "years_deeds"=some (some (.ref f54)))
    (l54:K.lookup f54=some ⟨oc54,od54, .func (fnOf "years_deeds" "years_deeds" (Zl YO) (Zk YO) (Zb YO) .none kV54 dc54 pm54 an54 cd54 ct54),sl54⟩)
    (cc54:codeIn K cd54 "years_deeds"=true)
    (k54:keepIn K (.ref f54)=true)
    (a55:nsIn K mainGlobals "child_towards"=some (some (.ref f55)))
    (l55:K.lookup f55=some ⟨oc55,od55, .func (fnOf "child_towards" "child_towards" (Zl Yp) (Zk Yp) (Zb Yp) .none kV55 dc55 pm55 an55 cd55 ct55),sl55⟩)
    (cc55:codeIn K cd55 "child_towards"=true)
    (k55:keepIn K (.ref f55)=true)
    (a56:nsIn K mainGlobals "children_wanted"=some (some (.ref f56)))
    (l56:K.lookup f56=some ⟨oc56,od56, .func (fnOf "children_wanted" "children_wanted" (Zl ZO) (Zk ZO) (Zb ZO) .none kV56 dc56 pm56 an56 cd56 ct56),sl56⟩)
    (cc56:codeIn K cd56 "children_wanted"=true)
    (k56:keepIn K (.ref f56)=true)
    (a57:nsIn K mainGlobals "story_of"=some (some (.ref f57)))
    (l57:K.lookup f57=some ⟨oc57,od57, .func (fnOf "story_of" "story_of" (Zl Ja) (Zk Ja) (Zb Ja) .none kV57 dc57 pm57 an57 cd57 ct57),sl57⟩)
    (cc57:codeIn K cd57 "story_of"=true)
    (k57:keepIn K (.ref f57)=true)
    (a58:nsIn K mainGlobals "names_of"=some (some (.ref f58)))
    (l58:K.lookup f58=some ⟨oc58,od58, .func (fnOf "names_of" "names_of" (Zl Jb) (Zk Jb) (Zb Jb) .none kV58 dc58 pm58 an58 cd58 ct58),sl58⟩)
    (cc58:codeIn K cd58 "names_of"=true)
    (k58:keepIn K (.ref f58)=true)
    (a59:nsIn K mainGlobals "judged"=some (some (.ref f59)))
    (l59:K.lookup f59=some ⟨oc59,od59, .func (fnOf "judged" "judged" (Zl ZaJ) (Zk ZaJ) (Zb ZaJ) .none kV59 dc59 pm59 an59 cd59 ct59),sl59⟩)
    (cc59:codeIn K cd59 "judged"=true)
    (k59:keepIn K (.ref f59)=true)
    (a60:nsIn K mainGlobals "_law_cell_at"=some (some (.ref f60)))
    (l60:K.lookup f60=some ⟨oc60,od60, .func (fnOf "_law_cell_at" "_law_cell_at" (Zl YS) (Zk YS) (Zb YS) .none kV60 dc60 pm60 an60 cd60 ct60),sl60⟩)
    (cc60:codeIn K cd60 "_law_cell_at"=true)
    (k60:keepIn K (.ref f60)=true)
    (a61:nsIn K mainGlobals "_law_rich"=some (some (.ref f61)))
    (l61:K.lookup f61=some ⟨oc61,od61, .func (fnOf "_law_rich" "_law_rich" (Zl Jf) (Zk Jf) (Zb Jf) .none kV61 dc61 pm61 an61 cd61 ct61),sl61⟩)
    (cc61:codeIn K cd61 "_law_rich"=true)
    (k61:keepIn K (.ref f61)=true)
    (a62:nsIn K mainGlobals "_law_word"=some (some (.ref f62)))
    (l62:K.lookup f62=some ⟨oc62,od62, .func (fnOf "_law_word" "_law_word" (Zl Je) (Zk Je) (Zb Je) .none kV62 dc62 pm62 an62 cd62 ct62),sl62⟩)
    (cc62:codeIn K cd62 "_law_word"=true)
    (k62:keepIn K (.ref f62)=true)
    (a63:nsIn K mainGlobals "_law_model"=some (some (.ref f63)))
    (l63:K.lookup f63=some ⟨oc63,od63, .func (fnOf "_law_model" "_law_model" (Zl XB) (Zk XB) (Zb XB) .none kV63 dc63 pm63 an63 cd63 ct63),sl63⟩)
    (cc63:codeIn K cd63 "_law_model"=true)
    (k63:keepIn K (.ref f63)=true)
    (a64:nsIn K mainGlobals "_law_kids"=some (some (.ref f64)))
    (l64:K.lookup f64=some ⟨oc64,od64, .func (fnOf "_law_kids" "_law_kids" (Zl Jl) (Zk Jl) (Zb Jl) .none kV64 dc64 pm64 an64 cd64 ct64),sl64⟩)
    (cc64:codeIn K cd64 "_law_kids"=true)
    (k64:keepIn K (.ref f64)=true)
    (a65:nsIn K mainGlobals "_law_living"=some (some (.ref f65)))
    (l65:K.lookup f65=some ⟨oc65,od65, .func (fnOf "_law_living" "_law_living" (Zl Xf) (Zk Xf) (Zb Xf) .none kV65 dc65 pm65 an65 cd65 ct65),sl65⟩)
    (cc65:codeIn K cd65 "_law_living"=true)
    (k65:keepIn K (.ref f65)=true)
    (a66:nsIn K mainGlobals "_law_play"=some (some (.ref f66)))
    (l66:K.lookup f66=some ⟨oc66,od66, .func (fnOf "_law_play" "_law_play" (Zl Jg) (Zk Jg) (Zb Jg) .none kV66 dc66 pm66 an66 cd66 ct66),sl66⟩)
    (cc66:codeIn K cd66 "_law_play"=true)
    (k66:keepIn K (.ref f66)=true)
    (a67:nsIn K mainGlobals "_law_next_deed"=some (some (.ref f67)))
    (l67:K.lookup f67=some ⟨oc67,od67, .func (fnOf "_law_next_deed" "_law_next_deed" (Zl Zz) (Zk Zz) (Zb Zz) .none kV67 dc67 pm67 an67 cd67 ct67),sl67⟩)
    (cc67:codeIn K cd67 "_law_next_deed"=true)
    (k67:keepIn K (.ref f67)=true)
    (a68:nsIn K mainGlobals "_law_start"=some (some (.ref f68)))
    (l68:K.lookup f68=some ⟨oc68,od68, .func (fnOf "_law_start" "_law_start" (Zl Xz) (Zk Xz) (Zb Xz) .none kV68 dc68 pm68 an68 cd68 ct68),sl68⟩)
    (cc68:codeIn K cd68 "_law_start"=true)
    (k68:keepIn K (.ref f68)=true)
    (a69:nsIn K mainGlobals "_law_do"=some (some (.ref f69)))
    (l69:K.lookup f69=some ⟨oc69,od69, .func (fnOf "_law_do" "_law_do" (Zl ZaI) (Zk ZaI) (Zb ZaI) .none kV69 dc69 pm69 an69 cd69 ct69),sl69⟩)
    (cc69:codeIn K cd69 "_law_do"=true)
    (k69:keepIn K (.ref f69)=true)
    (a70:nsIn K mainGlobals "_law_path"=some (some (.ref f70)))
    (l70:K.lookup f70=some ⟨oc70,od70, .func (fnOf "_law_path" "_law_path" (Zl Jh) (Zk Jh) (Zb Jh) .none kV70 dc70 pm70 an70 cd70 ct70),sl70⟩)
    (cc70:codeIn K cd70 "_law_path"=true)
    (k70:keepIn K (.ref f70)=true)
    (a71:nsIn K mainGlobals "_law_need"=some (some (.ref f71)))
    (l71:K.lookup f71=some ⟨oc71,od71, .func (fnOf "_law_need" "_law_need" (Zl Ji) (Zk Ji) (Zb Ji) .none kV71 dc71 pm71 an71 cd71 ct71),sl71⟩)
    (cc71:codeIn K cd71 "_law_need"=true)
    (k71:keepIn K (.ref f71)=true)
    (a72:nsIn K mainGlobals "_law_needs"=some (some (.ref f72)))
    (l72:K.lookup f72=some ⟨oc72,od72, .func (fnOf "_law_needs" "_law_needs" (Zl XA) (Zk XA) (Zb XA) .none kV72 dc72 pm72 an72 cd72 ct72),sl72⟩)
    (cc72:codeIn K cd72 "_law_needs"=true)
    (k72:keepIn K (.ref f72)=true)
    (a73:nsIn K mainGlobals "_law_near"=some (some (.ref f73)))
    (l73:K.lookup f73=some ⟨oc73,od73, .func (fnOf "_law_near" "_law_near" (Zl Jk) (Zk Jk) (Zb Jk) .none kV73 dc73 pm73 an73 cd73 ct73),sl73⟩)
    (cc73:codeIn K cd73 "_law_near"=true)
    (k73:keepIn K (.ref f73)=true)
    (a74:nsIn K mainGlobals "_law_holder"=some (some (.ref f74)))
    (l74:K.lookup f74=some ⟨oc74,od74, .func (fnOf "_law_holder" "_law_holder" (Zl Z1) (Zk Z1) (Zb Z1) .none kV74 dc74 pm74 an74 cd74 ct74),sl74⟩)
    (cc74:codeIn K cd74 "_law_holder"=true)
    (k74:keepIn K (.ref f74)=true)
    (a75:nsIn K mainGlobals "_law_judged_row"=some (some (.ref f75)))
    (l75:K.lookup f75=some ⟨oc75,od75, .func (fnOf "_law_judged_row" "_law_judged_row" (Zl Yf) (Zk Yf) (Zb Yf) .none kV75 dc75 pm75 an75 cd75 ct75),sl75⟩)
    (cc75:codeIn K cd75 "_law_judged_row"=true)
    (k75:keepIn K (.ref f75)=true)
    (a76:nsIn K mainGlobals "_law_alike"=some (some (.ref f76)))
    (l76:K.lookup f76=some ⟨oc76,od76, .func (fnOf "_law_alike" "_law_alike" (Zl XC) (Zk XC) (Zb XC) .none kV76 dc76 pm76 an76 cd76 ct76),sl76⟩)
    (cc76:codeIn K cd76 "_law_alike"=true)
    (k76:keepIn K (.ref f76)=true)
    (a77:nsIn K mainGlobals "law"=some (some (.ref f77)))
    (l77:K.lookup f77=some ⟨oc77,od77, .func (fnOf "law" "law" (Zl Zag) (Zk Zag) (Zb Zag) .none kV77 dc77 pm77 an77 cd77 ct77),sl77⟩)
    (cc77:codeIn K cd77 "law"=true)
    (k77:keepIn K (.ref f77)=true)
    (mk_Lives:makesIn K Qad=true)
    (kc_Lives:keepIn K (.ref Qad)=true)
    (mk_World:makesIn K Qaf=true)
    (kc_World:keepIn K (.ref Qaf)=true)
    : ∃ (g:Ga) (fd:FuncData),(∀ (s:Shared) (v:Value),BindsTo s fd ⟨[v],[]⟩ [("_law_script",v)])∧∀ base:Heap,K.In base→base.Ns mainGlobals mg→FnOk l.prog w K mg base CX0 12 fa fd ["_law_script"] (Ze3 K g):=by
  have e:=hfa.symm.trans (mg_of X G a77);cases e;have T:Txt K ({ LandError:=Qa6,NoText:=Qao,OutOfBound:=Qap,Taken:=Qaq,NoPerson:=Qar,Gone:=Qas,TooDeep:=Qat,Lives:=Qad,World:=Qaf,MET:=Qa7,FAILED:=Qa8,HANGS:=Qa9,LONGEST_WORD:=Qba,LONGEST_NUMBER:=Qbb,MOST_NUMBERS:=Qbc,BARRED:=Qa1,LATE:=Qbd,LAST_FIRST_YEAR:=Qbe,MOST_YEARS:=Qbf,OLDEST:=Qbg,SURE:=Qbh,ABOUT_PEOPLE:=Qa2 }:Ga) mg:=⟨mg_none_of X G QbZ,mg_none_of X G Qb0,mg_none_of X G Qb1,mg_none_of X G Qb2,mg_none_of X G Qb3,mg_none_of X G Qb4,mg_none_of X G Qb5,mg_none_of X G Qb6,mg_none_of X G Qb7,mg_none_of X G Qb8,mg_of X G Qb9,mg_of X G Qca,mg_of X G Qcb,mg_of X G Qcc,mg_of X G Qcd,mg_of X G Qce,mg_of X G Qcf,⟨Qcg,Qch,Qci,Qcj,Qck,Qcl⟩,⟨Qcm,Qcn,Qco,Qcp,Qcq,Qcr⟩,⟨Qcs,Qct,Qcu,Qcv,Qcw,Qcx⟩,⟨Qcy,Qcz,QcA,QcB,QcC,QcD⟩,⟨QcE,QcF,QcG,QcH,QcI,QcJ⟩,⟨QcK,QcT,QcU,QcV,QcW,QcX⟩,mg_of X G QcY,⟨pg_Lives,hd_Lives,po_Lives,sa_Lives⟩,na_Lives_births,na_Lives_deaths,na_Lives_broods,mg_of X G QcZ,⟨pg_World,hd_World,po_World,sa_World⟩,na_World_year,na_World_lives,na_World_happened,mg_of X G Qc0,mg_of X G Qc1,mg_of X G Qc2,mg_of X G Qc3,mg_of X G Qc4,mg_of X G Qc5,mg_of X G Qc6,fun _ => .inr ⟨_,_,_,lk_BARRED,rfl,rfl,by show 2≤sizeLine; decide, .cons ⟨_,rfl⟩ (.cons ⟨_,rfl⟩ (.nil))⟩,mg_of X G Qc7,mg_of X G Qc8,mg_of X G Qc9,mg_of X G Qda,mg_of X G Qdb,mg_of X G Qdc,fun _ => .inr ⟨_,_,_,lk_ABOUT_PEOPLE,rfl,rfl,by show 3≤sizeLine; decide, .cons ⟨_,rfl⟩ (.cons ⟨_,rfl⟩ (.cons ⟨_,rfl⟩ (.nil)))⟩⟩;have F0:=Zs (st:=ZaG) l0 cc0 k0;have b0:=F0.binds (ps:=["text","low","high"]) fun _ _ _ _ _ _ us hl=>by obtain ⟨_,_,_,rfl⟩:=L2.us3 us hl; rfl
  have F1:=Zs (st:=XD) l1 cc1 k1;have b1:=F1.binds (ps:=["word"]) fun _ _ _ _ _ _ us hl=>by obtain ⟨_,rfl⟩:=L2.us1 us hl; rfl
  have F2:=Zs (st:=YT) l2 cc2 k2;have b2:=F2.binds (ps:=["text"]) fun _ _ _ _ _ _ us hl=>by obtain ⟨_,rfl⟩:=L2.us1 us hl; rfl
  have F3:=Zs (st:=ZbD) l3 cc3 k3;have b3:=F3.binds (ps:=["name"]) fun _ _ _ _ _ _ us hl=>by obtain ⟨_,rfl⟩:=L2.us1 us hl; rfl
  have F4:=Zs (st:=Xy) l4 cc4 k4;have b4:=F4.binds (ps:=["name"]) fun _ _ _ _ _ _ us hl=>by obtain ⟨_,rfl⟩:=L2.us1 us hl; rfl
  have F5:=Zs (st:=Yr) l5 cc5 k5;have b5:=F5.binds (ps:=["self","name"]) fun _ _ _ _ _ _ us hl=>by obtain ⟨_,_,rfl⟩:=L2.us2 us hl; rfl
  have F6:=Zs (st:=Yn) l6 cc6 k6;have b6:=F6.binds (ps:=["world","name"]) fun _ _ _ _ _ _ us hl=>by obtain ⟨_,_,rfl⟩:=L2.us2 us hl; rfl
  have F7:=Zs (st:=Y0) l7 cc7 k7;have b7:=F7.binds (ps:=["self","name"]) fun _ _ _ _ _ _ us hl=>by obtain ⟨_,_,rfl⟩:=L2.us2 us hl; rfl
  have F8:=Zs (st:=ZZ) l8 cc8 k8;have b8:=F8.binds (ps:=["self","name"]) fun _ _ _ _ _ _ us hl=>by obtain ⟨_,_,rfl⟩:=L2.us2 us hl; rfl
  have F9:=Zs (st:=YF) l9 cc9 k9;have b9:=F9.binds (ps:=["self","name","year"]) fun _ _ _ _ _ _ us hl=>by obtain ⟨_,_,_,rfl⟩:=L2.us3 us hl; rfl
  have F10:=Zs (st:=XH) l10 cc10 k10;have b10:=F10.binds (ps:=["self","name"]) fun _ _ _ _ _ _ us hl=>by obtain ⟨_,_,rfl⟩:=L2.us2 us hl; rfl
  have F11:=Zs (st:=Y4) l11 cc11 k11;have b11:=F11.binds (ps:=["self","name"]) fun _ _ _ _ _ _ us hl=>by obtain ⟨_,_,rfl⟩:=L2.us2 us hl; rfl
  have F12:=Zs (st:=XG) l12 cc12 k12;have b12:=F12.binds (ps:=["world","name","age"]) fun _ _ _ _ _ _ us hl=>by obtain ⟨_,_,_,rfl⟩:=L2.us3 us hl; rfl
  have F13:=Zs (st:=YA) l13 cc13 k13;have b13:=F13.binds (ps:=["world","atom"]) fun _ _ _ _ _ _ us hl=>by obtain ⟨_,_,rfl⟩:=L2.us2 us hl; rfl
  have F14:=Zs (st:=Yq) l14 cc14 k14;have b14:=F14.binds (ps:=["self","word"]) fun _ _ _ _ _ _ us hl=>by obtain ⟨_,_,rfl⟩:=L2.us2 us hl; rfl
  have F15:=Zs (st:=Xg) l15 cc15 k15;have b15:=F15.binds (ps:=["world","atom"]) fun _ _ _ _ _ _ us hl=>by obtain ⟨_,_,rfl⟩:=L2.us2 us hl; rfl
  have F16:=Zs (st:=X9) l16 cc16 k16;have b16:=F16.binds (ps:=["stands"]) fun _ _ _ _ _ _ us hl=>by obtain ⟨_,rfl⟩:=L2.us1 us hl; rfl
  have F17:=Zs (st:=ZbC) l17 cc17 k17;have b17:=F17.binds (ps:=["world","atoms"]) fun _ _ _ _ _ _ us hl=>by obtain ⟨_,_,rfl⟩:=L2.us2 us hl; rfl
  have F18:=Zs (st:=Yh) l18 cc18 k18;have b18:=F18.binds (ps:=["self","name"]) fun _ _ _ _ _ _ us hl=>by obtain ⟨_,_,rfl⟩:=L2.us2 us hl; rfl
  have F19:=Zs (st:=ZbE) l19 cc19 k19;have b19:=F19.binds (ps:=["world","name"]) fun _ _ _ _ _ _ us hl=>by obtain ⟨_,_,rfl⟩:=L2.us2 us hl; rfl
  have F20:=Zs (st:=Jd) l20 cc20 k20;have b20:=F20.binds (ps:=["world","name"]) fun _ _ _ _ _ _ us hl=>by obtain ⟨_,_,rfl⟩:=L2.us2 us hl; rfl
  have F21:=Zs (st:=JU) l21 cc21 k21;have b21:=F21.binds (ps:=["world","name","out"]) fun _ _ _ _ _ _ us hl=>by obtain ⟨_,_,_,rfl⟩:=L2.us3 us hl; rfl
  have F22:=Zs (st:=Jn) l22 cc22 k22;have b22:=F22.binds (ps:=["world","name","age","out"]) fun _ _ _ _ _ _ us hl=>by obtain ⟨_,_,_,_,rfl⟩:=L2.us4 us hl; rfl
  have F23:=Zs (st:=JT) l23 cc23 k23;have b23:=F23.binds (ps:=["world","name","age","out"]) fun _ _ _ _ _ _ us hl=>by obtain ⟨_,_,_,_,rfl⟩:=L2.us4 us hl; rfl
  have F24:=Zs (st:=Jc) l24 cc24 k24;have b24:=F24.binds (ps:=["world","name"]) fun _ _ _ _ _ _ us hl=>by obtain ⟨_,_,rfl⟩:=L2.us2 us hl; rfl
  have F25:=Zs (st:=YU) l25 cc25 k25;have b25:=F25.binds (ps:=["world","name","age","out"]) fun _ _ _ _ _ _ us hl=>by obtain ⟨_,_,_,_,rfl⟩:=L2.us4 us hl; rfl
  have F26:=Zs (st:=Xx) l26 cc26 k26;have b26:=F26.binds (ps:=["word"]) fun _ _ _ _ _ _ us hl=>by obtain ⟨_,rfl⟩:=L2.us1 us hl; rfl
  have F27:=Zs (st:=Yi) l27 cc27 k27;have b27:=F27.binds (ps:=["self"]) fun _ _ _ _ _ _ us hl=>by obtain ⟨_,rfl⟩:=L2.us1 us hl; rfl
  have F28:=Zs (st:=Y1) l28 cc28 k28;have b28:=F28.binds (ps:=["self","name","year"]) fun _ _ _ _ _ _ us hl=>by obtain ⟨_,_,_,rfl⟩:=L2.us3 us hl; rfl
  have F29:=Zs (st:=Z0) l29 cc29 k29;have b29:=F29.binds (ps:=["self","name"]) fun _ _ _ _ _ _ us hl=>by obtain ⟨_,_,rfl⟩:=L2.us2 us hl; rfl
  have F30:=Zs (st:=YE) l30 cc30 k30;have b30:=F30.binds (ps:=["self","word","born"]) fun _ _ _ _ _ _ us hl=>by obtain ⟨_,_,_,rfl⟩:=L2.us3 us hl; rfl
  have F31:=Zs (st:=Y3) l31 cc31 k31;have b31:=F31.binds (ps:=["self","name","year"]) fun _ _ _ _ _ _ us hl=>by obtain ⟨_,_,_,rfl⟩:=L2.us3 us hl; rfl
  have F32:=Zs (st:=Y2) l32 cc32 k32;have b32:=F32.binds (ps:=["self","name","year"]) fun _ _ _ _ _ _ us hl=>by obtain ⟨_,_,_,rfl⟩:=L2.us3 us hl; rfl
  have F33:=Zs (st:=Ys) l33 cc33 k33;have b33:=F33.binds (ps:=["self","name"]) fun _ _ _ _ _ _ us hl=>by obtain ⟨_,_,rfl⟩:=L2.us2 us hl; rfl
  have F34:=Zs (st:=YZ) l34 cc34 k34;have b34:=F34.binds (ps:=["self"]) fun _ _ _ _ _ _ us hl=>by obtain ⟨_,rfl⟩:=L2.us1 us hl; rfl
  have F35:=Zs (st:=YD) l35 cc35 k35;have b35:=F35.binds (ps:=["self"]) fun _ _ _ _ _ _ us hl=>by obtain ⟨_,rfl⟩:=L2.us1 us hl; rfl
  have F36:=Zs (st:=Jm) l36 cc36 k36;have b36:=F36.binds (ps:=["holder"]) fun _ _ _ _ _ _ us hl=>by obtain ⟨_,rfl⟩:=L2.us1 us hl; rfl
  have F37:=Zs (st:=YR) l37 cc37 k37;have b37:=F37.binds (ps:=["world","holder"]) fun _ _ _ _ _ _ us hl=>by obtain ⟨_,_,rfl⟩:=L2.us2 us hl; rfl
  have F38:=Zs (st:=ZaH) l38 cc38 k38;have b38:=F38.binds (ps:=["holder","atoms"]) fun _ _ _ _ _ _ us hl=>by obtain ⟨_,_,rfl⟩:=L2.us2 us hl; rfl
  have F39:=Zs (st:=YQ) l39 cc39 k39;have b39:=F39.binds (ps:=["world","holder","atoms","out"]) fun _ _ _ _ _ _ us hl=>by obtain ⟨_,_,_,_,rfl⟩:=L2.us4 us hl; rfl
  have F40:=Zs (st:=Yz) l40 cc40 k40;have b40:=F40.binds (ps:=["number","low","high"]) fun _ _ _ _ _ _ us hl=>by obtain ⟨_,_,_,rfl⟩:=L2.us3 us hl; rfl
  have F41:=Zs (st:=Yg) l41 cc41 k41;have b41:=F41.binds (ps:=["self","year"]) fun _ _ _ _ _ _ us hl=>by obtain ⟨_,_,rfl⟩:=L2.us2 us hl; rfl
  have F42:=Zs (st:=ZY) l42 cc42 k42;have b42:=F42.binds (ps:=["self","many"]) fun _ _ _ _ _ _ us hl=>by obtain ⟨_,_,rfl⟩:=L2.us2 us hl; rfl
  have F43:=Zs (st:=YC) l43 cc43 k43;have b43:=F43.binds (ps:=["self","word","age"]) fun _ _ _ _ _ _ us hl=>by obtain ⟨_,_,_,rfl⟩:=L2.us3 us hl; rfl
  have F44:=Zs (st:=YY) l44 cc44 k44;have b44:=F44.binds (ps:=["self","name"]) fun _ _ _ _ _ _ us hl=>by obtain ⟨_,_,rfl⟩:=L2.us2 us hl; rfl
  have F45:=Zs (st:=YW) l45 cc45 k45;have b45:=F45.binds (ps:=["self","name"]) fun _ _ _ _ _ _ us hl=>by obtain ⟨_,_,rfl⟩:=L2.us2 us hl; rfl
  have F46:=Zs (st:=YX) l46 cc46 k46;have b46:=F46.binds (ps:=["self","word"]) fun _ _ _ _ _ _ us hl=>by obtain ⟨_,_,rfl⟩:=L2.us2 us hl; rfl
  have F47:=Zs (st:=XF) l47 cc47 k47;have b47:=F47.binds (ps:=["world","name","age"]) fun _ _ _ _ _ _ us hl=>by obtain ⟨_,_,_,rfl⟩:=L2.us3 us hl; rfl
  have F48:=Zs (st:=XE) l48 cc48 k48;have b48:=F48.binds (ps:=["world","holder","atoms"]) fun _ _ _ _ _ _ us hl=>by obtain ⟨_,_,_,rfl⟩:=L2.us3 us hl; rfl
  have F49:=Zs (st:=YV) l49 cc49 k49;have b49:=F49.binds (ps:=["world","name"]) fun _ _ _ _ _ _ us hl=>by obtain ⟨_,_,rfl⟩:=L2.us2 us hl; rfl
  have F50:=Zs (st:=YB) l50 cc50 k50;have b50:=F50.binds (ps:=["world","atom","end","term"]) fun _ _ _ _ _ _ us hl=>by obtain ⟨_,_,_,_,rfl⟩:=L2.us4 us hl; rfl
  have F51:=Zs (st:=Yo) l51 cc51 k51;have b51:=F51.binds (ps:=["world","name","age","term"]) fun _ _ _ _ _ _ us hl=>by obtain ⟨_,_,_,_,rfl⟩:=L2.us4 us hl; rfl
  have F52:=Zs (st:=JX) l52 cc52 k52;have b52:=F52.binds (ps:=["world","holder","atoms"]) fun _ _ _ _ _ _ us hl=>by obtain ⟨_,_,_,rfl⟩:=L2.us3 us hl; rfl
  have F53:=Zs (st:=JV) l53 cc53 k53;have b53:=F53.binds (ps:=["world","holder","atoms","term"]) fun _ _ _ _ _ _ us hl=>by obtain ⟨_,_,_,_,rfl⟩:=L2.us4 us hl; rfl
  have F54:=Zs (st:=YO) l54 cc54 k54;have b54:=F54.binds (ps:=["many"]) fun _ _ _ _ _ _ us hl=>by obtain ⟨_,rfl⟩:=L2.us1 us hl; rfl
  have F55:=Zs (st:=Yp) l55 cc55 k55;have b55:=F55.binds (ps:=["world","name"]) fun _ _ _ _ _ _ us hl=>by obtain ⟨_,_,rfl⟩:=L2.us2 us hl; rfl
  have F56:=Zs (st:=ZO) l56 cc56 k56;have b56:=F56.binds (ps:=["world","holder","atoms"]) fun _ _ _ _ _ _ us hl=>by obtain ⟨_,_,_,rfl⟩:=L2.us3 us hl; rfl
  have F57:=Zs (st:=Ja) l57 cc57 k57;have b57:=F57.binds (ps:=["world","holder","atoms","term"]) fun _ _ _ _ _ _ us hl=>by obtain ⟨_,_,_,_,rfl⟩:=L2.us4 us hl; rfl
  have F58:=Zs (st:=Jb) l58 cc58 k58;have b58:=F58.binds (ps:=["world","holder","atoms"]) fun _ _ _ _ _ _ us hl=>by obtain ⟨_,_,_,rfl⟩:=L2.us3 us hl; rfl
  have F59:=Zs (st:=ZaJ) l59 cc59 k59;have b59:=F59.binds (ps:=["world","holder","atoms","term"]) fun _ _ _ _ _ _ us hl=>by obtain ⟨_,_,_,_,rfl⟩:=L2.us4 us hl; rfl
  have F60:=Zs (st:=YS) l60 cc60 k60;have b60:=F60.binds (ps:=["_law_script","_law_k"]) fun _ _ _ _ _ _ us hl=>by obtain ⟨_,_,rfl⟩:=L2.us2 us hl; rfl
  have F61:=Zs (st:=Jf) l61 cc61 k61;have b61:=F61.binds (ps:=["_law_cell","_law_place"]) fun _ _ _ _ _ _ us hl=>by obtain ⟨_,_,rfl⟩:=L2.us2 us hl; rfl
  have F62:=Zs (st:=Je) l62 cc62 k62;have b62:=F62.binds (ps:=["_law_n"]) fun _ _ _ _ _ _ us hl=>by obtain ⟨_,rfl⟩:=L2.us1 us hl; rfl
  have F63:=Zs (st:=XB) l63 cc63 k63;have b63:=F63.binds (ps:=["_law_year"]) fun _ _ _ _ _ _ us hl=>by obtain ⟨_,rfl⟩:=L2.us1 us hl; rfl
  have F64:=Zs (st:=Jl) l64 cc64 k64;have b64:=F64.binds (ps:=["_law_model_here","_law_name"]) fun _ _ _ _ _ _ us hl=>by obtain ⟨_,_,rfl⟩:=L2.us2 us hl; rfl
  have F65:=Zs (st:=Xf) l65 cc65 k65;have b65:=F65.binds (ps:=["_law_model_here"]) fun _ _ _ _ _ _ us hl=>by obtain ⟨_,rfl⟩:=L2.us1 us hl; rfl
  have F66:=Zs (st:=Jg) l66 cc66 k66;have b66:=F66.binds (ps:=["_law_model_here","_law_deed"]) fun _ _ _ _ _ _ us hl=>by obtain ⟨_,_,rfl⟩:=L2.us2 us hl; rfl
  have F67:=Zs (st:=Zz) l67 cc67 k67;have b67:=F67.binds (ps:=["_law_model_here","_law_n","_law_far"]) fun _ _ _ _ _ _ us hl=>by obtain ⟨_,_,_,rfl⟩:=L2.us3 us hl; rfl
  have F68:=Zs (st:=Xz) l68 cc68 k68;have b68:=F68.binds (ps:=["_law_n"]) fun _ _ _ _ _ _ us hl=>by obtain ⟨_,rfl⟩:=L2.us1 us hl; rfl
  have F69:=Zs (st:=ZaI) l69 cc69 k69;have b69:=F69.binds (ps:=["_law_world","_law_deed"]) fun _ _ _ _ _ _ us hl=>by obtain ⟨_,_,rfl⟩:=L2.us2 us hl; rfl
  have F70:=Zs (st:=Jh) l70 cc70 k70;have b70:=F70.binds (ps:=["_law_model_here","_law_n"]) fun _ _ _ _ _ _ us hl=>by obtain ⟨_,_,rfl⟩:=L2.us2 us hl; rfl
  have F71:=Zs (st:=Ji) l71 cc71 k71;have b71:=F71.binds (ps:=["_law_model_here","_law_n"]) fun _ _ _ _ _ _ us hl=>by obtain ⟨_,_,rfl⟩:=L2.us2 us hl; rfl
  have F72:=Zs (st:=XA) l72 cc72 k72;have b72:=F72.binds (ps:=["_law_model_here","_law_n","_law_most"]) fun _ _ _ _ _ _ us hl=>by obtain ⟨_,_,_,rfl⟩:=L2.us3 us hl; rfl
  have F73:=Zs (st:=Jk) l73 cc73 k73;have b73:=F73.binds (ps:=["_law_model_here","_law_name"]) fun _ _ _ _ _ _ us hl=>by obtain ⟨_,_,rfl⟩:=L2.us2 us hl; rfl
  have F74:=Zs (st:=Z1) l74 cc74 k74;have b74:=F74.binds (ps:=["_law_model_here","_law_n"]) fun _ _ _ _ _ _ us hl=>by obtain ⟨_,_,rfl⟩:=L2.us2 us hl; rfl
  have F75:=Zs (st:=Yf) l75 cc75 k75;have b75:=F75.binds (ps:=["_law_model_here","_law_n"]) fun _ _ _ _ _ _ us hl=>by obtain ⟨_,_,rfl⟩:=L2.us2 us hl; rfl
  have F76:=Zs (st:=XC) l76 cc76 k76;have b76:=F76.binds (ps:=["_law_one","_law_other"]) fun _ _ _ _ _ _ us hl=>by obtain ⟨_,_,rfl⟩:=L2.us2 us hl; rfl
  have F77:=Zs (st:=Zag) l77 cc77 k77;refine ⟨{ LandError:=Qa6,NoText:=Qao,OutOfBound:=Qap,Taken:=Qaq,NoPerson:=Qar,Gone:=Qas,TooDeep:=Qat,Lives:=Qad,World:=Qaf,MET:=Qa7,FAILED:=Qa8,HANGS:=Qa9,LONGEST_WORD:=Qba,LONGEST_NUMBER:=Qbb,MOST_NUMBERS:=Qbc,BARRED:=Qa1,LATE:=Qbd,LAST_FIRST_YEAR:=Qbe,MOST_YEARS:=Qbf,OLDEST:=Qbg,SURE:=Qbh,ABOUT_PEOPLE:=Qa2 },fnOf "law" "law" (Zl Zag) (Zk Zag) (Zb Zag) .none kV77 dc77 pm77 an77 cd77 ct77,fun s v => .of_eq rfl,fun base _ _=>?_⟩;generalize hg:({ LandError:=Qa6,NoText:=Qao,OutOfBound:=Qap,Taken:=Qaq,NoPerson:=Qar,Gone:=Qas,TooDeep:=Qat,Lives:=Qad,World:=Qaf,MET:=Qa7,FAILED:=Qa8,HANGS:=Qa9,LONGEST_WORD:=Qba,LONGEST_NUMBER:=Qbb,MOST_NUMBERS:=Qbc,BARRED:=Qa1,LATE:=Qbd,LAST_FIRST_YEAR:=Qbe,MOST_YEARS:=Qbf,OLDEST:=Qbg,SURE:=Qbh,ABOUT_PEOPLE:=Qa2 }:Ga)=g at T;have QaF:Dn l.prog w K mg base 1 "within" ["text","low","high"] (ZbA K g):=⟨_,_,Zig F0 T , mg_of X G a0,k0,b0⟩;have QaG:Dn l.prog w K mg base 2 "good_word" ["word"] (JM K g):=⟨_,_,Zfp F1 T QaF,mg_of X G a1,k1,b1⟩;have Qbl:Dn l.prog w K mg base 2 "good_number" ["text"] (J7 K g):=⟨_,_,ZdZ F2 T QaF,mg_of X G a2,k2,b2⟩;have QaA:Dx l.prog w K mg base 3 "parts" ["name"] (Zcb K g):=⟨_,_,Zjc F3 T QaG Qbl,mg_of X G a3,k3,b3⟩;have Qbm:Dn l.prog w K mg base 1 "shortened" ["name"] (ZaR K g):=⟨_,_,Zfk F4 T , mg_of X G a4,k4,b4⟩;have Qai:Dm l.prog w K mg base (CXR l.prog w base) g.Lives 4 "nearest" ["self","name"] (ZU K g):=⟨T.Qab,_,_,ZcR F5 T QaA Qbm,by rw [← hg]; exact ⟨a5,i5,k5⟩,b5⟩;have Qbo:Dx l.prog w K mg base 5 "nearest_named" ["world","name"] (X3 K g):=⟨_,_,ZcM F6 T Qai,mg_of X G a6,k6,b6⟩;have Qag:Dm l.prog w K mg base CX0 g.Lives 1 "known" ["self","name"] (Z5 K g):=⟨T.Qab,_,_,Zd6 F7 T , by rw [← hg]; exact ⟨a7,i7,k7⟩,b7⟩;have Qaj:Dm l.prog w K mg base (CXR l.prog w base) g.Lives 2 "want_known" ["self","name"] (ZS K g):=⟨T.Qab,_,_,ZbP F8 T Qag,by rw [← hg]; exact ⟨a8,i8,k8⟩,b8⟩;have Qbn:Dm l.prog w K mg base (CXR l.prog w base) g.Lives 3 "age_in" ["self","name","year"] (JF K g):=⟨T.Qab,_,_,Zdj F9 T Qaj,by rw [← hg]; exact ⟨a9,i9,k9⟩,b9⟩;have QaH:Dm l.prog w K mg base (CXR l.prog w base) g.World 4 "age" ["self","name"] (JP K g):=⟨T.Qaa,_,_,Zft F10 T Qbn,by rw [← hg]; exact ⟨a10,i10,k10⟩,b10⟩;have Qac:Dm l.prog w K mg base CX0 g.Lives 1 "alive" ["self","name"] (ZK K g):=⟨T.Qab,_,_,Zea F11 T , by rw [← hg]; exact ⟨a11,i11,k11⟩,b11⟩;have QaI:Dn l.prog w K mg base 5 "age_stand" ["world","name","age"] (JO K g):=⟨_,_,Zfs F12 T QaH Qac,mg_of X G a12,k12,b12⟩;have Qbp:Dx l.prog w K mg base 6 "person_stand" ["world","atom"] (JA K g):=⟨_,_,Zde F13 T Qag QaI Qac Qbo,mg_of X G a13,k13,b13⟩;have Qbq:Dm l.prog w K mg base CX0 g.World 1 "came_in" ["self","word"] (X7 K g):=⟨T.Qaa,_,_,ZcQ F14 T , by rw [← hg]; exact ⟨a14,i14,k14⟩,b14⟩;have QaK:Dx l.prog w K mg base 7 "atom_stand" ["world","atom"] (Js K g):=⟨_,_,Zew F15 T Qbp Qbq,mg_of X G a15,k15,b15⟩;have QaJ:Dn l.prog w K mg base 1 "together" ["stands"] (Zal K g):=⟨_,_,Zgg F16 T , mg_of X G a16,k16,b16⟩;have Qbr:Dn l.prog w K mg base 8 "stand" ["world","atoms"] (ZdB K g):=⟨_,_,Zjb F17 T QaJ QaK,mg_of X G a17,k17,b17⟩;have Qav:Dm l.prog w K mg base (CXR l.prog w base) g.Lives 3 "children" ["self","name"] (Yu K g):=⟨T.Qab,_,_,Zcm F18 T Qaj,by rw [← hg]; exact ⟨a18,i18,k18⟩,b18⟩;have QaL:Dn l.prog w K mg base 4 "brood" ["world","name"] (Zcc K g):=⟨_,_,Zjd F19 T Qag Qav,mg_of X G a19,k19,b19⟩;have QaS:Dn l.prog w K mg base 5 "left_out" ["world","name"] (Zan K g):=⟨_,_,Zgk F20 T QaL Qac,mg_of X G a20,k20,b20⟩;have QaM:Dn l.prog w K mg base 5 "members" ["world","name","out"] (ZaS K g):=⟨_,_,Zg4 F21 T QaL,mg_of X G a21,k21,b21⟩;have QaO:Dn l.prog w K mg base 6 "has_seat" ["world","name","age","out"] (Zaq K g):=⟨_,_,Zgt F22 T QaM QaH,mg_of X G a22,k22,b22⟩;have Qaw:Dn l.prog w K mg base 6 "waiting" ["world","name","age","out"] (J4 K g):=⟨_,_,Zg3 F23 T QaM QaI,mg_of X G a23,k23,b23⟩;have QaN:Dn l.prog w K mg base 5 "may_grow" ["world","name"] (Zam K g):=⟨_,_,Zgj F24 T Qac Qai,mg_of X G a24,k24,b24⟩;have Qbs:Dn l.prog w K mg base 7 "class_stand" ["world","name","age","out"] (J8 K g):=⟨_,_,Zd0 F25 T QaN Qaw QaO,mg_of X G a25,k25,b25⟩;have QaP:Dx l.prog w K mg base 3 "want_word" ["word"] (JL K g):=⟨_,_,Zfj F26 T QaG,mg_of X G a26,k26,b26⟩;have Qbt:Dk l.prog w K mg base CX0 g.Lives 1 "Lives" ["self"] (XR K g):=⟨T.Qdj,_,_,Zcn F27 T , by rw [← hg]; exact ⟨mk_Lives,a27,i27,kc_Lives⟩,b27⟩;have QaQ:Dm l.prog w K mg base CX0 g.Lives 1 "enter" ["self","name","year"] (XQ K g):=⟨T.Qab,_,_,Zd7 F28 T , by rw [← hg]; exact ⟨a28,i28,k28⟩,b28⟩;have QaR:Dm l.prog w K mg base (CXR l.prog w base) g.Lives 3 "want_alive" ["self","name"] (Yy K g):=⟨T.Qab,_,_,ZbQ F29 T Qaj Qac,by rw [← hg]; exact ⟨a29,i29,k29⟩,b29⟩;have Qbu:Dm l.prog w K mg base (CXR l.prog w base) g.Lives 4 "arrive" ["self","word","born"] (JE K g):=⟨T.Qab,_,_,Zdi F30 T QaP Qag QaQ,by rw [← hg]; exact ⟨a30,i30,k30⟩,b30⟩;have Qbv:Dm l.prog w K mg base (CXR l.prog w base) g.Lives 4 "birth" ["self","name","year"] (Zae K g):=⟨T.Qab,_,_,Zd9 F31 T QaR QaQ,by rw [← hg]; exact ⟨a31,i31,k31⟩,b31⟩;have Qbw:Dm l.prog w K mg base (CXR l.prog w base) g.Lives 4 "death" ["self","name","year"] (Zad K g):=⟨T.Qab,_,_,Zd8 F32 T QaR,by rw [← hg]; exact ⟨a32,i32,k32⟩,b32⟩;have QaU:Dm l.prog w K mg base (CXR l.prog w base) g.Lives 3 "born_in" ["self","name"] (Xd K g):=⟨T.Qab,_,_,ZcS F33 T Qaj,by rw [← hg]; exact ⟨a33,i33,k33⟩,b33⟩;have QdE:Dm l.prog w K mg base CX0 g.Lives 1 "names" ["self"] (Zbi K g):=⟨T.Qab,_,_,Zd5 F34 T , by rw [← hg]; exact ⟨a34,i34,k34⟩,b34⟩;have QbC:Dm l.prog w K mg base CX0 g.Lives 1 "living" ["self"] (JD K g):=⟨T.Qab,_,_,Zdh F35 T , by rw [← hg]; exact ⟨a35,i35,k35⟩,b35⟩;have Qae:Dn l.prog w K mg base 1 "is_class" ["holder"] (Yt K g):=⟨_,_,Zgs F36 T , mg_of X G a36,k36,b36⟩;have QaW:Dn l.prog w K mg base 6 "left_out_of" ["world","holder"] (XM K g):=⟨_,_,ZdX F37 T Qae QaS,mg_of X G a37,k37,b37⟩;have QaT:Dn l.prog w K mg base 2 "wanted" ["holder","atoms"] (ZbB K g):=⟨_,_,Zih F38 T Qae,mg_of X G a38,k38,b38⟩;have QbE:Dn l.prog w K mg base 9 "whole_stand" ["world","holder","atoms","out"] (J0 K g):=⟨_,_,ZdW F39 T Qbr QaJ QaT Qae Qbs,mg_of X G a39,k39,b39⟩;have Qax:Dx l.prog w K mg base 1 "want_between" ["number","low","high"] (YM K g):=⟨_,_,Zdd F40 T , mg_of X G a40,k40,b40⟩;have QbY:Dk l.prog w K mg base (CXR l.prog w base) g.World 3 "World" ["self","year"] (XO K g):=⟨T.Qdk,_,_,Zcl F41 T Qax Qbt,by rw [← hg]; exact ⟨mk_World,a41,i41,kc_World⟩,b41⟩;have QbK:Dm l.prog w K mg base (CXR l.prog w base) g.World 2 "pass_years" ["self","many"] (Xk K g):=⟨T.Qaa,_,_,ZbO F42 T Qax,by rw [← hg]; exact ⟨a42,i42,k42⟩,b42⟩;have QbL:Dm l.prog w K mg base (CXR l.prog w base) g.World 5 "arrive" ["self","word","age"] (JC K g):=⟨T.Qaa,_,_,Zdg F43 T Qax Qbu,by rw [← hg]; exact ⟨a43,i43,k43⟩,b43⟩;have QbM:Dm l.prog w K mg base (CXR l.prog w base) g.World 5 "birth" ["self","name"] (Zac K g):=⟨T.Qaa,_,_,Zd4 F44 T Qbv,by rw [← hg]; exact ⟨a44,i44,k44⟩,b44⟩;have QbN:Dm l.prog w K mg base (CXR l.prog w base) g.World 5 "death" ["self","name"] (Zaa K g):=⟨T.Qaa,_,_,Zd2 F45 T Qbw,by rw [← hg]; exact ⟨a45,i45,k45⟩,b45⟩;have QbJ:Dm l.prog w K mg base (CXR l.prog w base) g.World 4 "comes" ["self","word"] (Zab K g):=⟨T.Qaa,_,_,Zd3 F46 T QaP,by rw [← hg]; exact ⟨a46,i46,k46⟩,b46⟩;have Qbx:Dn l.prog w K mg base 7 "class_end" ["world","name","age"] (ZaX K g):=⟨_,_,Zfr F47 T QaS QaN QaO QaU Qaw,mg_of X G a47,k47,b47⟩;have QaV:Dn l.prog w K mg base 8 "first_end" ["world","holder","atoms"] (JN K g):=⟨_,_,Zfq F48 T Qae QaU Qbx Qac,mg_of X G a48,k48,b48⟩;have Qby:Dn l.prog w K mg base 5 "births_away" ["world","name"] (J9 K g):=⟨_,_,Zd1 F49 T Qai,mg_of X G a49,k49,b49⟩;have QbA:Dn l.prog w K mg base 6 "atom_lingers" ["world","atom","end","term"] (JB K g):=⟨_,_,Zdf F50 T Qby,mg_of X G a50,k50,b50⟩;have Qbz:Dn l.prog w K mg base 2 "class_lingers" ["world","name","age","term"] (X5 K g):=⟨_,_,ZcO F51 T Qag Qac,mg_of X G a51,k51,b51⟩;have Qay:Dn l.prog w K mg base 8 "hanging" ["world","holder","atoms"] (J6 K g):=⟨_,_,Zg6 F52 T QaT QaK,mg_of X G a52,k52,b52⟩;have QbD:Dn l.prog w K mg base 9 "is_late" ["world","holder","atoms","term"] (ZbX K g):=⟨_,_,Zg5 F53 T QaV Qae Qbz QbA Qay,mg_of X G a53,k53,b53⟩;have Qa4:Dn l.prog w K mg base 1 "years_deeds" ["many"] (JZ K g):=⟨_,_,ZdV F54 T , mg_of X G a54,k54,b54⟩;have Qa3:Dn l.prog w K mg base 5 "child_towards" ["world","name"] (X6 K g):=⟨_,_,ZcP F55 T Qai QaA,mg_of X G a55,k55,b55⟩;have QbB:Dn l.prog w K mg base 9 "children_wanted" ["world","holder","atoms"] (Xu K g):=⟨_,_,Zb2 F56 T Qa3 Qae Qac Qay Qag Qav,mg_of X G a56,k56,b56⟩;have QbG:Dn l.prog w K mg base 10 "story_of" ["world","holder","atoms","term"] (Zbc K g):=⟨_,_,Zgh F57 T QbB Qa4 QaV QbC Qav,mg_of X G a57,k57,b57⟩;have QbF:Dn l.prog w K mg base 9 "names_of" ["world","holder","atoms"] (Zbd K g):=⟨_,_,Zgi F58 T Qae Qai Qac Qay Qaw QaW,mg_of X G a58,k58,b58⟩;have QaY:Dn l.prog w K mg base 11 "judged" ["world","holder","atoms","term"] (ZcF K g):=⟨_,_,Zij F59 T QbD QbE QbF QaW QbG,mg_of X G a59,k59,b59⟩;have Qa0:Dn l.prog w K mg base 1 "_law_cell_at" ["_law_script","_law_k"] (J5 K g):=⟨_,_,ZdY F60 T , mg_of X G a60,k60,b60⟩;have Qaz:Dn l.prog w K mg base 1 "_law_rich" ["_law_cell","_law_place"] (Zao K g):=⟨_,_,Zgm F61 T , mg_of X G a61,k61,b61⟩;have Qan:Dn l.prog w K mg base 1 "_law_word" ["_law_n"] (Jx K g):=⟨_,_,Zgl F62 T , mg_of X G a62,k62,b62⟩;have QbS:Dn l.prog w K mg base 1 "_law_model" ["_law_year"] (ZaV K g):=⟨_,_,Zfn F63 T , mg_of X G a63,k63,b63⟩;have QbH:Dn l.prog w K mg base 1 "_law_kids" ["_law_model_here","_law_name"] (Zbh K g):=⟨_,_,Zgr F64 T , mg_of X G a64,k64,b64⟩;have QbI:Dn l.prog w K mg base 1 "_law_living" ["_law_model_here"] (Zaw K g):=⟨_,_,Zeu F65 T , mg_of X G a65,k65,b65⟩;have QbV:Dn l.prog w K mg base 2 "_law_play" ["_law_model_here","_law_deed"] (Zbe K g):=⟨_,_,Zgn F66 T QbH,mg_of X G a66,k66,b66⟩;have QbX:Dn l.prog w K mg base 2 "_law_next_deed" ["_law_model_here","_law_n","_law_far"] (X4 K g):=⟨_,_,ZcN F67 T QbI Qan,mg_of X G a67,k67,b67⟩;have QbT:Dn l.prog w K mg base 2 "_law_start" ["_law_n"] (ZaT K g):=⟨_,_,Zfl F68 T Qan,mg_of X G a68,k68,b68⟩;have QbU:Dn l.prog w K mg base 6 "_law_do" ["_law_world","_law_deed"] (ZcE K g):=⟨_,_,Zii F69 T QbJ QbK QbL QbM QbN,mg_of X G a69,k69,b69⟩;have QaX:Dn l.prog w K mg base 1 "_law_path" ["_law_model_here","_law_n"] (Zap K g):=⟨_,_,Zgo F70 T , mg_of X G a70,k70,b70⟩;have QbO:Dn l.prog w K mg base 2 "_law_need" ["_law_model_here","_law_n"] (Zbf K g):=⟨_,_,Zgp F71 T QaX Qan,mg_of X G a71,k71,b71⟩;have QbQ:Dn l.prog w K mg base 3 "_law_needs" ["_law_model_here","_law_n","_law_most"] (ZaU K g):=⟨_,_,Zfm F72 T QbO Qaz,mg_of X G a72,k72,b72⟩;have QbP:Dn l.prog w K mg base 1 "_law_near" ["_law_model_here","_law_name"] (Zbg K g):=⟨_,_,Zgq F73 T , mg_of X G a73,k73,b73⟩;have QbR:Dn l.prog w K mg base 2 "_law_holder" ["_law_model_here","_law_n"] (Zax K g):=⟨_,_,Zev F74 T QaX QbP,mg_of X G a74,k74,b74⟩;have QbW:Dn l.prog w K mg base 4 "_law_judged_row" ["_law_model_here","_law_n"] (XN K g):=⟨_,_,Zck F75 T QbQ QbR,mg_of X G a75,k75,b75⟩;have Qa5:Dn l.prog w K mg base 1 "_law_alike" ["_law_one","_law_other"] (ZaW K g):=⟨_,_,Zfo F76 T , mg_of X G a76,k76,b76⟩;have z:=ok_law (P:=l.prog) (w0:=w) (base:=base) F77 T Qaz QbS QbT Qa0 QbU QbV QbW QbX QaY Qa5 QbY;exact z
theorem walk {l:PySem.W.OpenLaw} {q:Program} {loose:List Str} {XP:(Str→Option Value)→Heap→Prop} {YP:World→Heap→Prop} {d:DefRec} {K:Params→Frag} (hn:l.most=some 63) (hdf:d.params.defaults=[])
    (hY:∀ (w:World) (h:Heap),YP w h→(K w.params).In h)
    (F:∀ (w:World) (mg:Str→Option Value) (fa:Addr) (h:Heap),(K w.params).In h→h.Ns mainGlobals mg→mg d.name=some (.ref fa) →
      ∃ (g:Ga) (fd:FuncData),(∀ (s:Shared) (u:Value),BindsTo s fd ⟨[u],[]⟩ [("_law_script",u)])∧∀ base:Heap,(K w.params).In base→base.Ns mainGlobals mg→FnOk l.prog w (K w.params) mg base CX0 12 fa fd ["_law_script"] (Ze3 (K w.params) g)) :
    PySem.W.WalkO q loose XP YP l.row.toRowW d [] (fun f vs=>PySem.call f vs):=
  L2.walk_of (n:=63) (k:=12) (x:="_law_script") (CX:=fun _=>CX0) (sp:=fun w=>Ze3 (K w.params) {}) hn (by decide) hdf ⟨rfl,by decide,by decide⟩ hY (fun w mg fa h a b c=>(F w mg fa h a b c).elim fun _ z=>z) (fun _ _ a ns hl _ hS=>⟨a,ns,rfl,hS,hl,fun _=>rfl⟩) fun _ _ _ _ _ z=>z
end My
namespace PySem.W.Fast
theorem tw6505863722320014507:True:=trivial
theorem tw11808019971456663232:True:=trivial
theorem tw8065122449789072586:True:=trivial
theorem tw1433919982521828435:True:=trivial
theorem tw1864559347077231742:True:=trivial
theorem tw7036837102774814020:True:=trivial
theorem tw15585364904322075084:True:=trivial
theorem tw5715623236633477821:True:=trivial
theorem tw7596175427925916264:True:=trivial
theorem tw12912464561237609715:True:=trivial
theorem tw15319553490932519253:True:=trivial
theorem tw15299181709121951854:True:=trivial
theorem tw1285384483302067996:True:=trivial
theorem tw16170433451115289719:True:=trivial
theorem tw6744089231726388845:True:=trivial
theorem tw4526980594136564866:True:=trivial
theorem tw5058194549086092355:True:=trivial
theorem tw705750311026547521:True:=trivial
theorem tw13378478778006089309:True:=trivial
theorem tw14709330411576419385:True:=trivial
theorem tw8705097856541768972:True:=trivial
theorem tw7772453021241328646:True:=trivial
theorem tw18329024663680479888:True:=trivial
theorem tw5369789317701508263:True:=trivial
theorem tw12301654203936567347:True:=trivial
theorem tw16471111613289431935:True:=trivial
theorem tw17937869038370582394:True:=trivial
theorem tw14865838401248592031:True:=trivial
theorem tw5521055522930098636:True:=trivial
theorem tw1379489245004993450:True:=trivial
theorem tw8820823834954932347:True:=trivial
theorem tw3925873824597676169:True:=trivial
theorem tw5778553597844487254:True:=trivial
theorem tw4732246202936231427:True:=trivial
theorem tw14398617413513515976:True:=trivial
theorem tw13477257358462855568:True:=trivial
theorem tw5206037944778701957:True:=trivial
theorem tw12551740435888978537:True:=trivial
theorem tw9829884567122814246:True:=trivial
theorem tw15513199010908454811:True:=trivial
theorem tw2242849380724799516:True:=trivial
theorem tw8343696411822950387:True:=trivial
theorem tw15166643906798011012:True:=trivial
theorem tw1931807259004826201:True:=trivial
theorem tw3656497779020382734:True:=trivial
theorem tw2362955162753366055:True:=trivial
theorem tw17981848436144464711:True:=trivial
theorem tw17943192495760025562:True:=trivial
theorem tw9017832678770870508:True:=trivial
theorem tw16085212010651570039:True:=trivial
theorem tw8181252728613936327:True:=trivial
theorem tw5828156945101837703:True:=trivial
theorem tw18424506692239455433:True:=trivial
theorem tw5174618444423410844:True:=trivial
theorem tw14980872124297534952:True:=trivial
theorem tw3470219416166803643:True:=trivial
theorem tw4464239708180083883:True:=trivial
theorem tw2705081610699873677:True:=trivial
theorem tw4895408724202866880:True:=trivial
theorem tw17484473490096390029:True:=trivial
theorem tw6603847063724798553:True:=trivial
theorem tw10444143018004355266:True:=trivial
theorem tw2010288336591169256:True:=trivial
theorem tw928811481010979087:True:=trivial
theorem tw1380597514232014527:True:=trivial
theorem tw1304156222527578235:True:=trivial
theorem tw15533596844632433578:True:=trivial
end PySem.W.Fast
open PySem PySem.W PyProof.Rows
set_option maxRecDepth 100000 in
set_option maxHeartbeats 0 in
theorem PySem.Challenge.cw_deadhand_k26_needs_joined_holds : PySem.Challenge.rw_deadhand_k26_needs_joined.Holds := by
  w_on; o_law; z_head; (case hw=>w_witness2)
  refine L2.walkX_of (by intro P; exact rfl) (My.walk (l:=PySem.Challenge.rw_deadhand_k26_needs_joined) rfl rfl (fun w h Y=>Y) ?F)
  case F =>
    intro w mg fa h KX G hmg;refine' My.all_mk KX G hmg ?QbZ ?Qb0 ?Qb1 ?Qb2 ?Qb3 ?Qb4 ?Qb5 ?Qb6 ?Qb7 ?Qb8 ?Qb9 ?Qca ?Qcb ?Qcc ?Qcd ?Qce ?Qcf ?Qcg ?Qch ?Qci ?Qcj ?Qck ?Qcl ?Qcm ?Qcn ?Qco ?Qcp ?Qcq ?Qcr ?Qcs ?Qct ?Qcu ?Qcv ?Qcw ?Qcx ?Qcy ?Qcz ?QcA ?QcB ?QcC ?QcD ?QcE ?QcF ?QcG ?QcH ?QcI ?QcJ ?QcK ?QcT ?QcU ?QcV ?QcW ?QcX ?QcY ?pg_Lives ?hd_Lives ?po_Lives ?sa_Lives ?na_Lives_births ?na_Lives_deaths ?na_Lives_broods ?QcZ ?pg_World ?hd_World ?po_World ?sa_World ?na_World_year ?na_World_lives ?na_World_happened ?Qc0 ?Qc1 ?Qc2 ?Qc3 ?Qc4 ?Qc5 ?Qc6 ?lk_BARRED ?Qc7 ?Qc8 ?Qc9 ?Qda ?Qdb ?Qdc ?lk_ABOUT_PEOPLE ?a0 ?l0 ?cc0 ?k0 ?a1 ?l1 ?cc1 ?k1 ?a2 ?l2 ?cc2 ?k2 ?a3 ?l3 ?cc3 ?k3 ?a4 ?l4 ?cc4 ?k4 ?a5 ?i5 ?l5 ?cc5 ?k5 ?a6 ?l6 ?cc6 ?k6 ?a7 ?i7 ?l7 ?cc7 ?k7 ?a8 ?i8 ?l8 ?cc8 ?k8 ?a9 ?i9 ?l9 ?cc9 ?k9 ?a10 ?i10 ?l10 ?cc10 ?k10 ?a11 ?i11 ?l11 ?cc11 ?k11 ?a12 ?l12 ?cc12 ?k12 ?a13 ?l13 ?cc13 ?k13 ?a14 ?i14 ?l14 ?cc14 ?k14 ?a15 ?l15 ?cc15 ?k15 ?a16 ?l16 ?cc16 ?k16 ?a17 ?l17 ?cc17 ?k17 ?a18 ?i18 ?l18 ?cc18 ?k18 ?a19 ?l19 ?cc19 ?k19 ?a20 ?l20 ?cc20 ?k20 ?a21 ?l21 ?cc21 ?k21 ?a22 ?l22 ?cc22 ?k22 ?a23 ?l23 ?cc23 ?k23 ?a24 ?l24 ?cc24 ?k24 ?a25 ?l25 ?cc25 ?k25 ?a26 ?l26 ?cc26 ?k26 ?a27 ?i27 ?l27 ?cc27 ?k27 ?a28 ?i28 ?l28 ?cc28 ?k28 ?a29 ?i29 ?l29 ?cc29 ?k29 ?a30 ?i30 ?l30 ?cc30 ?k30 ?a31 ?i31 ?l31 ?cc31 ?k31 ?a32 ?i32 ?l32 ?cc32 ?k32 ?a33 ?i33 ?l33 ?cc33 ?k33 ?a34 ?i34 ?l34 ?cc34 ?k34 ?a35 ?i35 ?l35 ?cc35 ?k35 ?a36 ?l36 ?cc36 ?k36 ?a37 ?l37 ?cc37 ?k37 ?a38 ?l38 ?cc38 ?k38 ?a39 ?l39 ?cc39 ?k39 ?a40 ?l40 ?cc40 ?k40 ?a41 ?i41 ?l41 ?cc41 ?k41 ?a42 ?i42 ?l42 ?cc42 ?k42 ?a43 ?i43 ?l43 ?cc43 ?k43 ?a44 ?i44 ?l44 ?cc44 ?k44 ?a45 ?i45 ?l45 ?cc45 ?k45 ?a46 ?i46 ?l46 ?cc46 ?k46 ?a47 ?l47 ?cc47 ?k47 ?a48 ?l48 ?cc48 ?k48 ?a49 ?l49 ?cc49 ?k49 ?a50 ?l50 ?cc50 ?k50 ?a51 ?l51 ?cc51 ?k51 ?a52 ?l52 ?cc52 ?k52 ?a53 ?l53 ?cc53 ?k53 ?a54 ?l54 ?cc54 ?k54 ?a55 ?l55 ?cc55 ?k55 ?a56 ?l56 ?cc56 ?k56 ?a57 ?l57 ?cc57 ?k57 ?a58 ?l58 ?cc58 ?k58 ?a59 ?l59 ?cc59 ?k59 ?a60 ?l60 ?cc60 ?k60 ?a61 ?l61 ?cc61 ?k61 ?a62 ?l62 ?cc62 ?k62 ?a63 ?l63 ?cc63 ?k63 ?a64 ?l64 ?cc64 ?k64 ?a65 ?l65 ?cc65 ?k65 ?a66 ?l66 ?cc66 ?k66 ?a67 ?l67 ?cc67 ?k67 ?a68 ?l68 ?cc68 ?k68 ?a69 ?l69 ?cc69 ?k69 ?a70 ?l70 ?cc70 ?k70 ?a71 ?l71 ?cc71 ?k71 ?a72 ?l72 ?cc72 ?k72 ?a73 ?l73 ?cc73 ?k73 ?a74 ?l74 ?cc74 ?k74 ?a75 ?l75 ?cc75 ?k75 ?a76 ?l76 ?cc76 ?k76 ?a77 ?l77 ?cc77 ?k77 ?mk_Lives ?kc_Lives ?mk_World ?kc_World
    (case QbZ=>k_is)
    (case Qb0=>k_is)
    (case Qb1=>k_is)
    (case Qb2=>k_is)
    (case Qb3=>k_is)
    (case Qb4=>k_is)
    (case Qb5=>k_is)
    (case Qb6=>k_is)
    (case Qb7=>k_is)
    (case Qb8=>k_is)
    (case Qb9=>k_is)
    (case Qca=>k_is)
    (case Qcb=>k_is)
    (case Qcc=>k_is)
    (case Qcd=>k_is)
    (case Qce=>k_is)
    (case Qcf=>k_is)
    (case Qcg=>k_exc)
    (case Qch=>k_is)
    (case Qci=>k_is)
    (case Qcj=>k_is)
    (case Qck=>k_is)
    (case Qcl=>k_is)
    (case Qcm=>k_exc)
    (case Qcn=>k_is)
    (case Qco=>k_is)
    (case Qcp=>k_is)
    (case Qcq=>k_is)
    (case Qcr=>k_is)
    (case Qcs=>k_exc)
    (case Qct=>k_is)
    (case Qcu=>k_is)
    (case Qcv=>k_is)
    (case Qcw=>k_is)
    (case Qcx=>k_is)
    (case Qcy=>k_exc)
    (case Qcz=>k_is)
    (case QcA=>k_is)
    (case QcB=>k_is)
    (case QcC=>k_is)
    (case QcD=>k_is)
    (case QcE=>k_exc)
    (case QcF=>k_is)
    (case QcG=>k_is)
    (case QcH=>k_is)
    (case QcI=>k_is)
    (case QcJ=>k_is)
    (case QcK=>k_exc)
    all_goals (try k_is)
