import PyProof.Rows.All
import Wide.All
import OpenK.AllK
import Wide.FinOn
import Lean
import PyProof.EqAt
import PyProof.EqKinds
import PyProof.TupleCall
import KE.KDictList
import PyProof.Rows.StrCountLaw
import KE.KIntText
import PyProof.P3In
import PySem.Challenge.RW_deadhand_k20_whole_heirs_of_heirs
open PySem.W (instObj hideAll Frag lookIn plainGet hasDictIn findIn isFn plainOver makesIn emptyDict keepIn fnOf codeIn excIn nsIn subIn mg_of mg_none_of)
open Nat (lt_of_lt_of_le lt_irrefl ne_of_lt le_trans le_of_lt le_refl zero_le le_succ sub_self)
open List (mem_cons_self mem_cons_of_mem mem_append_left mem_append_right size_toArray length_cons map_cons length_map append_nil length_take getElem?_append_right getElem?_append_left getElem?_map mem_of_getElem? length_append find?_cons any_cons map_nil flatten_cons append_assoc length_singleton take_succ getElem?_eq_getElem take_length mem_append all_append map_append nodup_append map_map map_congr_left eq_nil_or_concat mem_map length_range mem_cons not_mem_nil getElem_mem filter_append filter_cons_of_pos filter_cons_of_neg length_filter_le)
open Array (length_toList getElem?_toList)
open Option (isSome_map map_some)
open PySem.F (slot_dict_get plainAttrs_str plainAttrs_list)
open Int (toNat_natCast emod_lt_of_pos emod_nonneg)
open Bool (and_eq_true or_eq_true)
open PySem (boot_len)
open PyProof.Rows (boot_list boot_max boot_str)
set_option Elab.async false
set_option linter.all false
set_option maxRecDepth 100000
namespace L2
open PySem PySem.Spec PyProof.Rows
noncomputable abbrev Key:=Sum Int Str
noncomputable def ZbJ:Key->Value->Bool
  |.inl k,v=>Value.isInt k v
  |.inr x,v=>Value.isStrOf x v
noncomputable def keyH (w:World):Key->Int
  |.inl k=>hashInt k
  |.inr x=>hashStr w x
theorem ZP:∀ {k:Key} {v:Value},ZbJ k v=true->(∃ i t,k=Sum.inl i/\v=Value.int i t)\/(∃ x t,k=Sum.inr x/\v=Value.str x t)
  | .inl i,v,h=>by
    obtain⟨t,e⟩:=Value.isInt_shape (k:=i) (v:=v) h;exact .inl ⟨i,t,rfl,e⟩
  | .inr x,v,h=>by
    obtain⟨t,e⟩:=Value.isStrOf_shape (x:=x) (v:=v) h;exact .inr ⟨x,t,rfl,e⟩
theorem ZgJ (i:Int)(t:Tok):ZbJ (.inl i) (.int i t)=true:=by simp[ZbJ,Value.isInt]
theorem ZgI (x:Str)(t:Tok):ZbJ (.inr x) (.str x t)=true:=by simp[ZbJ,Value.isStrOf]
theorem key_ll (a b:Int):decide ((Sum.inl a:Key)=Sum.inl b)=(a == b):=by
  by_cases e:a=b
  . subst e;simp
  . have h:¬ (Sum.inl a:Key)=Sum.inl b:=λ q=>e (Sum.inl.inj q);rw[decide_eq_false h];exact(beq_eq_false_iff_ne.mpr e).symm
theorem key_rr (a b:Str):decide ((Sum.inr a:Key)=Sum.inr b)=decide (a=b):=by
  by_cases e:a=b
  . subst e;simp
  . have h:¬ (Sum.inr a:Key)=Sum.inr b:=λ q=>e (Sum.inr.inj q);rw[decide_eq_false h,decide_eq_false e]
theorem key_lr (a:Int)(b:Str):decide ((Sum.inl a:Key)=Sum.inr b)=false:=decide_eq_false (λ q=>nomatch q)
theorem key_rl (a:Str)(b:Int):decide ((Sum.inr a:Key)=Sum.inl b)=false:=decide_eq_false (λ q=>nomatch q)
noncomputable def ZT (prog:Program)(w:World):PySem.KeyKind prog w Key where
  is:=ZbJ
  hash:=keyH w
  inj:=λ v a b ha hb=>by
    rcases ZP ha with ⟨i,t,rfl,rfl⟩|⟨x,t,rfl,rfl⟩
    . rcases ZP hb with ⟨j,u,rfl,e⟩|⟨y,u,rfl,e⟩
      . injection e with e1 _;rw[e1]
      . exact nomatch e
    . rcases ZP hb with ⟨j,u,rfl,e⟩|⟨y,u,rfl,e⟩
      . exact nomatch e
      . injection e with e1 _;rw[e1]
  byValue:=λ k v h=>by
    rcases ZP h with ⟨i,t,rfl,rfl⟩|⟨x,t,rfl,rfl⟩ <;> rfl
  pyHash:=λ hv h=>by
    rcases ZP hv with ⟨i,t,rfl,rfl⟩|⟨x,t,rfl,rfl⟩
    . exact wpAny_pyHash_int h
    . exact wpAny_pyHash_str h
  eqBool:=λ hu hv h=>by
    rcases ZP hu with ⟨i,t,rfl,rfl⟩|⟨x,t,rfl,rfl⟩
    . rcases ZP hv with ⟨j,u,rfl,rfl⟩|⟨y,u,rfl,rfl⟩
      . rw[key_ll]at h;exact wpAny_eqBool_int h
      . rw[key_lr]at h;exact SeqAt.EqAt.int_str i t y u _ _ _ _ h
    . rcases ZP hv with ⟨j,u,rfl,rfl⟩|⟨y,u,rfl,rfl⟩
      . rw[key_rl]at h;exact SeqAt.EqAt.str_int x t j u _ _ _ _ h
      . rw[key_rr]at h;exact wpAny_eqBool_str h
  «strs»:=λ k x t v h=>by
    rcases ZP h with ⟨i,u,rfl,e⟩|⟨y,u,rfl,e⟩
    . exact nomatch e
    . injection e with e1 _;subst e1;cases v <;> rfl
theorem ZeY (prog:Program)(w:World)(i:Int)(t:Tok):(ZT prog w).is (.inl i) (.int i t)=true:=ZgJ i t
theorem ZeX (prog:Program)(w:World)(x:Str)(t:Tok):(ZT prog w).is (.inr x) (.str x t)=true:=ZgI x t
open PySem PySem.Spec PyProof.Rows
inductive V where
  | non|bl (b:Bool)|int (i:Int)|str (x:Str)|byt (b:Array UInt8)|flt (b:UInt64)|ref (a:Addr)|ty (n:String)
  deriving DecidableEq
noncomputable def Zx:V->Value->Prop
  |.non,u=>u=Value.none
  |.bl b,u=>u=Value.bool b
  |.int i,u=>∃ t,u=Value.int i t
  |.str x,u=>∃ t,u=Value.str x t
  |.byt b,u=>∃ t,u=Value.bytes b t
  |.flt b,u=>∃ t,u=Value.float b t
  |.ref a,u=>u=Value.ref a
  |.ty n,u=>u=Value.type n
noncomputable abbrev ZG:List V->List Value->Prop:=Paired Zx
theorem ZG.length {xs:List V}{us:List Value}(r:ZG xs us):xs.length=us.length:=Paired.length r
theorem ZG.get:∀ {xs:List V} {us:List Value} {i:Nat} {x:V},ZG xs us->xs[i]? = some x->∃ u,us[i]? = some u/\Zx x u
  |_,_,_,_, .nil,e=>by simp at e
  |_,_,0,_, .cons r _,e=>by simp at e;subst e;exact⟨_,rfl,r⟩
  | _,_,i+1,x, .cons _ t,e=>by
    obtain⟨u,h1,h2⟩:=ZG.get (i:=i) (x:=x) t (by simpa using e);exact⟨u,by simpa using h1,h2⟩
theorem ZG.set {x:V}{u:Value}(r:Zx x u):∀ {xs:List V} {us:List Value} (i:Nat),ZG xs us->ZG (xs.set i x) (us.set i u)
  |_,_,_, .nil => .nil
  |_,_,0, .cons _ t => .cons r t
  |_,_,i+1, .cons q t => .cons q (ZG.set r i t)
theorem ZG.append:∀ {xs ys:List V} {us ws:List Value},ZG xs us->ZG ys ws->ZG (xs++ys) (us++ws)
  |_,_,_,_, .nil,s=>s
  |_,_,_,_, .cons r t,s => .cons r (ZG.append t s)
noncomputable def Jl:Option V->Option Value->Prop
  |some v,some u=>Zx v u
  |none,none=>True
  |_,_=>False
noncomputable def KV {κ:Type}:List (κ×V)->List (κ×Value)->Prop:=Paired λ(p:κ×V)(q:κ×Value)=>p.1=q.1/\Zx p.2 q.2
noncomputable def kV:Key->V
  |.inl i => .int i
  |.inr x => .str x
inductive HO where
    | lst (xs:List V)
    | tup (xs:List V)
    | dK (kvs:List (Key×V))|dT (kvs:List (List Key×V))
    | set (S:Int->Bool) (n:Nat)
    | ins (C dx:Addr) (fs:List (Str×V))
    | own (x:Addr)
    | xd (fs:List (Str×V))
    | met (f x:Addr)
    | rng (lo hi:Int)
    | frz (o:Obj) (u:HO)
    | tbl (ps:Array Value)
    | ext (φ:Heap->Prop)
noncomputable abbrev Hp:=Addr->Option HO
noncomputable def upd (H:Hp)(a:Addr)(o:HO):Hp:=λ b=>if b=a then some o else H b
theorem Zb {H:Hp}{a:Addr}{o:HO}:upd H a o a=some o:=by unfold upd;rw[if_pos rfl]
theorem Ze {H:Hp}{a b:Addr}{o:HO}(h:b≠a):upd H a o b=H b:=by unfold upd;rw[if_neg h]
theorem Zb5 {H:Hp}{a:Addr}{o u:HO}:upd (upd H a o) a u=upd H a u:=by
 funext b;unfold upd;split <;> rfl
theorem ZcU {H:Hp}{a b:Addr}{o u:HO}(h:H a=some o)(h':H b=some u)(d:o≠u):a≠b:=by
 intro e;subst e;rw[h]at h';exact d (Option.some.inj h')
theorem Zm {H:Hp}{a b:Addr}{o:HO}(h:H a=some o)(h':H b=none):a≠b:=by
 intro e;subst e;rw[h]at h';cases h'
section
variable (P:Program)(w:World)
noncomputable def ZV (H:Hp)(h:Heap)(a:Addr):HO->Prop
  |.lst xs=>xs.length<=sizeLine/\∃(its:List Value)(n:Nat),ZG xs its/\h.get? a=some { cls:=.type "list",data:=.seq its.toArray n }
  |.tup xs=>xs.length<=sizeLine/\∃ its:List Value,ZG xs its/\IsTup h a its.toArray
  |.dK kvs=>kvs.length<=sizeLine/\(a == sysModules)=false/\∃ vs,KV kvs vs/\h.DictOf (ZT P w) a vs
  | .dT kvs=>kvs.length<=sizeLine/\(a == sysModules)=false/\∃ xs:List (List Key×Addr×Value),
      Paired (λ(p:List Key×V)(q:List Key×Addr×Value)=>p.1=q.1/\H q.2.1=some (.tup (p.1.map kV))/\Zx p.2 q.2.2) kvs xs /\
      ∃ o es ep,h.get? a=some o/\o.ExactDict/\o.data = .dict es ep/\es.toList=xs.map (entryOfKey (tupleKind (ZT P w)))/\(xs.map (·.1)).Nodup
  |.set S n=>h.SetOf (intKind P w) a S n
  | .ins C dx fs=>H dx=some (.own a)/\fs.length<=1000/\dx≠a/\h.get? a=some (instObj C dx) /\
      ∃ mA,h.Ns1 dx mA/\(∀ f,Jl (fs.lookup f) (mA f))/\PySem.Within mA (fs.map (·.1))
  |.own _=>∃ o,h.get? a=some o
  |.xd fs=>∃ mA,h.Ns1 a mA/\∀ f,Jl (fs.lookup f) (mA f)
  |.rng lo hi=>∃ t u v,h.get? a=some { cls:=.type "range",data:=.fields #[.int lo t, .int hi u, .int 1 v] }
  |.frz o u=>h.get? a=some o/\ZV H h a u
  |.tbl ps=>h.get? a=some { cls:=.none,data:=.fields ps }
  |.met f x=>h.get? a=some (PySem.W.methodObj (.ref f) (.ref x))
  |.ext φ=>φ h/\(∃ o,h.get? a=some o)/\∀ h1 h2:Heap,φ h1->(∀ o,h1.get? a=some o->h2.get? a=some o)->φ h2
noncomputable def HOk (H:Hp)(h:Heap):Prop:=∀ a o,H a=some o->ZV P w H h a o
end
section
variable {P:Program}{w:World}{H H':Hp}{h h':Heap}{a:Addr}{o:HO}
theorem ZV.lt (x:ZV P w H h a o):a<h.objs.size:=by
  cases o with
  |lst xs=>obtain⟨_,_,_,_,e⟩:=x;exact Heap.lt_size e
  |tup xs=>obtain⟨_,_,_,p⟩:=x;exact p.lt
  |dK kvs=>obtain⟨_,_,_,_,o,_,_,e,_⟩:=x;exact Heap.lt_size e
  |dT kvs=>obtain⟨_,_,_,_,o,_,_,e,_⟩:=x;exact Heap.lt_size e
  |set S n=>obtain⟨o,_,_,_,e,_⟩:=x;exact Heap.lt_size e
  |ins C dx fs=>obtain⟨_,_,_,e,_⟩:=x;exact Heap.lt_size e
  |own y=>obtain⟨_,e⟩:=x;exact Heap.lt_size e
  |xd fs=>obtain⟨_,⟨_,_,_,e,_⟩,_⟩:=x;exact Heap.lt_size e
  |rng lo hi=>obtain⟨_,_,_,e⟩:=x;exact Heap.lt_size e
  |frz ob u=>obtain⟨e,_⟩:=x;exact Heap.lt_size e
  |tbl ps=>exact Heap.lt_size (show h.get? a=some _ from x)
  |met f y=>exact Heap.lt_size (show h.get? a=some _ from x)
  |ext φ=>obtain⟨_,⟨_,e⟩,_⟩:=x;exact Heap.lt_size e
theorem Paired.mapP {α β:Type}{F G:α->β->Prop}:∀ {l₁:List α} {l₂:List β},Paired F l₁ l₂->(∀ a b,F a b->G a b)->Paired G l₁ l₂
  |_,_, .nil,_ => .nil
  |_,_, .cons r t,f => .cons (f _ _ r) (Paired.mapP t f)
theorem ZV.stay (x:ZV P w H h a o)(k:∀ b u,(b=a\/H b=some (.own a))->h.get? b=some u->h'.get? b=some u)(ho:∀ b,H b=some (.own a)->H' b=some (.own a))(ht:∀ b xs,H b=some (.tup xs)->H' b=some (.tup xs)):ZV P w H' h' a o:=by
  induction o with
  |lst xs=>obtain⟨z,its,n,r,e⟩:=x;exact⟨z,its,n,r,k _ _ (.inl rfl) e⟩
  |tup xs=>obtain⟨z,its,r,ob,e,c⟩:=x;exact⟨z,its,r,ob,k _ _ (.inl rfl) e,c⟩
  |dK kvs=>obtain⟨z,y,vs,r,ob,es,ep,e,c⟩:=x;exact⟨z,y,vs,r,ob,es,ep,k _ _ (.inl rfl) e,c⟩
  |dT kvs=>
    obtain⟨z,y,xs,r,ob,es,ep,e,c⟩:=x;exact⟨z,y,xs,Paired.mapP r λ p q z=>⟨z.1,ht _ _ z.2.1,z.2.2⟩,ob,es,ep,k _ _ (.inl rfl) e,c⟩
  |set S n=>obtain⟨ob,es,ep,t,e,c⟩:=x;exact⟨ob,es,ep,t,k _ _ (.inl rfl) e,c⟩
  |ins C dx fs=>
    obtain⟨d,z,ne,e,mA,⟨od,es,ep,e2,c⟩,r⟩:=x;exact⟨ho _ d,z,ne,k _ _ (.inl rfl) e,mA,⟨od,es,ep,k _ _ (.inr d) e2,c⟩,r⟩
  |own y=>obtain⟨ob,e⟩:=x;exact⟨ob,k _ _ (.inl rfl) e⟩
  |xd fs=>obtain⟨mA,⟨od,es,ep,e,c⟩,r⟩:=x;exact⟨mA,⟨od,es,ep,k _ _ (.inl rfl) e,c⟩,r⟩
  |rng lo hi=>obtain⟨t,u,v,e⟩:=x;exact⟨t,u,v,k _ _ (.inl rfl) e⟩
  |frz ob u ih=>obtain⟨e,q⟩:=x;exact⟨k _ _ (.inl rfl) e,ih q⟩
  |tbl ps=>
    have e:h.get? a=some { cls:=.none,data:=.fields ps }:=x;show h'.get? a=some { cls:=.none,data:=.fields ps };exact k a _ (.inl rfl) e
  |met f y=>
    have e:h.get? a=some (PySem.W.methodObj (.ref f) (.ref y)):=x;show h'.get? a=some (PySem.W.methodObj (.ref f) (.ref y));exact k a _ (.inl rfl) e
  |ext φ=>obtain⟨p,⟨o,e⟩,st⟩:=x;exact⟨st _ _ p λ o q=>k _ _ (.inl rfl) q,⟨o,k _ _ (.inl rfl) e⟩,st⟩
theorem HOk.lt (x:HOk P w H h)(e:H a=some o):a<h.objs.size:=(x a o e).lt
theorem HOk.fresh (x:HOk P w H h)(e:h.objs.size<=a):H a=none:=by
  cases q:H a with
  |none=>rfl
  |some u=>exact absurd (lt_of_lt_of_le (x.lt q) e) (lt_irrefl _)
theorem HOk.kept (x:HOk P w H h)(k:∀ b u,h.get? b=some u->h'.get? b=some u):HOk P w H h':=λ a o e=>
 (x a o e).stay (λ b u _ q=>k b u q) (λ _ q=>q) λ _ _ q=>q
theorem HOk.laid (x:HOk P w H h)(k:∀ b u,h.get? b=some u->h'.get? b=some u)(hp:h.objs.size<=a)(new:ZV P w (upd H a o) h' a o):HOk P w (upd H a o) h':=λ b u e=>by
  have hn:=x.fresh hp
  by_cases hb:b=a
  . subst hb;rw[Zb]at e;cases e;exact new
  . rw[Ze hb]at e;exact(x b u e).stay (λ c v _ q=>k c v q) (λ c q=>by rw[Ze (Zm q hn)];exact q) λ c xs q=>by rw[Ze (Zm q hn)];exact q
end
noncomputable def Rd (H:Hp)(a:Addr)(u:HO):Prop:=H a=some u\/∃ o,H a=some (.frz o u)
theorem Rd.ok {P:Program}{w:World}{H:Hp}{h:Heap}{a:Addr}{u:HO}(r:Rd H a u)(x:HOk P w H h):ZV P w H h a u:=by
  rcases r with r|⟨o,r⟩
  . exact x a u r
  . obtain⟨_,q⟩:=x a _ r;exact q
noncomputable def Mut:Option HO->Prop
  |some (.lst _)=>True
  |some (.dK _)=>True
  |some (.dT _)=>True
  |some (.set _ _)=>True
  |some (.ins _ _ _)=>True
  |some (.ext _)=>True
  |_=>False
section
variable {P:Program}{w:World}{H:Hp}{h h':Heap}{x e:Addr}{o':HO}
theorem HOk.write (ok:HOk P w H h)(mu:Mut (H x))(he:e=x\/H e=some (.own x))(k:∀ b u,b≠e->h.get? b=some u->h'.get? b=some u)(heo:∃ u,h'.get? e=some u)(new:ZV P w (upd H x o') h' x o'):HOk P w (upd H x o') h':=λ b u q=>by
  have nown:∀ c y,H c=some (.own y)->c≠x:=λ c y r z=>by subst z;rw[r]at mu;exact mu
  have ntup:∀ c xs,H c=some (.tup xs)->c≠x:=λ c xs r z=>by subst z;rw[r]at mu;exact mu
  by_cases hb:b=x
  . subst hb;rw[Zb]at q;cases q;exact new
  . rw[Ze hb]at q
    by_cases hbe:b=e
    . have q':H b=some (.own x):=by
        rcases he with z|z
        . exact absurd (hbe.trans z) hb
        . rw[hbe];exact z
      rw[q]at q';cases q';obtain⟨v,hv⟩:=heo;exact⟨v,by rw[hbe];exact hv⟩
    . refine(ok b u q).stay (λ c v hc r=>k c v ?_ r) (λ c r=>by rw[Ze (nown c b r)];exact r) λ c xs r=>by rw[Ze (ntup c xs r)];exact r
      rcases hc with rfl|hc
      . exact hbe
      . rintro rfl;rcases he with z|z
        . exact nown c b hc z
        . rw[hc]at z;cases z;exact hb rfl
end
structure Un (fs ex:List Addr)(H H':Hp)(h h':Heap):Prop where
  keep:∀ b o,h.get? b=some o->H b=none->b∉fs->b∉ex->h'.get? b=some o
  slot:∀ b o,h.get? b=some o->H b=none->b∈fs->b∉ex->∃ sl,h'.get? b=some { o with slots:=sl }
  free:∀ b o,h.get? b=some o->H b=none->b∉ex->H' b=none
  there:∀ b o,h.get? b=some o->b∉ex->∃ o',h'.get? b=some o'
  tups:∀ b xs,H b=some (.tup xs)->H' b=some (.tup xs)
  frzs:∀ b o u,H b=some (.frz o u)->H' b=some (.frz o u)
  tbls:∀ b ps,H b=some (.tbl ps)->∃ more,H' b=some (.tbl (ps++more))
section
variable {fs fs' ex ex':List Addr}{H H1 H2:Hp}{h h1 h2 h':Heap}{a x e:Addr}{o:HO}
theorem Un.any (u:Un fs ex H H1 h h1){b:Addr}{ob:Obj}(q:h.get? b=some ob)(n:H b=none)(hx:b∉ex):∃ sl,h1.get? b=some { ob with slots:=sl }:=by
  by_cases hb:b∈fs
  . exact u.slot b ob q n hb hx
  . exact⟨ob.slots,u.keep b ob q n hb hx⟩
theorem Un.trans (a:Un fs ex H H1 h h1)(b:Un fs ex H1 H2 h1 h2):Un fs ex H H2 h h2 where
  keep:=λ c ob q n hc hx=>b.keep c ob (a.keep c ob q n hc hx) (a.free c ob q n hx) hc hx
  slot:=λ c ob q n hc hx=>by
    obtain⟨sl,e1⟩:=a.slot c ob q n hc hx;obtain⟨sl',e2⟩:=b.slot c _ e1 (a.free c ob q n hx) hc hx;exact⟨sl',e2⟩
  free:=λ c ob q n hx=>by
    obtain⟨o',e1⟩:=a.there c ob q hx;exact b.free c o' e1 (a.free c ob q n hx) hx
  there:=λ c ob q hx=>by
    obtain⟨o',e1⟩:=a.there c ob q hx;exact b.there c o' e1 hx
  tups:=λ c xs q=>b.tups c xs (a.tups c xs q)
  frzs:=λ c ob xs q=>b.frzs c ob xs (a.frzs c ob xs q)
  tbls:=λ c ps q=>by
    obtain⟨m1,e1⟩:=a.tbls c ps q;obtain⟨m2,e2⟩:=b.tbls c _ e1;exact⟨m1++m2,by rw[e2,Array.append_assoc]⟩
theorem Un.kept (k:∀ b u,h.get? b=some u->h'.get? b=some u):Un fs ex H H h h':=
 ⟨λ b ob q _ _ _=>k b ob q,λ b ob q _ _ _=>⟨ob.slots,k b ob q⟩,λ _ _ _ n _=>n,λ b ob q _=>⟨ob,k b ob q⟩,λ _ _ q=>q,λ _ _ _ q=>q,λ _ ps q=>⟨#[],by rw[q];simp⟩⟩
theorem Un.refl:Un fs ex H H h h:=Un.kept λ _ _ q=>q
theorem Un.laid (k:∀ b u,h.get? b=some u->h'.get? b=some u)(hp:h.objs.size<=a)(hn:H a=none):Un fs ex H (upd H a o) h h' where
 keep:=λ b u q _ _ _=>k b u q
 slot:=λ b u q _ _ _=>⟨u.slots,k b u q⟩
 free:=λ b u q n _=>by rw[Ze (ne_of_lt (lt_of_lt_of_le (Heap.lt_size q) hp))];exact n
 there:=λ b u q _=>⟨u,k b u q⟩
 tups:=λ b xs q=>by rw[Ze (Zm q hn)];exact q
 frzs:=λ b u xs q=>by rw[Ze (Zm q hn)];exact q
 tbls:=λ b ps q=>⟨#[],by rw[Ze (Zm q hn),q];simp⟩
theorem Un.write (mu:Mut (H x))(he:e=x\/H e=some (.own x))(k:∀ b u,b≠e->h.get? b=some u->h'.get? b=some u)(heo:∃ u,h'.get? e=some u):Un fs ex H (upd H x o) h h':=by
  have hx:∀ b,H b=none->b≠x:=λ b n z=>by subst z;rw[n]at mu;exact mu
  have hb:∀ b,H b=none->b≠e:=λ b n z=>by
    subst z;rcases he with r|r
    . exact hx b n r
    . rw[n]at r;cases r
  have hm:∀ b u,H b=some u->¬ Mut (some u)->b≠x:=λ b u q nm z=>by subst z;rw[q]at mu;exact nm mu
  refine⟨λ b u q n _ _=>k b u (hb b n) q,λ b u q n _ _=>⟨u.slots,k b u (hb b n) q⟩,λ b u q n _=>by rw[Ze (hx b n)];exact n,λ b u q _=>?_,
    λ b xs q=>by rw[Ze (hm b _ q λ z=>z)];exact q,λ b u xs q=>by rw[Ze (hm b _ q λ z=>z)];exact q,λ b ps q=>⟨#[],by rw[Ze (hm b _ q λ z=>z),q];simp⟩⟩
  by_cases hbe:b=e
  . subst hbe;exact heo
  . exact⟨u,k b u hbe q⟩
theorem Un.mono (u:Un fs ex H H1 h h1)(hs:∀ b∈fs,b∈fs')(hx:∀ b∈ex,b∈ex'):Un fs' ex' H H1 h h1:=
 ⟨λ b ob q n hb he=>u.keep b ob q n (λ z=>hb (hs b z)) λ z=>he (hx b z),λ _ _ q n _ he=>u.any q n λ z=>he (hx _ z),λ b ob q n he=>u.free b ob q n λ z=>he (hx b z),λ b ob q he=>u.there b ob q λ z=>he (hx b z),u.tups,u.frzs,u.tbls⟩
end
noncomputable def trk (h:Heap)(H:Hp):List Addr:=(List.range h.objs.size).filter λ a=>(H a).isSome
noncomputable def Zer (h:Heap)(H:Hp):Heap:=hideAll h (trk h H)
theorem ZgM (h:Heap)(H:Hp):(Zer h H).objs.size=h.objs.size:=PySem.W.hideAll_size _ _
theorem ZhP {h:Heap}{H:Hp}{b:Addr}{o:Obj}(e:h.get? b=some o)(n:H b=none):(Zer h H).get? b=some o:=
  PySem.W.hideAll_get _ e λ hm=>by
    have q:(H b).isSome=true:=(List.mem_filter.mp hm).2;rw[n]at q;simp at q
theorem ZiA {h:Heap}{H:Hp}{b:Addr}{o:Obj}(e:(Zer h H).get? b=some o):h.get? b=some o/\H b=none:=by
  have e':h.get? b=some o:=PySem.W.of_hideAll (trk h H) e;refine⟨e',?_⟩;cases q:H b with
  |none=>rfl
  |some x=>
    have hm:b∈trk h H:=List.mem_filter.mpr ⟨List.mem_range.mpr (Heap.lt_size e'),by simp[q]⟩;have z:(Zer h H).get? b=none:=PySem.W.hideAll_none (trk h H) hm;rw[z]at e;cases e
noncomputable def ZiX (g h:Heap)(L:Addr):List (Addr×Obj):=(List.range h.objs.size).filterMap λ a=>if a=L\/(g.get? a).isSome=true then none else (h.get? a).map λ o=>(a,o)
noncomputable def Zbn (g h:Heap)(L d:Addr):List (Addr×Obj):=(ZiX g h L).filter λ p=>decide (p.1≠d)
open PySem PySem.Spec PyProof.Rows
structure Mod (K:Frag)(mg:Str->Option Value)(base:Heap):Prop where
  kin:K.In base
  glob:base.Ns mainGlobals mg
  blt:∃ mb,base.Ns builtinsNs mb/\∀ x:Str,x≠"__name__"->mb x=bootBuiltins x
  nolimit:base.NoLimit
structure Cx where
  prog:Program
  w:World
  K:Frag
  mg:Str->Option Value
  base:Heap
  A:Around
  N:List Str
  s₀:Shared
  H₀:Hp
  env:Env
  outer:List Env
  stack:List Env
  ex:List Addr
  fn:Str->Bool
  calm:Bool
  pn:List (Addr×Obj)
  xe:Value->Shared->Prop
noncomputable def frs (l:List Env):List Addr:=l.filterMap (·.frame)
noncomputable abbrev Cx.fs (X:Cx):List Addr:=frs X.outer
noncomputable def Vis (sc:Scope)(x:Str):Prop:=sc.names.lookup x=some .local\/sc.names.lookup x=some .cell\/sc.names.lookup x=some .free
noncomputable def Loc (sc:Scope)(x:Str):Prop:=sc.names.lookup x=some .local\/sc.names.lookup x=some .cell
noncomputable def Look (env:Env)(h:Heap)(m:Str->Option Value)(x:Str)(u:Value):Prop:=
 (env.kindOf x=some .local/\m x=some u)\/((env.kindOf x=some .cell\/env.kindOf x=some .free)/\∃ c,env.cells.lookup x=some c/\h.IsCell c (some u))
structure Cx.Ok (X:Cx):Prop where
  mod:Mod X.K X.mg X.base
  kind:X.env.scope.kind = .function
  glob:X.env.globals=mainGlobals
  blt:X.env.builtins=builtinsNs
  above:X.s₀.heap.objs.size<=X.env.locals
  inj:∀ x y c,X.env.cells.lookup x=some c->X.env.cells.lookup y=some c->x=y
  has:∀ x,(X.env.kindOf x=some .cell\/X.env.kindOf x=some .free)->∃ c,X.env.cells.lookup x=some c
  cab:∀ x c,X.fn x=true->X.env.cells.lookup x=some c->X.s₀.heap.objs.size<=c
  hd:X.calm=true->X.A.handled=none
  frames:X.A.frames=some X.stack
  stk:X.stack=X.outer\/(X.stack=X.env::X.outer/\X.env.frame=some X.env.locals)
  exf:∀ b∈X.ex,b≠X.env.locals/\∀ x c,X.env.cells.lookup x=some c->c≠b
  bs:∀ b o,X.base.get? b=some o->X.s₀.heap.get? b=some o/\X.H₀ b=none
  bsz:X.base.objs.size<=X.s₀.heap.objs.size
  noex:∀ b o,X.base.get? b=some o->b∉X.ex
  exfs:∀ b∈X.ex,b∉X.fs
  funs:X.s₀.heap.FunFrames X.base X.outer
  frf:∀ b∈X.fs,X.H₀ b=none
structure Inv (X:Cx)(pins:List (Addr×Obj))(σ:List (Option V))(H:Hp)(s:Shared):Prop where
  ok:X.Ok
  os:s.os=X.s₀.os
  bare:AllBare s.gens
  base:Un X.fs X.ex X.H₀ H X.s₀.heap s.heap
  loc:∃ m,s.heap.Ns X.env.locals m/\∀(i:Nat)(x:Str)(v:V),X.N[i]? = some x->σ[i]? = some (some v)->Vis X.env.scope x->∃ u,Zx v u/\Look X.env s.heap m x u
  cell:∀ x c,X.env.cells.lookup x=some c->∃ v,s.heap.IsCell c v
  free:H X.env.locals=none
  freeC:∀ x c,X.env.cells.lookup x=some c->H c=none
  pin:∀ p∈X.pn++pins,s.heap.get? p.1=some p.2/\H p.1=none/\p.1≠X.env.locals/\p.1∉X.fs/\∀ v,p.2.data ≠ .cell v
  hok:HOk X.prog X.w H s.heap
  len:σ.length=X.N.length
section
variable {X:Cx}{pins:List (Addr×Obj)}{σ:List (Option V)}{H H':Hp}{s:Shared}{h':Heap}
theorem Cx.Ok.nofr (ok:X.Ok){b:Addr}{o:Obj}(e:X.base.get? b=some o):b∉X.fs:=λ hb=>by
 have:=(ok.funs.mem hb).1;rw[e]at this;cases this
theorem Inv.bs (I:Inv X pins σ H s):∀ b o,X.base.get? b=some o->s.heap.get? b=some o/\H b=none:=λ b o e=>
 ⟨I.base.keep b o (I.ok.bs b o e).1 (I.ok.bs b o e).2 (I.ok.nofr e) (I.ok.noex b o e),I.base.free b o (I.ok.bs b o e).1 (I.ok.bs b o e).2 (I.ok.noex b o e)⟩
theorem Inv.bk (I:Inv X pins σ H s):∀ b o,X.base.get? b=some o->s.heap.get? b=some o:=λ b o e=>(I.bs b o e).1
theorem Inv.mod (I:Inv X pins σ H s):Mod X.K X.mg X.base:=I.ok.mod
theorem Inv.kIn (I:Inv X pins σ H s):X.K.In s.heap:=I.ok.mod.kin.keeps I.bk
theorem Inv.lt (I:Inv X pins σ H s):X.env.locals<s.heap.objs.size:=let ⟨_,hn,_⟩:=I.loc;hn.lt
theorem Inv.sz (I:Inv X pins σ H s):X.s₀.heap.objs.size<=s.heap.objs.size:=le_trans I.ok.above (le_of_lt I.lt)
theorem Inv.nofs (I:Inv X pins σ H s){a:Addr}(h:s.heap.objs.size<=a):a∉X.fs:=λ hb=>by
 obtain⟨_,o,ho,_⟩:=I.ok.funs.mem hb;exact absurd (lt_of_lt_of_le (Heap.lt_size ho) (le_trans I.sz h)) (lt_irrefl _)
theorem Inv.cne (I:Inv X pins σ H s):∀ x c,X.env.cells.lookup x=some c->c≠X.env.locals:=λ x c e z=>by
 obtain⟨v,o,ho,hd⟩:=I.cell x c e;obtain⟨m,⟨o',es,ep,ho',hd',_⟩,_⟩:=I.loc;rw[z,ho']at ho;cases ho;rw[hd']at hd;cases hd
theorem Inv.funs (I:Inv X pins σ H s):s.heap.FunFrames X.base X.outer:=by
  have all:∀(l:List Env),(∀ b∈frs l,b∈X.fs)->X.s₀.heap.FunFrames X.base l->s.heap.FunFrames X.base l:=by
    intro l
    induction l with
    |nil=>intro _ _;trivial
    |cons env r ih=>
      intro hs hl;obtain⟨hk,⟨L,o,hf,hn,ho,hd⟩,hr⟩:=hl;have hL:L∈X.fs:=hs L (by unfold frs;rw[List.filterMap_cons,hf];exact mem_cons_self);obtain⟨sl,e⟩:=I.base.slot L o ho (I.ok.frf L hL) hL λ z=>I.ok.exfs L z hL;exact⟨hk,⟨L,_,hf,hn,e,hd⟩,ih (λ b hb=>hs b (by unfold frs;rw[List.filterMap_cons,hf];exact mem_cons_of_mem _ hb)) hr⟩
  exact all X.outer (λ _ hb=>hb) I.ok.funs
theorem Inv.stack (I:Inv X pins σ H s):s.heap.FunFrames X.base X.stack:=by
  rcases I.ok.stk with e|⟨e,hf⟩
  . rw[e];exact I.funs
  . rw[e];obtain⟨m,hn,_⟩:=I.loc;refine .cons (by rw[I.ok.kind];decide) hf hn ?_ I.funs;exact Heap.get?_none_of_le (le_trans I.ok.bsz I.ok.above)
theorem Inv.stkSub (I:Inv X pins σ H s):∀ b∈frs X.stack,b∈X.env.locals::X.fs:=λ b hb=>by
  rcases I.ok.stk with e|⟨e,hf⟩
  . rw[e]at hb;exact mem_cons_of_mem _ hb
  . rw[e]at hb;unfold frs at hb;rw[List.filterMap_cons,hf]at hb;exact hb
theorem Inv.stkFree (I:Inv X pins σ H s):∀ b∈frs X.stack,H b=none:=λ b hb=>by
  rcases List.mem_cons.mp (I.stkSub b hb) with e|hb
  . rw[e];exact I.free
  . obtain⟨_,o,ho,_⟩:=I.ok.funs.mem hb;exact I.base.free b o ho (I.ok.frf b hb) λ z=>I.ok.exfs b z hb
theorem Inv.step {g':Array GenState}{t':Nat}{d':Drawn}{ch:List Addr}(I:Inv X pins σ H s)(hch:∀ b∈ch,(b∈X.ex\/X.s₀.heap.objs.size<=b)/\b≠X.env.locals/\(∀ x c,X.env.cells.lookup x=some c->c≠b)/\∀ p∈X.pn++pins,p.1≠b)(keep:∀ b o,b≠X.env.locals->b∉X.fs->b∉ch->s.heap.get? b=some o->H b=none->h'.get? b=some o)(slot:∀ b o,b≠X.env.locals->b∈X.fs->b∉ch->s.heap.get? b=some o->H b=none->∃ sl,h'.get? b=some { o with slots:=sl })(free:∀ b o,b∉ch->s.heap.get? b=some o->H b=none->H' b=none)(there:∀ b o,b∉ch->s.heap.get? b=some o->∃ o',h'.get? b=some o')(tups:∀ b xs,H b=some (.tup xs)->H' b=some (.tup xs))(frzs:∀ b o u,H b=some (.frz o u)->H' b=some (.frz o u))(tbls:∀ b ps,H b=some (.tbl ps)->∃ more,H' b=some (.tbl (ps++more)))(ns:∀ m,s.heap.Ns X.env.locals m->h'.Ns X.env.locals m)(hok:HOk X.prog X.w H' h')(hg:AllBare g') :
    Inv X pins σ H' { s with heap:=h',gens:=g',drawn:=d',toks:=t' }:=by
  have neL:∀ b o,X.s₀.heap.get? b=some o->b≠X.env.locals:=λ b o e=>ne_of_lt (lt_of_lt_of_le (Heap.lt_size e) I.ok.above);have neC:∀ b o,X.s₀.heap.get? b=some o->b∉X.ex->b∉ch:=λ b o e hx hb=>by
    rcases(hch b hb).1 with z|z
    . exact hx z
    . exact absurd (lt_of_lt_of_le (Heap.lt_size e) z) (lt_irrefl _)
  have cellK:∀ x c,X.env.cells.lookup x=some c->∀ v,s.heap.IsCell c v->h'.IsCell c v:=λ x c e v ⟨o,ho,hd⟩=>by
    have nch:c∉ch:=λ z=>(hch c z).2.2.1 x c e rfl
    by_cases hc:c∈X.fs
    . obtain⟨sl,q⟩:=slot c o (I.cne x c e) hc nch ho (I.freeC x c e);exact⟨_,q,hd⟩
    . exact⟨o,keep c o (I.cne x c e) hc nch ho (I.freeC x c e),hd⟩
  refine⟨I.ok,I.os,hg,⟨λ b o e n hb hx=>?_,λ b o e n hb hx=>?_,λ b o e n hx=>?_,λ b o e hx=>?_,λ b xs e=>tups b xs (I.base.tups b xs e),λ b o xs e=>frzs b o xs (I.base.frzs b o xs e),λ b ps e=>?_⟩,?_,λ x c e=>?_,?_,λ x c e=>?_,λ p hp=>?_,hok,I.len⟩
  . exact keep b o (neL b o e) hb (neC b o e hx) (I.base.keep b o e n hb hx) (I.base.free b o e n hx)
  . obtain⟨sl,e1⟩:=I.base.slot b o e n hb hx;obtain⟨sl',e2⟩:=slot b _ (neL b o e) hb (neC b o e hx) e1 (I.base.free b o e n hx);exact⟨sl',e2⟩
  . obtain⟨o',e1⟩:=I.base.there b o e hx;exact free b o' (neC b o e hx) e1 (I.base.free b o e n hx)
  . obtain⟨o',e1⟩:=I.base.there b o e hx;exact there b o' (neC b o e hx) e1
  . obtain⟨m1,e1⟩:=I.base.tbls b ps e;obtain⟨m2,e2⟩:=tbls b _ e1;exact⟨m1++m2,by rw[e2,Array.append_assoc]⟩
  . obtain⟨m,hn,hl⟩:=I.loc;refine⟨m,ns m hn,λ i x v e1 e2 e3=>?_⟩;obtain⟨u,r,l⟩:=hl i x v e1 e2 e3;refine⟨u,r,?_⟩;rcases l with l|⟨k,c,e,z⟩
    . exact .inl l
    . exact .inr ⟨k,c,e,cellK x c e _ z⟩
  . obtain⟨v,z⟩:=I.cell x c e;exact⟨v,cellK x c e v z⟩
  . obtain⟨m,⟨o,_,_,ho,_⟩,_⟩:=I.loc;exact free _ o (λ z=>(hch _ z).2.1 rfl) ho I.free
  . obtain⟨v,o,ho,hd⟩:=I.cell x c e;exact free c o (λ z=>(hch c z).2.2.1 x c e rfl) ho (I.freeC x c e)
  . obtain⟨e,n,ne,nf,d⟩:=I.pin p hp;have nch:p.1∉ch:=λ z=>(hch p.1 z).2.2.2 p hp rfl;exact⟨keep p.1 p.2 ne nf nch e n,free p.1 p.2 nch e n,ne,nf,d⟩
theorem Inv.un {t':Nat}(I:Inv X pins σ H s)(u:Un X.fs [] H H' s.heap h')(hok:HOk X.prog X.w H' h'):Inv X pins σ H' { s with heap:=h',toks:=t' }:=by
  obtain⟨m,⟨o,es,ep,ho,r⟩,_⟩:=id I.loc;obtain⟨sl,hL⟩:=u.any ho I.free (by simp);exact I.step (g':=s.gens) (d':=s.drawn) (ch:=[]) (λ _ z=>nomatch z) (λ b o _ hb _ e n=>u.keep b o e n hb (by simp)) (λ b o _ hb _ e n=>u.slot b o e n hb (by simp)) (λ b o _ e n=>u.free b o e n (by simp)) (λ b o _ e=>u.there b o e (by simp)) u.tups u.frzs u.tbls (λ m' hm=>by
    obtain⟨o',es',ep',ho',r'⟩:=hm;rw[ho]at ho';cases ho';exact⟨_,es',ep',hL,r'⟩) hok I.bare
theorem Inv.call {g':Array GenState}{t':Nat}{d':Drawn}{ch:List Addr}(I:Inv X pins σ H s)(u:Un (frs X.stack) ch H H' s.heap h')(hok:HOk X.prog X.w H' h')(hg:AllBare g')(hch:∀ b∈ch,(b∈X.ex\/X.s₀.heap.objs.size<=b)/\b≠X.env.locals/\(∀ x c,X.env.cells.lookup x=some c->c≠b)/\∀ p∈X.pn++pins,p.1≠b) :
    Inv X pins σ H' { s with heap:=h',gens:=g',drawn:=d',toks:=t' }:=by
  obtain⟨m,⟨o,es,ep,ho,r⟩,_⟩:=id I.loc;obtain⟨sl,hL⟩:=u.any ho I.free λ z=>(hch _ z).2.1 rfl;exact I.step (ch:=ch) hch (λ b o hL hb hc e n=>u.keep b o e n (λ z=>(List.mem_cons.mp (I.stkSub b z)).elim hL hb) hc) (λ b o _ _ hc e n=>u.any e n hc) (λ b o hc e n=>u.free b o e n hc) (λ b o hc e=>u.there b o e hc) u.tups u.frzs u.tbls (λ m' hm=>by
    obtain⟨o',es',ep',ho',r'⟩:=hm;rw[ho]at ho';cases ho';exact⟨_,es',ep',hL,r'⟩) hok hg
theorem Inv.turned {t':Nat}{it:Addr}(I:Inv X pins σ H s)(k:∀ b o,b≠it->s.heap.get? b=some o->h'.get? b=some o)(hn:H it=none)(hL:it≠X.env.locals)(h1:it∈X.ex\/X.s₀.heap.objs.size<=it)(h2:∀ x c,X.env.cells.lookup x=some c->c≠it)(h3:∀ p∈X.pn++pins,p.1≠it):Inv X pins σ H { s with heap:=h',toks:=t' }:=by
  have nit:∀ b u,H b=some u->b≠it:=λ b u e z=>by rw[z,hn]at e;cases e
  refine I.step (g':=s.gens) (d':=s.drawn) (ch:=[it]) (λ b hb=>?_) (λ b o _ _ hc e _=>k b o (λ z=>hc (by simp[z])) e) (λ b o _ _ hc e _=>⟨o.slots,k b o (λ z=>hc (by simp[z])) e⟩) (λ _ _ _ _ n=>n)
    (λ b o hc e=>⟨o,k b o (λ z=>hc (by simp[z])) e⟩) (λ _ _ e=>e) (λ _ _ _ e=>e) (λ b ps e=>⟨#[],by rw[e];simp⟩) (λ m hm=>?_) (λ b u e=>?_) I.bare
  . have e:b=it:=by simpa using hb
    subst e;exact⟨h1,hL,h2,h3⟩
  . obtain⟨o,es,ep,ho,r⟩:=hm;exact⟨o,es,ep,k _ o (Ne.symm hL) ho,r⟩
  . refine(I.hok b u e).stay (λ c v hc q=>k c v ?_ q) (λ _ q=>q) λ _ _ q=>q;rcases hc with z|z
    . rw[z];exact nit b u e
    . exact nit c _ z
theorem Inv.tok (I:Inv X pins σ H s)(t:Nat):Inv X pins σ H { s with toks:=t }:=I.un (h':=s.heap) (t':=t) Un.refl I.hok
theorem Inv.kept {t':Nat}(I:Inv X pins σ H s)(k:∀ b u,s.heap.get? b=some u->h'.get? b=some u):Inv X pins σ H { s with heap:=h',toks:=t' }:=I.un (Un.kept k) (I.hok.kept k)
theorem Inv.laid {a:Addr}{o:HO}{t':Nat}(I:Inv X pins σ H s)(k:∀ b u,s.heap.get? b=some u->h'.get? b=some u)(hp:s.heap.objs.size<=a)(new:ZV X.prog X.w (upd H a o) h' a o) :
    Inv X pins σ (upd H a o) { s with heap:=h',toks:=t' }:=I.un (Un.laid k hp (I.hok.fresh hp)) (I.hok.laid k hp new)
theorem Inv.write {x e:Addr}{o:HO}{t':Nat}(I:Inv X pins σ H s)(mu:Mut (H x))(he:e=x\/H e=some (.own x))(k:∀ b u,b≠e->s.heap.get? b=some u->h'.get? b=some u)(heo:∃ u,h'.get? e=some u)(new:ZV X.prog X.w (upd H x o) h' x o):Inv X pins σ (upd H x o) { s with heap:=h',toks:=t' }:=I.un (Un.write mu he k heo) (I.hok.write mu he k heo new)
theorem Inv.pins_of {pins':List (Addr×Obj)}(I:Inv X pins σ H s)(h:∀ p∈pins',s.heap.get? p.1=some p.2/\H p.1=none/\p.1≠X.env.locals/\p.1∉X.fs/\∀ v,p.2.data ≠ .cell v):Inv X pins' σ H s:=
 ⟨I.ok,I.os,I.bare,I.base,I.loc,I.cell,I.free,I.freeC,λ p hp=>(List.mem_append.mp hp).elim (λ z=>I.pin p (mem_append_left _ z)) (h p),I.hok,I.len⟩
theorem ZeU {N:List Str}(hN:N.Nodup){i j:Nat}{x:Str}(a:N[i]? = some x)(b:N[j]? = some x):i=j:=by
 obtain⟨h1,e1⟩:=List.getElem?_eq_some_iff.mp a;obtain⟨h2,e2⟩:=List.getElem?_eq_some_iff.mp b;exact(List.getElem_inj hN).mp (e1.trans e2.symm)
theorem Zdn {M:Model}{A:Around}{E:Value->Shared->Prop}{i:Nat}{x:Str}{v:V}{u:Value}{Q:Unit->Shared->Prop}(I:Inv X pins σ H s)(hN:X.N.Nodup)(hi:X.N[i]? = some x)(hx:Loc X.env.scope x)(r:Zx v u)(h:∀ s',Inv X pins (σ.set i (some v)) H s'->(∃ a,Heap.SameBut a s.heap s'.heap/\(a=X.env.locals\/X.env.cells.lookup x=some a))->Q () s')(hf:X.fn x=true\/X.env.scope.names.lookup x=some .local:=by first|exact .inl rfl|exact .inr rfl|assumption):wpAny M A (storeName X.env x u) Q E s:=by
  obtain⟨m,hn,hl⟩:=id I.loc;have hcls:(X.env.scope.kind == .class || (X.env.scope.kind == .module && X.env.locals != X.env.globals))=false:=by rw[I.ok.kind];rfl
  have hiσ:i<σ.length:=by rw[I.len];exact(List.getElem?_eq_some_iff.mp hi).1
  have cne:=I.cne;have tracked:∀ {a:Addr} {h':Heap},(∃ o,s.heap.get? a=some o/\H a=none)->Heap.SameBut a s.heap h'->HOk X.prog X.w H h':=λ {a h'} ha hs b ob e=>by
    obtain⟨_,_,hfree⟩:=ha;refine(I.hok b ob e).stay (λ c w' hc q=>(hs.2 c ?_).trans q) (λ _ q=>q) λ _ _ q=>q;rintro rfl;rcases hc with rfl|hc
    . rw[hfree]at e;cases e
    . rw[hfree]at hc;cases hc
  rcases hx with hk|hk
  . refine wpAny_storeName_local hk hn (λ h' hn' hs=>?_) hcls;obtain⟨oL,_,_,hoL,_⟩:=id hn;refine h _ ⟨I.ok,I.os,I.bare,⟨λ b o e n hb hx=>?_,λ b o e n hb hx=>?_,I.base.free,λ b o e hx=>?_,I.base.tups,I.base.frzs,I.base.tbls⟩,⟨_,hn',λ j y v' e1 e2 e3=>?_⟩,λ y c e=>?_,I.free,I.freeC,λ p hp=>?_,tracked ⟨oL,hoL,I.free⟩ hs,by simpa using I.len⟩ ⟨_,hs, .inl rfl⟩
    . exact(hs.2 b (ne_of_lt (lt_of_lt_of_le (Heap.lt_size e) I.ok.above))).trans (I.base.keep b o e n hb hx)
    . obtain⟨sl,e1⟩:=I.base.slot b o e n hb hx;exact⟨sl,(hs.2 b (ne_of_lt (lt_of_lt_of_le (Heap.lt_size e) I.ok.above))).trans e1⟩
    . obtain⟨o',e1⟩:=I.base.there b o e hx;exact⟨o',(hs.2 b (ne_of_lt (lt_of_lt_of_le (Heap.lt_size e) I.ok.above))).trans e1⟩
    . by_cases hj:j=i
      . subst hj;rw[hi]at e1;cases e1;rw[List.getElem?_set_self hiσ]at e2;cases e2;exact⟨u,r, .inl ⟨hk,by simp⟩⟩
      . rw[List.getElem?_set_ne (Ne.symm hj)]at e2;obtain⟨u',r',q⟩:=hl j y v' e1 e2 e3;refine⟨u',r',?_⟩;rcases q with ⟨k,e⟩|⟨k,c,e,z⟩
        . refine .inl ⟨k,?_⟩;have:y≠x:=λ e=>hj (ZeU hN e1 (e▸hi));simp[this,e]
        . exact .inr ⟨k,c,e,z.sameBut hs (cne y c e)⟩
    . obtain⟨w',z⟩:=I.cell y c e;exact⟨w',z.sameBut hs (cne y c e)⟩
    . obtain⟨e,n,ne,nf,d⟩:=I.pin p hp;exact⟨(hs.2 p.1 ne).trans e,n,ne,nf,d⟩
  . have hfn:X.fn x=true:=by
      rcases hf with z|z
      . exact z
      . rw[z]at hk;cases hk
    obtain⟨c,hc⟩:=I.ok.has x (.inl hk);obtain⟨w',z⟩:=I.cell x c hc;refine wpAny_storeName_cell I.ok.kind hk hc z (λ h' hc' hs=>?_);obtain⟨oc,hoc,hocd⟩:=id z;refine h { s with heap:=h' } ⟨I.ok,I.os,I.bare,⟨λ b o e n hb hx=>?_,λ b o e n hb hx=>?_,I.base.free,λ b o e hx=>?_,I.base.tups,I.base.frzs,I.base.tbls⟩,⟨m,hn.sameBut hs (Ne.symm (cne x c hc)),λ j y v' e1 e2 e3=>?_⟩,λ y c' e=>?_,I.free,I.freeC,λ p hp=>?_,tracked ⟨oc,hoc,I.freeC x c hc⟩ hs,by simpa using I.len⟩ ⟨c,hs, .inr hc⟩
    . exact(hs.2 b (ne_of_lt (lt_of_lt_of_le (Heap.lt_size e) (I.ok.cab x c hfn hc)))).trans (I.base.keep b o e n hb hx)
    . obtain⟨sl,e1⟩:=I.base.slot b o e n hb hx;exact⟨sl,(hs.2 b (ne_of_lt (lt_of_lt_of_le (Heap.lt_size e) (I.ok.cab x c hfn hc)))).trans e1⟩
    . obtain⟨o',e1⟩:=I.base.there b o e hx;exact⟨o',(hs.2 b (ne_of_lt (lt_of_lt_of_le (Heap.lt_size e) (I.ok.cab x c hfn hc)))).trans e1⟩
    . by_cases hj:j=i
      . subst hj;rw[hi]at e1;cases e1;rw[List.getElem?_set_self hiσ]at e2;cases e2;exact⟨u,r, .inr ⟨.inl hk,c,hc,hc'⟩⟩
      . rw[List.getElem?_set_ne (Ne.symm hj)]at e2;obtain⟨u',r',q⟩:=hl j y v' e1 e2 e3;refine⟨u',r',?_⟩;rcases q with q|⟨k,c',e,z'⟩
        . exact .inl q
        . refine .inr ⟨k,c',e,z'.sameBut hs ?_⟩;rintro rfl;exact hj (ZeU hN e1 (I.ok.inj _ _ _ e hc▸hi))
    . by_cases hcc:c'=c
      . subst hcc;exact⟨_,hc'⟩
      . obtain⟨w2,z2⟩:=I.cell y c' e;exact⟨w2,z2.sameBut hs hcc⟩
    . obtain⟨e,n,ne,nf,d⟩:=I.pin p hp;refine⟨(hs.2 p.1 ?_).trans e,n,ne,nf,d⟩;intro q;rw[q,hoc]at e;have q':oc=p.2:=Option.some.inj e;exact d w' (by rw[<- q'];exact hocd)
theorem Jn {M:Model}{A:Around}{E:Value->Shared->Prop}{i:Nat}{x:Str}{v:V}{u:Value}{Q:Unit->Shared->Prop}(I:Inv X pins σ H s)(hN:X.N.Nodup)(hi:X.N[i]? = some x)(hx:Loc X.env.scope x)(r:Zx v u)(h:∀ s',Inv X pins (σ.set i (some v)) H s'->Q () s')(hf:X.fn x=true\/X.env.scope.names.lookup x=some .local:=by first|exact .inl rfl|exact .inr rfl|assumption):wpAny M A (storeName X.env x u) Q E s:=
 Zdn I hN hi hx r (λ s' I' _=>h s' I') hf
theorem Inv.call' {s':Shared}{ch:List Addr}(I:Inv X pins σ H s)(ho:s'.os=s.os)(u:Un (frs X.stack) ch H H' s.heap s'.heap)(hok:HOk X.prog X.w H' s'.heap)(hg:AllBare s'.gens)(hch:∀ b∈ch,(b∈X.ex\/X.s₀.heap.objs.size<=b)/\b≠X.env.locals/\(∀ x c,X.env.cells.lookup x=some c->c≠b)/\∀ p∈X.pn++pins,p.1≠b):Inv X pins σ H' s':=by
 obtain⟨h',g',d',t',o'⟩:=s';have e:o'=s.os:=ho;subst e;exact I.call (g':=g') (t':=t') (d':=d') u hok hg hch
end
noncomputable abbrev XK:=Value->Option Addr->Hp->Prop
noncomputable abbrev St:=List (Option V)
noncomputable abbrev VK:=V->Hp->Prop
noncomputable abbrev TE:=St->Hp->VK->Prop
noncomputable abbrev TT:=St->Hp->(Bool->Hp->Prop)->Prop
noncomputable abbrev TA:=St->Hp->(List V->Hp->Prop)->Prop
structure Ends where
  nx:St->Hp->Prop
  rt:VK
  bk:St->Hp->Prop:=λ _ _=>False
  ct:St->Hp->Prop:=λ _ _=>False
noncomputable abbrev TS:=Ends->St->Hp->Prop
noncomputable def EP (X:Cx)(pins:List (Addr×Obj))(σ:St)(Q:VK)(u:Value)(s':Shared):Prop:=∃ v H',Inv X pins σ H' s'/\Zx v u/\Q v H'
noncomputable def TP (X:Cx)(pins:List (Addr×Obj))(σ:St)(Q:Bool->Hp->Prop)(b:Bool)(s':Shared):Prop:=∃ H',Inv X pins σ H' s'/\Q b H'
noncomputable def AP (X:Cx)(pins:List (Addr×Obj))(σ:St)(Q:List V->Hp->Prop)(us:List Value)(s':Shared):Prop:=∃ vs H',Inv X pins σ H' s'/\ZG vs us/\Q vs H'
noncomputable def SP (X:Cx)(pins:List (Addr×Obj))(D:Ends)(f:Flow)(s':Shared):Prop:=
  match f with
  |.next=>∃ σ' H',Inv X pins σ' H' s'/\D.nx σ' H'
  |.brk=>∃ σ' H',Inv X pins σ' H' s'/\D.bk σ' H'
  |.cont=>∃ σ' H',Inv X pins σ' H' s'/\D.ct σ' H'
  |.ret u=>∃ v σ' H',Inv X pins σ' H' s'/\Zx v u/\D.rt v H'
noncomputable abbrev PEb (X:Cx)(e:Expr)(t:TE):Prop:=
  ∀(pins:List (Addr×Obj))(s:Shared)(σ:St)(H:Hp)(Q:VK),Inv X pins σ H s->t σ H Q->wpAny (model X.prog X.w) X.A (eval e X.env) (EP X pins σ Q) X.xe s
structure PE (X:Cx)(e:Expr)(t:TE):Prop where
  go:PEb X e t
instance {X:Cx}{e:Expr}{t:TE}:CoeFun (PE X e t) λ _=>PEb X e t:=⟨PE.go⟩
noncomputable abbrev PTb (X:Cx)(e:Expr)(t:TT):Prop:=
  ∀(pins:List (Addr×Obj))(s:Shared)(σ:St)(H:Hp)(Q:Bool->Hp->Prop),Inv X pins σ H s->t σ H Q->wpAny (model X.prog X.w) X.A (isTrue e X.env (eval e X.env)) (TP X pins σ Q) X.xe s
structure PT (X:Cx)(e:Expr)(t:TT):Prop where
  go:PTb X e t
instance {X:Cx}{e:Expr}{t:TT}:CoeFun (PT X e t) λ _=>PTb X e t:=⟨PT.go⟩
noncomputable abbrev PWb (X:Cx)(e:Expr)(t:TT):Prop:=
  ∀(whole:Sem Value)(pins:List (Addr×Obj))(s:Shared)(σ:St)(H:Hp)(Q:Bool->Hp->Prop),Inv X pins σ H s->t σ H Q->wpAny (model X.prog X.w) X.A (isTrue e X.env whole) (TP X pins σ Q) X.xe s
structure PW (X:Cx)(e:Expr)(t:TT):Prop where
  go:PWb X e t
instance {X:Cx}{e:Expr}{t:TT}:CoeFun (PW X e t) λ _=>PWb X e t:=⟨PW.go⟩
theorem PW.pt {X:Cx}{e:Expr}{t:TT}(h:PW X e t):PT X e t:=⟨h _⟩
noncomputable abbrev PAb (X:Cx)(es:List Expr)(t:TA):Prop:=
  ∀(pos:Pos)(pins:List (Addr×Obj))(s:Shared)(σ:St)(H:Hp)(Q:List V->Hp->Prop),Inv X pins σ H s->t σ H Q->wpAny (model X.prog X.w) X.A (spliced (backTo pos (starEach es X.env))) (AP X pins σ Q) X.xe s
structure PA (X:Cx)(es:List Expr)(t:TA):Prop where
  go:PAb X es t
instance {X:Cx}{es:List Expr}{t:TA}:CoeFun (PA X es t) λ _=>PAb X es t:=⟨PA.go⟩
noncomputable abbrev PSb (X:Cx)(st:Stmt)(t:TS):Prop:=
  ∀(pins:List (Addr×Obj))(s:Shared)(σ:St)(H:Hp)(D:Ends),Inv X pins σ H s->t D σ H->wpAny (model X.prog X.w) X.A (exec st X.env) (SP X pins D) X.xe s
structure PS (X:Cx)(st:Stmt)(t:TS):Prop where
  go:PSb X st t
instance {X:Cx}{st:Stmt}{t:TS}:CoeFun (PS X st t) λ _=>PSb X st t:=⟨PS.go⟩
noncomputable abbrev PSsb (X:Cx)(st:List Stmt)(t:TS):Prop:=
  ∀(pins:List (Addr×Obj))(s:Shared)(σ:St)(H:Hp)(D:Ends),Inv X pins σ H s->t D σ H->wpAny (model X.prog X.w) X.A (execs st X.env) (SP X pins D) X.xe s
structure PSs (X:Cx)(st:List Stmt)(t:TS):Prop where
  go:PSsb X st t
instance {X:Cx}{st:List Stmt}{t:TS}:CoeFun (PSs X st t) λ _=>PSsb X st t:=⟨PSs.go⟩
theorem thn {α:Type}{t:Sem α}{Q Q':α->Shared->Prop}{M:Model}{A:Around}{E:Value->Shared->Prop}{s:Shared}(h:wpAny M A t Q E s)(hQ:∀ a s,Q a s->Q' a s):wpAny M A t Q' E s:=wpAny_mono h hQ λ _ _ x=>x
open PySem PySem.Spec PyProof.Rows
section
variable {X:Cx}
noncomputable def tVar (i:Nat):TE:=λ σ H Q=>∃ v,σ[i]? = some (some v)/\Q v H
noncomputable def tC (v:V):TE:=λ _ H Q=>Q v H
theorem pe_var {i:Nat}{x:Str}{pos:Pos}(hN:X.N[i]? = some x)(hv:Vis X.env.scope x)(hd:(x == ("__debug__":Str))=false:=by decide)(hcd:(x == ("__classdict__":Str))=false:=by decide):PE X (.Name x pos) (tVar i):=by
  refine⟨?_⟩;intro pins s σ H Q I h;obtain⟨v,e,h⟩:=h;obtain⟨m,hn,hl⟩:=I.loc;obtain⟨u,r,l⟩:=hl i x v hN e hv;have fin:EP X pins σ Q u s:=⟨v,H,I,r,h⟩;rcases l with ⟨hk,hm⟩|⟨hk,c,hc,hcell⟩
  . exact wpAny_Name (wpAny_loadName_local I.ok.kind hk hn hm fin) hd
  . rcases hk with hk|hk
    . exact wpAny_Name (wpAny_loadName_cell I.ok.kind hk hc hcell fin) hd
    . exact wpAny_Name (wpAny_loadName_free I.ok.kind hk hc hcell fin hcd) hd
theorem Zf {i j pos}:PE X (.Constant (.int i) j pos) (tC (.int i)):=⟨λ _ _ _ H _ I h=>wpAny_Constant_int ⟨.int i,H,I.tok _,⟨_,rfl⟩,h⟩⟩
theorem YA {b j pos}:PE X (.Constant (.bool b) j pos) (tC (.bl b)):=⟨λ _ _ _ H _ I h=>Constant_bool ⟨.bl b,H,I,rfl,h⟩⟩
theorem Zs {x j pos}:PE X (.Constant (.str x) j pos) (tC (.str x)):=⟨λ _ _ _ H _ I h=>Calls.Constant_str ⟨.str x,H,I.tok _,⟨_,rfl⟩,h⟩⟩
noncomputable def Gl (X:Cx)(x:Str):Prop:=X.env.kindOf x=some .globalImplicit
theorem Zbc {E:Value->Shared->Prop}{pins:List (Addr×Obj)}{s:Shared}{σ:St}{H:Hp}{x:Str}{u:Value}{pos:Pos}{Q:Value->Shared->Prop}(I:Inv X pins σ H s)(hg:Gl X x)(hm:X.mg x=some u)(h:Q u s)(hd:(x == ("__debug__":Str))=false:=by decide):wpAny (model X.prog X.w) X.A (eval (.Name x pos) X.env) Q E s:=
 Calls.Name_function_global I.ok.kind hg (Calls.loadGlobal_global (by rw[I.ok.glob];exact I.mod.glob.keeps I.bk) hm h) hd
theorem ZcZ {E:Value->Shared->Prop}{pins:List (Addr×Obj)}{s:Shared}{σ:St}{H:Hp}{x:Str}{u:Value}{pos:Pos}{Q:Value->Shared->Prop}(I:Inv X pins σ H s)(hg:Gl X x)(hm:X.mg x=none)(hv:bootBuiltins x=some u)(h:Q u s)(hn:x≠"__name__":=by decide)(hd:(x == ("__debug__":Str))=false:=by decide):wpAny (model X.prog X.w) X.A (eval (.Name x pos) X.env) Q E s:=by
 obtain⟨mb,h1,h2⟩:=I.mod.blt;exact Calls.Name_function_global I.ok.kind hg (Calls.loadGlobal_builtin (by rw[I.ok.glob];exact I.mod.glob.keeps I.bk) hm (by rw[I.ok.blt];exact h1.keeps I.bk) ((h2 x hn).trans hv) h) hd
theorem YX {x:Str}{v:V}{u:Value}{pos:Pos}(hg:Gl X x)(hm:X.mg x=some u)(r:Zx v u)(hd:(x == ("__debug__":Str))=false:=by decide):PE X (.Name x pos) (tC v):=
 ⟨λ _ _ _ H _ I h=>Zbc I hg hm ⟨v,H,I,r,h⟩ hd⟩
theorem J3 {x:Str}{v:V}{u:Value}{pos:Pos}(hg:Gl X x)(hm:X.mg x=none)(hv:bootBuiltins x=some u)(r:Zx v u)(hn:x≠"__name__":=by decide)(hd:(x == ("__debug__":Str))=false:=by decide):PE X (.Name x pos) (tC v):=
 ⟨λ _ _ _ H _ I h=>ZcZ I hg hm hv ⟨v,H,I,r,h⟩ hn hd⟩
variable {a b:Expr}{ta tb:TE}{pos:Pos}
noncomputable abbrev PCb (X:Cx)(op:CmpOp)(a b:Expr)(t:TE):Prop:=
  ∀(pins:List (Addr×Obj))(s:Shared)(σ:St)(H:Hp)(Q:VK),Inv X pins σ H s->t σ H Q ->
    wpAny (model X.prog X.w) X.A (eval a X.env) (λ v s₁=>wpAny (model X.prog X.w) X.A (eval b X.env) (λ u s₂=>wpAny (model X.prog X.w) X.A (compareOp op v u) (EP X pins σ Q) X.xe s₂) X.xe s₁) X.xe s
structure PC (X:Cx)(op:CmpOp)(a b:Expr)(t:TE):Prop where
  go:PCb X op a b t
instance {X:Cx}{op:CmpOp}{a b:Expr}{t:TE}:CoeFun (PC X op a b t) λ _=>PCb X op a b t:=⟨PC.go⟩
noncomputable def tB (t:TE):TT:=λ σ H Q=>t σ H λ x H1=>∃ c,x = .bl c/\Q c H1
theorem Zfr {op:CmpOp}{t:TE}(h:PC X op a b t)(h1:behindInMarks op b=false:=by first|exact nobehind _ (by decide) (by decide)|rfl):PE X (.Compare a [op] [b] pos) t:=⟨λ pins s σ H Q I hw=>wpAny_Compare1 (h pins s σ H Q I hw) h1⟩
theorem Xn {op:CmpOp}{t:TE}(h:PC X op a b t)(h1:behindInMarks op b=false:=by first|exact nobehind _ (by decide) (by decide)|rfl):PT X (.Compare a [op] [b] pos) (tB t):=by
 refine⟨?_⟩;intro pins s σ H Q I hw;refine wpAny_isTrue_Compare1 (thn (h pins s σ H _ I hw) λ v s1 h1=>thn h1 λ u s2 h2=>thn h2 λ c s3 zz9=>?_) h1;obtain⟨x,H1,I1,r1,q1⟩:=zz9;obtain⟨d,rfl,q⟩:=q1;cases r1;exact wpAny_truthy_bool ⟨H1,I1,q⟩
theorem Z4 {e:Expr}{t:TE}(h:PE X e t)(he:∀ whole,isTrue e X.env whole=(do let v <- whole;standAt e.pos;holding [v] (truthy v)):=by intro _;rfl):PT X e (tB t):=by
 refine⟨?_⟩;intro pins s σ H Q I hw;refine isTrue_plain (thn (h pins s σ H _ I hw) λ v s1 ⟨x,H1,I1,r1,q1⟩=>?_) (he _);obtain⟨d,rfl,q⟩:=q1;cases r1;exact wpAny_truthy_bool ⟨H1,I1,q⟩
variable {tA tB':TT}{Zbn:List Expr}
noncomputable def tAnd (t u:TT):TT:=λ σ H Q=>t σ H λ c H1=>if c=true then u σ H1 Q else Q false H1
noncomputable def tOr (t u:TT):TT:=λ σ H Q=>t σ H λ c H1=>if c=true then Q true H1 else u σ H1 Q
noncomputable def tNot (t:TT):TT:=λ σ H Q=>t σ H λ c H1=>Q (!c) H1
theorem J0 (ha:PT X a tA):PW X (.BoolOp .And [a] pos) tA:=by
  refine⟨?_⟩;intro wh pins s σ H Q I h;refine isTrue_and (thn (ha pins s σ H Q I h) λ c s1 e=>?_);cases c with
  |true=>exact isTrue_and_nil e
  |false=>exact e
theorem Y6 (ha:PT X a tA):PW X (.BoolOp .Or [a] pos) tA:=by
  refine⟨?_⟩;intro wh pins s σ H Q I h;refine isTrue_or (thn (ha pins s σ H Q I h) λ c s1 e=>?_);cases c with
  |false=>exact isTrue_or_nil e
  |true=>exact e
theorem ZaA (ha:PT X a tA)(hb:PW X (.BoolOp .And (b::Zbn) pos) tB'):PW X (.BoolOp .And (a::b::Zbn) pos) (tAnd tA tB'):=by
  refine⟨?_⟩;intro wh pins s σ H Q I h;refine isTrue_and (thn (ha pins s σ H _ I h) λ c s1 zz9=>?_);obtain⟨H1,I1,q1⟩:=zz9;cases c with
  |true=>exact hb wh pins s1 σ H1 Q I1 q1
  |false=>exact⟨H1,I1,q1⟩
theorem Xu (ha:PT X a tA)(hb:PW X (.BoolOp .Or (b::Zbn) pos) tB'):PW X (.BoolOp .Or (a::b::Zbn) pos) (tOr tA tB'):=by
  refine⟨?_⟩;intro wh pins s σ H Q I h;refine isTrue_or (thn (ha pins s σ H _ I h) λ c s1 zz9=>?_);obtain⟨H1,I1,q1⟩:=zz9;cases c with
  |true=>exact⟨H1,I1,q1⟩
  |false=>exact hb wh pins s1 σ H1 Q I1 q1
theorem Yo (ha:PT X a tA):PT X (.UnaryOp .Not a pos) (tNot tA):=by
 refine⟨?_⟩;intro pins s σ H Q I h;exact isTrue_not (ha pins s σ H (λ c H1=>Q (!c) H1) I h)
noncomputable def tAndV (ta tb:TE):TE:=λ σ H Q=>ta σ H λ x H1=>∃ c,x = .bl c/\if c=true then tb σ H1 Q else Q (.bl false) H1
noncomputable def tNotV (ta:TE):TE:=λ σ H Q=>ta σ H λ x H1=>∃ c,x = .bl c/\Q (.bl (!c)) H1
theorem Zd3 {op}{t:TE}(h:PE X a t):PE X (.BoolOp op [a] pos) t:=⟨λ pins s σ H Q I hw=>BoolOp_one (h pins s σ H Q I hw)⟩
theorem Zbq (ha:PE X a ta)(hb:PE X (.BoolOp .And (b::Zbn) pos) tb):PE X (.BoolOp .And (a::b::Zbn) pos) (tAndV ta tb):=by
  refine⟨?_⟩;intro pins s σ H Q I h;refine BoolOp_and (thn (ha pins s σ H _ I h) λ v s1 zz9=>?_);obtain⟨x,H1,I1,r1,q1⟩:=zz9;obtain⟨c,rfl,q1⟩:=q1;cases r1;refine wpAny_truthy_bool ?_;cases c with
  |true=>exact hb pins s1 σ H1 Q I1 q1
  |false=>exact⟨.bl false,H1,I1,rfl,q1⟩
theorem pe_not (ha:PE X a ta):PE X (.UnaryOp .Not a pos) (tNotV ta):=by
 refine⟨?_⟩;intro pins s σ H Q I h;refine UnaryOp_ (thn (ha pins s σ H _ I h) λ v s1 zz9=>?_);obtain⟨x,H1,I1,r1,q1⟩:=zz9;obtain⟨c,rfl,q1⟩:=q1;cases r1;exact not_of (wpAny_truthy_bool ⟨.bl (!c),H1,I1,rfl,q1⟩)
noncomputable def tIf (t:TT)(ta tb:TE):TE:=λ σ H Q=>t σ H λ c H1=>if c=true then ta σ H1 Q else tb σ H1 Q
theorem Zhk {c:Expr}(hc:PT X c tA)(ha:PE X a ta)(hb:PE X b tb):PE X (.IfExp c a b pos) (tIf tA ta tb):=by
  refine⟨?_⟩;intro pins s σ H Q I h;refine wpAny_IfExp (thn (hc pins s σ H _ I h) λ d s1 zz9=>?_);obtain⟨H1,I1,q1⟩:=zz9;cases d with
  |true=>exact ha pins s1 σ H1 Q I1 q1
  |false=>exact hb pins s1 σ H1 Q I1 q1
end
open PySem PySem.Spec PyProof.Rows
noncomputable def SqL (K:Frag)(H:Hp)(a:Addr)(xs:List V):Prop:=
  Rd H a (.lst xs) \/
    ∃(o:Obj)(its:Array Value)(n:Nat),K.lookup a=some o/\o.cls = .type "list"/\o.dict=none/\o.data = .seq its n/\its.size<=sizeLine/\ZG xs its.toList
noncomputable def SqT (K:Frag)(H:Hp)(a:Addr)(xs:List V):Prop:=
  Rd H a (.tup xs) \/
    ∃(o:Obj)(its:Array Value)(n:Nat),K.lookup a=some o/\o.cls = .type "tuple"/\o.data = .seq its n/\its.size<=sizeLine/\ZG xs its.toList
noncomputable def absV:Value->Option V
  |.none=>some .non
  |.bool b=>some (.bl b)
  |.int i _=>some (.int i)
  |.str x _=>some (.str x)
  |.bytes b _=>some (.byt b)
  |.float b _=>some (.flt b)
  |.ref a=>some (.ref a)
  |.type n=>some (.ty n)
  |_=>none
theorem Zx.abs {x:V}{u:Value}(r:Zx x u):absV u=some x:=by
  cases x with
  |non=>cases r;rfl
  |bl _=>cases r;rfl
  |int _=>obtain⟨t,rfl⟩:=r;rfl
  |str _=>obtain⟨t,rfl⟩:=r;rfl
  |byt _=>obtain⟨t,rfl⟩:=r;rfl
  |flt _=>obtain⟨t,rfl⟩:=r;rfl
  |ref _=>cases r;rfl
  |ty _=>cases r;rfl
theorem Zx.inj {x y:V}{u:Value}(r:Zx x u)(q:Zx y u):x=y:=Option.some.inj (r.abs.symm.trans q.abs)
theorem ZG.inj:∀ {xs ys:List V} {us:List Value},ZG xs us->ZG ys us->xs=ys
  |_,_,_, .nil, .nil=>rfl
  |_,_,_, .cons r t, .cons r' t'=>by rw[r.inj r',ZG.inj t t']
section
variable {X:Cx}{pins:List (Addr×Obj)}{σ:St}{H:Hp}{s:Shared}{a:Addr}{xs ys:List V}
theorem SqL.of {K:Frag}(h:H a=some (.lst xs)):SqL K H a xs:=.inl (.inl h)
theorem SqT.of {K:Frag}(h:H a=some (.tup xs)):SqT K H a xs:=.inl (.inl h)
theorem Inv.list (I:Inv X pins σ H s)(h:SqL X.K H a xs):∃ its:List Value,ZG xs its/\PlainL s.heap a its.toArray/\xs.length<=sizeLine:=by
  rcases h with h|⟨o,its,n,hk,hc,hd,hs,hz,r⟩
  . obtain⟨z,its,n,r,e⟩:=h.ok I.hok;exact⟨its,r,⟨_,n,e,rfl,rfl,rfl⟩,z⟩
  . refine⟨its.toList,r,⟨o,n,I.kIn a o hk,hc,hd,by simpa using hs⟩,?_⟩;have e:=r.length;simp only[length_toList]at e;omega
theorem Inv.tuple (I:Inv X pins σ H s)(h:SqT X.K H a xs):∃ its:List Value,ZG xs its/\IsTup s.heap a its.toArray/\xs.length<=sizeLine:=by
  rcases h with h|⟨o,its,n,hk,hc,hs,hz,r⟩
  . obtain⟨z,its,r,p⟩:=h.ok I.hok;exact⟨its,r,p,z⟩
  . refine⟨its.toList,r,⟨o,I.kIn a o hk,hc,n,by simpa using hs⟩,?_⟩;have e:=r.length;simp only[length_toList]at e;omega
theorem Inv.list_inj (I:Inv X pins σ H s)(h:SqL X.K H a xs)(h':SqL X.K H a ys):xs=ys:=by
 obtain⟨its,r,⟨o,n,e,_,_,d⟩,_⟩:=I.list h;obtain⟨its',r',⟨o',n',e',_,_,d'⟩,_⟩:=I.list h';rw[e]at e';cases e';rw[d]at d';injection d' with d1 _;have:its=its':=by simpa using congrArg Array.toList d1
 subst this;exact r.inj r'
end
noncomputable abbrev Cx.wish (X:Cx)(E:Value->Shared->Prop):Cx:={ X with xe:=E }
noncomputable abbrev Cx.nox (X:Cx):Cx:=X.wish λ _ _=>False
theorem Cx.Ok.wish {X:Cx}(ok:X.Ok)(E:Value->Shared->Prop):(X.wish E).Ok:=
 ⟨ok.mod,ok.kind,ok.glob,ok.blt,ok.above,ok.inj,ok.has,ok.cab,ok.hd,ok.frames,ok.stk,ok.exf,ok.bs,ok.bsz,ok.noex,ok.exfs,ok.funs,ok.frf⟩
theorem Cx.Ok.unwish {X:Cx}{E:Value->Shared->Prop}(ok:(X.wish E).Ok):X.Ok:=
 ⟨ok.mod,ok.kind,ok.glob,ok.blt,ok.above,ok.inj,ok.has,ok.cab,ok.hd,ok.frames,ok.stk,ok.exf,ok.bs,ok.bsz,ok.noex,ok.exfs,ok.funs,ok.frf⟩
section
variable {X:Cx}{pins:List (Addr×Obj)}{σ:St}{H:Hp}{s:Shared}{E:Value->Shared->Prop}
theorem Inv.wish (I:Inv X pins σ H s)(E:Value->Shared->Prop):Inv (X.wish E) pins σ H s:=⟨I.ok.wish E,I.os,I.bare,I.base,I.loc,I.cell,I.free,I.freeC,I.pin,I.hok,I.len⟩
theorem Inv.unwish (I:Inv (X.wish E) pins σ H s):Inv X pins σ H s:=⟨I.ok.unwish,I.os,I.bare,I.base,I.loc,I.cell,I.free,I.freeC,I.pin,I.hok,I.len⟩
theorem SP.unwish {D:Ends}{f:Flow}{s':Shared}(h:SP (X.wish E) pins D f s'):SP X pins D f s':=by
  cases f with
  |next=>obtain⟨σ',H',I,q⟩:=h;exact⟨σ',H',I.unwish,q⟩
  |brk=>obtain⟨σ',H',I,q⟩:=h;exact⟨σ',H',I.unwish,q⟩
  |cont=>obtain⟨σ',H',I,q⟩:=h;exact⟨σ',H',I.unwish,q⟩
  |ret u=>obtain⟨v,σ',H',I,r,q⟩:=h;exact⟨v,σ',H',I.unwish,r,q⟩
theorem PSs.nox {st:List Stmt}{t:TS}(h:PSs X.nox st t):PSs X st t:=⟨λ pins s σ H D I hw=>
 wpAny_mono (h pins s σ H D (I.wish _) hw) (λ _ _ q=>q.unwish) λ _ _ z=>False.elim z⟩
end
section
variable {X:Cx}{st:Stmt}{Zbn:List Stmt}{t u:TS}{e:Expr}{te:TE}{pos:Pos}
noncomputable def tNext:TS:=λ D σ H=>D.nx σ H
noncomputable def tSeq (t u:TS):TS:=λ D σ H=>t { D with nx:=u D } σ H
theorem Zo:PSs X [] tNext:=⟨λ _ _ σ H _ I h=>wpAny_execs_nil ⟨σ,H,I,h⟩⟩
theorem Zd (h1:PS X st t)(h2:PSs X Zbn u):PSs X (st::Zbn) (tSeq t u):=by
  refine⟨?_⟩;intro pins s σ H D I h;refine wpAny_execs_cons (thn (h1 pins s σ H { D with nx:=u D } I h) λ f s1 q=>?_);cases f with
  |next=>
    obtain⟨σ',H',I',q⟩:=q;exact h2 pins s1 σ' H' D I' q
  |ret v=>exact q
  |brk=>exact q
  |cont=>exact q
theorem Zg (h1:PS X st t):PSs X [st] t:=by
  refine⟨?_⟩;intro pins s σ H D I h;refine wpAny_execs_cons (thn (h1 pins s σ H D I h) λ f s1 q=>?_);cases f with
  |next=>exact wpAny_execs_nil q
  |ret v=>exact q
  |brk=>exact q
  |cont=>exact q
theorem Inv.quiet {pins:List (Addr×Obj)}{σ:St}{H:Hp}{s:Shared}(I:Inv X pins σ H s):interactive X.env=false:=by simp[interactive,I.ok.kind]
noncomputable def tDrop (te:TE):TS:=λ D σ H=>te σ H λ _ H1=>D.nx σ H1
theorem ZH (he:PE X e te)(hs:swapsWith e none pos.line X.env=pure false:=by rfl):PS X (.Expr e pos) (tDrop te):=by
 refine⟨?_⟩;intro pins s σ H D I h;exact wpAny_Expr_any (thn (he pins s σ H _ I h) λ v s1 ⟨x,H1,I1,r1,q1⟩=>⟨σ,H1,I1,q1⟩) I.quiet hs
noncomputable def tRet (te:TE):TS:=λ D σ H=>te σ H D.rt
theorem Zk (he:PE X e te):PS X (.Return (some e) pos) (tRet te):=by
 refine⟨?_⟩;intro pins s σ H D I h;exact wpAny_Return_some (thn (he pins s σ H _ I h) λ v s1 ⟨x,H1,I1,r1,q1⟩=>⟨x,σ,H1,I1,r1,q1⟩)
noncomputable def tIfS (c:TT)(t u:TS):TS:=λ D σ H=>c σ H λ b H1=>if b=true then t D σ H1 else u D σ H1
theorem ZA {c:Expr}{a b:List Stmt}{tc:TT}(hc:PT X c tc)(ha:PSs X a t)(hb:PSs X b u):PS X (.If c a b pos) (tIfS tc t u):=by
  refine⟨?_⟩;intro pins s σ H D I h;refine wpAny_If (thn (hc pins s σ H _ I h) λ d s1 zz9=>?_);obtain⟨H1,I1,q1⟩:=zz9;cases d with
  |true=>exact ha pins s1 σ H1 D I1 q1
  |false=>exact hb pins s1 σ H1 D I1 q1
end
noncomputable abbrev TG:=V->St->Hp->(St->Hp->Prop)->Prop
noncomputable abbrev TGs:=List V->St->Hp->(St->Hp->Prop)->Prop
noncomputable abbrev PGb (X:Cx)(target:Expr)(t:TG):Prop:=
  ∀(pins:List (Addr×Obj))(s:Shared)(σ:St)(H:Hp)(v:V)(u:Value)(Q:St->Hp->Prop),Inv X pins σ H s->Zx v u->t v σ H Q ->
    wpAny (model X.prog X.w) X.A (assign target X.env u) (λ _ s'=>∃ σ' H',Inv X pins σ' H' s'/\Q σ' H') X.xe s
structure PG (X:Cx)(target:Expr)(t:TG):Prop where
  go:PGb X target t
instance {X:Cx}{target:Expr}{t:TG}:CoeFun (PG X target t) λ _=>PGb X target t:=⟨PG.go⟩
noncomputable abbrev PGsb (X:Cx)(ts:List Expr)(t:TGs):Prop:=
  ∀(pins:List (Addr×Obj))(s:Shared)(σ:St)(H:Hp)(vs:List V)(us:List Value)(Q:St->Hp->Prop),Inv X pins σ H s->ZG vs us->t vs σ H Q ->
    wpAny (model X.prog X.w) X.A (assignInOrder ((assignEach ts X.env).map (·.2)) us) (λ _ s'=>∃ σ' H',Inv X pins σ' H' s'/\Q σ' H') X.xe s
structure PGs (X:Cx)(ts:List Expr)(t:TGs):Prop where
  go:PGsb X ts t
instance {X:Cx}{ts:List Expr}{t:TGs}:CoeFun (PGs X ts t) λ _=>PGsb X ts t:=⟨PGs.go⟩
noncomputable abbrev TSet:=V->V->V->Hp->(Hp->Prop)->Prop
noncomputable abbrev PSetb (X:Cx)(t:TSet):Prop:=
  ∀(pins:List (Addr×Obj))(s:Shared)(σ:St)(H:Hp)(o i v:V)(ov iv u:Value)(Q:Hp->Prop),Inv X pins σ H s->Zx o ov->Zx i iv->Zx v u->t o i v H Q ->
    wpAny (model X.prog X.w) X.A (setItem ov iv u) (λ _ s'=>∃ H',Inv X pins σ H' s'/\Q H') X.xe s
structure PSet (X:Cx)(t:TSet):Prop where
  go:PSetb X t
instance {X:Cx}{t:TSet}:CoeFun (PSet X t) λ _=>PSetb X t:=⟨PSet.go⟩
noncomputable abbrev TIp:=V->V->Hp->VK->Prop
noncomputable abbrev PIpb (X:Cx)(op:Operator)(t:TIp):Prop:=
  ∀(pins:List (Addr×Obj))(s:Shared)(σ:St)(H:Hp)(x y:V)(v u:Value)(Q:VK),Inv X pins σ H s->Zx x v->Zx y u->t x y H Q ->
    wpAny (model X.prog X.w) X.A (inplaceOp op v u) (EP X pins σ Q) X.xe s
structure PIp (X:Cx)(op:Operator)(t:TIp):Prop where
  go:PIpb X op t
instance {X:Cx}{op:Operator}{t:TIp}:CoeFun (PIp X op t) λ _=>PIpb X op t:=⟨PIp.go⟩
section
variable {X:Cx}{pos:Pos}
noncomputable def Ze0 (i:Nat):TG:=λ v σ H Q=>Q (σ.set i (some v)) H
theorem Zw {i:Nat}{x:Str}(hN:X.N.Nodup)(hi:X.N[i]? = some x)(hx:Loc X.env.scope x)(hf:X.fn x=true\/X.env.scope.names.lookup x=some .local:=by first|exact .inl rfl|exact .inr rfl|assumption):PG X (.Name x pos) (Ze0 i):=by
 refine⟨?_⟩;intro pins s σ H v u Q I r h;exact wpAny_assign_Name (Jn I hN hi hx r (λ s' I'=>⟨_,H,I',h⟩) hf)
noncomputable def gNil:TGs:=λ vs σ H Q=>vs=[]/\Q σ H
noncomputable def gCons (t:TG)(u:TGs):TGs:=λ vs σ H Q=>∃ v r,vs=v::r/\t v σ H λ σ' H'=>u r σ' H' Q
theorem Xv:PGs X [] gNil:=by
 refine⟨?_⟩;intro pins s σ H vs us Q I r h;obtain⟨e,h⟩:=h;subst e;cases r;exact assignInOrder_nil ⟨σ,H,I,h⟩
theorem ZC {e:Expr}{es:List Expr}{t:TG}{u:TGs}(h1:PG X e t)(h2:PGs X es u)(hs:(assignEach (e::es) X.env).map (·.2)=assign e X.env::(assignEach es X.env).map (·.2):=by rfl):PGs X (e::es) (gCons t u):=by
  refine⟨?_⟩;intro pins s σ H vs us Q I r h;obtain⟨v,vr,e1,h⟩:=h;subst e1;cases r with
  |cons r rr=>
    rw[hs];refine assignInOrder_cons (thn (h1 pins s σ H _ _ _ I r h) λ _ s1 zz9=>?_);obtain⟨σ1,H1,I1,q1⟩:=zz9;exact h2 pins s1 σ1 H1 _ _ Q I1 rr q1
noncomputable def gTup (K:Frag)(n:Nat)(t:TGs):TG:=λ v σ H Q=>∃ a xs,v = .ref a/\SqT K H a xs/\xs.length=n/\t xs σ H Q
theorem ZaB {es:List Expr}{k:Nat}{t:TGs}{n:Nat}(hc:X.calm=true)(h:PGs X es t)(hn:(assignEach es X.env).length=n:=by rfl)(hst:(assignEach es X.env).findIdx? (·.1)=none:=by rfl):PG X (.Tuple es k pos) (gTup X.K n t):=by
 refine⟨?_⟩;intro pins s σ H v u Q I r hw;obtain⟨a,xs,e1,hq,hl,hw⟩:=hw;subst e1;cases r;obtain⟨its,rv,ht,hz⟩:=I.tuple hq;refine assign_Tuple_tuple (I.ok.hd hc) ht (by simp[hn,<- hl,rv.length]) hst λ h' hx=>?_;have I1:Inv X pins σ H { s with heap:=h' }:=I.kept (t':=s.toks) λ b o e=>hx b o (ne_of_lt (Heap.lt_size e)) e;exact h pins _ σ H xs _ Q I1 (by simpa using rv) hw
noncomputable def gSub (to ti:TE)(t:TSet):TG:=λ v σ H Q=>to σ H λ o H1=>ti σ H1 λ i H2=>t o i v H2 λ H3=>Q σ H3
theorem pg_sub {o i:Expr}{to ti:TE}{t:TSet}(ho:PE X o to)(hi:PE X i ti)(hs:PSet X t)(ha:∀ v,assign (.Subscript o i pos) X.env v=(do
      let ov <- holding [v] (eval o X.env)
      let iv <- holding [v,ov] (eval i X.env)
      standAt pos
      holding [v,ov,iv] (setItem ov iv v)
      release [v,ov,iv] []):=by intro _;rfl):PG X (.Subscript o i pos) (gSub to ti t):=by
  refine⟨?_⟩;intro pins s σ H v u Q I r h;rw[ha];refine wpAny_bind (wpAny_holding (thn (ho pins s σ H _ I h) λ ov s1 zz9=>?_));obtain⟨x,H1,I1,r1,q1⟩:=zz9;refine wpAny_bind (wpAny_holding (thn (hi pins s1 σ H1 _ I1 q1) λ iv s2 zz9=>?_));obtain⟨y,H2,I2,r2,q2⟩:=zz9;refine wpAny_bind (wpAny_standAt (wpAny_bind (wpAny_holding (thn (hs pins s2 σ H2 x y v ov iv u _ I2 r1 r2 r q2) λ _ s3 zz9=>?_))));obtain⟨H3,I3,q3⟩:=zz9;exact wpAny_release ⟨σ,H3,I3,q3⟩
noncomputable def tAsg (te:TE)(g:TG):TS:=λ D σ H=>te σ H λ x H1=>g x σ H1 D.nx
theorem Zfq {tg e:Expr}{te:TE}{g:TG}(he:PE X e te)(hg:PG X tg g)(hs:swapsWithSole [tg] e pos.line X.env=pure false:=by rfl)(hw:swappedStores [tg] e X.env=pure none:=by rfl)(h1:(assignEach [tg] X.env).map (·.2)=[assign tg X.env]:=by rfl):PS X (.Assign [tg] e pos) (tAsg te g):=by
 refine⟨?_⟩;intro pins s σ H D I h;refine wpAny_Assign_stores (thn (he pins s σ H _ I h) λ v s1 zz9=>?_) hs hw;obtain⟨x,H1,I1,r1,q1⟩:=zz9;rw[h1];exact thn (hg pins s1 σ H1 x v _ I1 r1 q1) λ _ s2 q=>q
theorem Zv {i:Nat}{x:Str}{e:Expr}{te:TE}{pos':Pos}(hN:X.N.Nodup)(hi:X.N[i]? = some x)(hx:Loc X.env.scope x)(he:PE X e te)(hs:swapsWith e (some (.Name x pos')) pos.line X.env=pure false:=by rfl)(hf:X.fn x=true\/X.env.scope.names.lookup x=some .local:=by first|exact .inl rfl|exact .inr rfl|assumption) :
    PS X (.Assign [.Name x pos'] e pos) (tAsg te (Ze0 i)):=by
  refine⟨?_⟩;intro pins s σ H D I h;refine wpAny_Assign_Name (thn (he pins s σ H _ I h) λ v s1 zz9=>?_) hs;obtain⟨y,H1,I1,r1,q1⟩:=zz9;exact Jn I1 hN hi hx r1 (λ s2 I2=>⟨_,H1,I2,q1⟩) hf
noncomputable def tPar (i j:Nat)(ta:TA):TS:=λ D σ H=>ta σ H λ vs H1=>∃ v w,vs=[v,w]/\D.nx ((σ.set i (some v)).set j (some w)) H1
theorem Zhh {i j:Nat}{x y:Str}{a b:Expr}{ta:TA}{px py pt:Pos}{kt k2 pt2}(hc:X.calm=true)(hN:X.N.Nodup)(hi:X.N[i]? = some x)(hj:X.N[j]? = some y)(hij:i≠j)(hx:X.env.scope.names.lookup x=some .local)(hy:X.env.scope.names.lookup y=some .local)(ha:PA X [a,b] ta)(hw:swappedStores [.Tuple [.Name x px, .Name y py] kt pt] (.Tuple [a,b] k2 pt2) X.env=pure (some [x,y]))(hs:swapsWithSole [.Tuple [.Name x px, .Name y py] kt pt] (.Tuple [a,b] k2 pt2) pos.line X.env=pure false:=by rfl) :
    PS X (.Assign [.Tuple [.Name x px, .Name y py] kt pt] (.Tuple [a,b] k2 pt2) pos) (tPar i j ta):=by
  refine⟨?_⟩;intro pins s σ H D I h;rw[exec_Assign_arm];refine wpAny_bind (wpAny_standAt ?_);rw[hs];refine wpAny_bind (wpAny_pure ?_);rw[if_neg (by decide)];refine wpAny_bind (Tuple_ (thn (ha _ pins s σ H _ I h) λ us s1 zz9=>?_));obtain⟨vs,H1,I1,r1,q1⟩:=zz9;obtain⟨v,w,e1,q1⟩:=q1;subst e1;obtain⟨u1,u2,rfl,rv,rw'⟩:∃ u1 u2,us=[u1,u2]/\Zx v u1/\Zx w u2:=by
    cases r1 with
    |cons p q=>
      cases q with
      |cons p' q'=>
        cases q';exact⟨_,_,rfl,p,p'⟩
  refine wpAny_newObj_type ?_ (by show 2<=sizeLine;decide);have I2:Inv X pins σ H1 { s1 with heap:=s1.heap.push { cls:=.type "tuple",data:=.seq [u1,u2].toArray } }:=I1.kept (t':=s1.toks) λ b o e=>Heap.get?_push_of_some _ e;rw[hw];refine wpAny_bind (wpAny_pure ?_);show wpAny (model X.prog X.w) X.A (do rule "assign.swapped-stores";let items <- unpackItems (.ref s1.heap.objs.size) 2 none;assignInOrder [λ v=>bindName X.env y v,λ v=>bindName X.env x v] items.reverse;pure Flow.next) _ _ _;refine wpAny_bind (wpAny_rule (wpAny_bind (unpackItems_tuple (items := #[u1,u2]) (I.ok.hd hc) (IsTup.new s1.heap _) λ h' hx'=>?_)));have I3:=I2.kept (h':=h') (t':=s1.toks) λ b o e=>hx' b o (ne_of_lt (Heap.lt_size e)) e;show wpAny _ _ (assignInOrder [λ v=>bindName X.env y v,λ v=>bindName X.env x v] [u2,u1] >>= λ _=>pure Flow.next) _ _ _;refine wpAny_bind (assignInOrder_cons (wpAny_bindName (Jn I3 hN hj (.inl hy) rw' (λ s2 I4=>?_) (.inr hy))));refine assignInOrder_cons (wpAny_bindName (Jn I4 hN hi (.inl hx) rv (λ s3 I5=>assignInOrder_nil (wpAny_pure ?_)) (.inr hx)));rw[List.set_comm _ _ (Ne.symm hij)]at I5;exact⟨_,H1,I5,q1⟩
noncomputable abbrev PGetb (X:Cx)(t:V->V->Hp->VK->Prop):Prop:=
  ∀(pins:List (Addr×Obj))(s:Shared)(σ:St)(H:Hp)(o i:V)(ov iv:Value)(Q:VK),Inv X pins σ H s->Zx o ov->Zx i iv->t o i H Q ->
    wpAny (model X.prog X.w) X.A (getItem ov iv) (EP X pins σ Q) X.xe s
structure PGet (X:Cx)(t:V->V->Hp->VK->Prop):Prop where
  go:PGetb X t
instance {X:Cx}{t:V->V->Hp->VK->Prop}:CoeFun (PGet X t) λ _=>PGetb X t:=⟨PGet.go⟩
end
section
variable {X:Cx}{pos:Pos}
noncomputable def ZgZ (c:TT)(tb:TS):TS:=λ D σ H=>∃ W:Nat->St->Hp->Prop,(∃ m,W m σ H)/\∀ m σ H,W m σ H ->
 c σ H λ b H1=>if b=true then ∃ N:St->Hp->Prop,(∀ σ' H',N σ' H'->∃ m',m'<m/\W m' σ' H')/\tb { D with nx:=N,ct:=N,bk:=D.nx } σ H1 else D.nx σ H1
theorem Za1 {c:Expr}{body:List Stmt}{tc:TT}{tb:TS}(hp:PassesOwn (model X.prog X.w) X.A X.env X.xe)(hc:PT X c tc)(hb:PSs X body tb):PS X (.While c body [] pos) (ZgZ tc tb):=by
  refine⟨?_⟩;intro pins s σ H D I h;obtain⟨W,⟨m0,w0⟩,turn⟩:=h;refine wpAny_While (codeAny_whileLoop (λ n s'=>∃ σ' H',Inv X pins σ' H' s'/\W n σ' H') ?_ m0 ⟨σ,H,I,w0⟩);rintro n s1 ⟨σ1,H1,I1,w1⟩;refine wpAny_passesOwn hp (thn (hc pins s1 σ1 H1 _ I1 (turn n σ1 H1 w1)) λ b s2 zz9=>?_);obtain⟨H2,I2,q2⟩:=zz9;cases b with
  |true=>
    obtain⟨N,hN,q2⟩:=q2;rw[if_pos rfl];refine wpAny_passesOwn hp (thn (hb pins s2 σ1 H2 _ I2 q2) λ f s3 q3=>?_);cases f with
    |next=>
      obtain⟨σ3,H3,I3,n3⟩:=q3;obtain⟨m',hm,w3⟩:=hN σ3 H3 n3;exact⟨m',hm,σ3,H3,I3,w3⟩
    |cont=>
      obtain⟨σ3,H3,I3,n3⟩:=q3;obtain⟨m',hm,w3⟩:=hN σ3 H3 n3;exact⟨m',hm,σ3,H3,I3,w3⟩
    |brk=>exact q3
    |ret v=>exact q3
  |false=>
    rw[if_neg Bool.false_ne_true];exact wpAny_execs_nil ⟨σ1,H2,I2,q2⟩
end
structure It where
  go:Nat->Hp->Prop
  yld:Nat->Hp->V->Hp->Prop
  stop:Nat->Hp->Prop
noncomputable def Zag (X:Cx)(pins:List (Addr×Obj))(H:Hp)(b:Addr):Prop:=
 H b=none/\b≠X.env.locals/\b∉X.fs/\(b∈X.ex\/X.s₀.heap.objs.size<=b)/\(∀ x c,X.env.cells.lookup x=some c->c≠b)/\∀ p∈X.pn++pins,p.1≠b
theorem Inv.fpOk {X:Cx}{pins:List (Addr×Obj)}{σ:St}{H H':Hp}{s:Shared}{b:Addr}(I:Inv X pins σ H s)(hb:s.heap.objs.size<=b)(hn:H' b=none):Zag X pins H' b:=by
  refine⟨hn,Nat.ne_of_gt (lt_of_lt_of_le I.lt hb),I.nofs hb, .inr (le_trans I.sz hb),λ x c e z=>?_,λ p hp z=>?_⟩
  . obtain⟨v,q⟩:=I.cell x c e;exact absurd (lt_of_lt_of_le q.lt (by rw[z];exact hb)) (lt_irrefl _)
  . exact absurd (lt_of_lt_of_le (Heap.lt_size (I.pin p hp).1) (by rw[z];exact hb)) (lt_irrefl _)
structure Turn (P:Program)(w:World)(K:Frag)(tg:Expr)(J:It)(fp:List Addr)(it:Addr)(tn:Nat->Heap->Prop):Prop where
  mem:it∈fp
  obj:∀ i h,tn i h->∀ b∈fp,∃ o,h.get? b=some o/\∀ v,o.data ≠ .cell v
  keep:∀ i h h',tn i h->(∀ b∈fp,∀ o,h.get? b=some o->h'.get? b=some o)->tn i h'
  item:∀(X:Cx),X.prog=P->X.w=w->X.K=K->X.calm=true->∀(i:Nat)(pins:List (Addr×Obj))(s:Shared)(σ:St)(H:Hp)(E:Value->Shared->Prop),Inv X pins σ H s->(∀ b∈fp,Zag X pins H b)->tn i s.heap->J.go i H ->
    wpAny (model P w) X.A (pyNext (.ref it)) (λ r s1=>∃ u,r=some u /\
      wpAny (model P w) X.A (letOwnedTupleGo tg (.ref it) u) (λ _ s2=>∃ x H',Inv X pins σ H' s2/\Zx x u/\J.yld i H x H'/\tn (i+1) s2.heap/\∀ b∈fp,H' b=none) E s1) E s
  done:∀(X:Cx),X.prog=P->X.w=w->X.K=K->X.calm=true->∀(i:Nat)(pins:List (Addr×Obj))(s:Shared)(σ:St)(H:Hp)(E:Value->Shared->Prop),Inv X pins σ H s->(∀ b∈fp,Zag X pins H b)->tn i s.heap->J.stop i H ->
    wpAny (model P w) X.A (pyNext (.ref it)) (λ r s1=>r=none/\Inv X pins σ H s1) E s
  self:∀(A:Around)(i:Nat)(s:Shared)(Q:Value->Shared->Prop)(E:Value->Shared->Prop),tn i s.heap->Q (.ref it) s->wpAny (model P w) A (pyIter (.ref it)) Q E s
noncomputable abbrev TI:=St->Hp->(It->Hp->Prop)->Prop
noncomputable def PIE (X:Cx)(pins:List (Addr×Obj))(σ:St)(tg:Expr)(R:It->Hp->Prop)(itv:Value)(s2:Shared):Prop:=
 ∃(it:Addr)(fp:List Addr)(tn:Nat->Heap->Prop)(J:It)(H':Hp),itv = .ref it/\Inv X pins σ H' s2/\Turn X.prog X.w X.K tg J fp it tn/\tn 0 s2.heap/\(∀ b∈fp,Zag X pins H' b)/\R J H'
noncomputable abbrev PIb (X:Cx)(tg iter:Expr)(wi:TI):Prop:=
  ∀(pins:List (Addr×Obj))(s:Shared)(σ:St)(H:Hp)(R:It->Hp->Prop),Inv X pins σ H s->wi σ H R ->
    wpAny (model X.prog X.w) X.A (eval iter X.env) (λ v s1=>wpAny (model X.prog X.w) X.A (pyIter v) (PIE X pins σ tg R) X.xe s1) X.xe s
structure PI (X:Cx)(tg iter:Expr)(wi:TI):Prop where
  go:PIb X tg iter wi
instance {X:Cx}{tg iter:Expr}{wi:TI}:CoeFun (PI X tg iter wi) λ _=>PIb X tg iter wi:=⟨PI.go⟩
theorem Zf6 {M:Model}{A:Around}{E:Value->Shared->Prop}{s:Shared}{tg:Expr}{it:Addr}{u:Value}{o:Obj}{n:String}{vs:Array Value}{Q:Unit->Shared->Prop}(ho:s.heap.get? it=some o)(hc:o.cls = .type n)(hd:o.data = .fields vs)(hn:["enumerate","zip","dict_itemiterator","dict_reverseitemiterator","odict_iterator","itertools.zip_longest","itertools.pairwise"].contains n=false)(hQ:Q () s):wpAny M A (letOwnedTupleGo tg (.ref it) u) Q E s:=by
  unfold letOwnedTupleGo;cases tg <;> first
    | exact wpAny_pure hQ
    | (cases u <;> first
        | exact wpAny_pure hQ
        | (refine wpAny_bind (wpAny_load ho ?_)
           rw[hc,hd];show wpAny M A (if (["enumerate","zip","dict_itemiterator","dict_reverseitemiterator","odict_iterator","itertools.zip_longest","itertools.pairwise"].contains n && vs[0]? == some (rawInt _))=true then _ else _) Q E s;rw[if_neg (by intro h;rw[hn,Bool.false_and]at h;cases h)];exact wpAny_pure hQ))
noncomputable def Itl (K:Frag)(a:Addr):It:=
 ⟨λ i H=>∃ xs x,SqL K H a xs/\xs[i]? = some x,λ i H x H'=>H'=H/\∀ xs,SqL K H a xs->xs[i]? = some x,λ i H=>∃ xs,SqL K H a xs/\xs.length<=i⟩
noncomputable def Itr (lo:Int)(n:Nat):It:=⟨λ i _=>i<n,λ i H x H'=>H'=H/\x = .int (lo+i),λ i _=>n<=i⟩
theorem Zgp {P:Program}{w:World}{K:Frag}{tg:Expr}(a it:Addr):Turn P w K tg (Itl K a) [it] it (λ i h=>h.IsListIter it a i) where
  mem:=by simp
  obj:=λ i h st b hb=>by
    have e:b=it:=by simpa using hb
    subst e;obtain⟨o,e,c,d⟩:=st;exact⟨o,e,λ v z=>by rw[d]at z;cases z⟩
  keep:=λ i h h' st k=>st.at λ o e=>k it (by simp) o e
  item:=by
    intro X hP hw hK hc i pins s σ H E I hf st hg;subst hP hw hK;obtain⟨xs,x,hq,hx⟩:=hg;obtain⟨its,rv,p,hz⟩:=I.list hq;obtain⟨u,hu,ru⟩:=rv.get hx;obtain⟨f0,f1,f2,f3,f4,f5⟩:=hf it (by simp);refine wpAny_pyNext_list_item st p.isList (x:=u) (by simpa using hu) λ h' st' sb=>?_;have I1:Inv X pins σ H { s with heap:=h' }:=I.turned (t':=s.toks) (λ b o hb e=>(sb.2 b hb).trans e) f0 f1 f3 f4 f5;obtain⟨o,e,c,d⟩:=id st';exact⟨u,rfl,Zf6 (s:={ s with heap:=h' }) e c d (by decide) ⟨x,H,I1,ru,⟨rfl,λ ys hy=>by rw[I.list_inj hy hq];exact hx⟩,st',λ b hb=>(hf b hb).1⟩⟩
  done:=by
    intro X hP hw hK hc i pins s σ H E I hf st hg;subst hP hw hK;obtain⟨xs,hq,hx⟩:=hg;obtain⟨its,rv,p,hz⟩:=I.list hq;obtain⟨f0,f1,f2,f3,f4,f5⟩:=hf it (by simp);have hl:=rv.length;exact wpAny_pyNext_list_end (I.ok.hd hc) st p.isList (by simp;omega) λ h' eb=>⟨rfl,I.turned (t':=s.toks) (λ b o hb e=>eb b o hb e) f0 f1 f3 f4 f5⟩
  self:=λ _ _ _ _ _ st h=>wpAny_pyIter_listiter st h
theorem Zfg {P:Program}{w:World}{K:Frag}{tg:Expr}(it:Addr)(lo:Int)(n:Nat):Turn P w K tg (Itr lo n) [it] it (λ i h=>IsRangeIter h it (lo+(i:Nat) * 1) ((n:Int) - (i:Nat)) 1) where
  mem:=by simp
  obj:=λ i h st b hb=>by
    have e:b=it:=by simpa using hb
    subst e;exact⟨_,st,λ v z=>by
      have z':Data.fields _=Data.cell v:=z;cases z'⟩
  keep:=λ i h h' st k=>k it (by simp) _ st
  item:=by
    intro X hP hw hK hc i pins s σ H E I hf st hg;subst hP hw hK;obtain⟨f0,f1,f2,f3,f4,f5⟩:=hf it (by simp);have W:=Walks.range (prog:=X.prog) (w:=X.w) (I.ok.hd hc) it lo 1 n;refine W.item i s _ _ hg st λ v h' tk hv st' kk=>?_;obtain⟨t,rfl⟩:=hv;have I1:Inv X pins σ H { s with heap:=h',toks:=tk }:=I.turned (λ b o hb e=>kk b o (by simpa using hb) e) f0 f1 f3 f4 f5;refine⟨_,rfl,Zf6 (s:={ s with heap:=h',toks:=tk }) (n:="range_iterator") st' rfl rfl (by decide) ⟨.int (lo+i),H,I1,⟨t,?_⟩,⟨rfl,rfl⟩,st',λ b hb=>(hf b hb).1⟩⟩;rw[Int.mul_one]
  done:=by
    intro X hP hw hK hc i pins s σ H E I hf st hg;subst hP hw hK;obtain⟨f0,f1,f2,f3,f4,f5⟩:=hf it (by simp);exact wpAny_pyNext_range_end (I.ok.hd hc) st (by have:n<=i:=hg;omega) λ h' eb=>⟨rfl,I.turned (t':=s.toks) (λ b o hb e=>eb b o hb e) f0 f1 f3 f4 f5⟩
  self:=λ _ _ _ _ _ st h=>wpAny_pyIter_rangeiter st h
open PySem PySem.Spec PyProof.Rows
section
variable {X:Cx}{tg:Expr}
noncomputable def iList (K:Frag)(tl:TE):TI:=λ σ H R=>tl σ H λ x H1=>∃ a,x = .ref a/\(∃ xs,SqL K H1 a xs)/\R (Itl K a) H1
theorem Ya {l:Expr}{tl:TE}(hl:PE X l tl):PI X tg l (iList X.K tl):=by
 refine⟨?_⟩;intro pins s σ H R I h;refine thn (hl pins s σ H _ I h) λ v s1 zz9=>?_;obtain⟨x,H1,I1,r1,q1⟩:=zz9;obtain⟨a,e,⟨xs,hq⟩,q⟩:=q1;subst e;cases r1;obtain⟨its,rv,p,hz⟩:=I1.list hq;refine wpAny_pyIter_list p.isList ?_;refine⟨s1.heap.objs.size,[s1.heap.objs.size],_,_,H1,rfl,I1.kept (t':=s1.toks) λ b o e=>Heap.get?_push_of_some _ e,Zgp a _,⟨_,Heap.get?_push_size _ rfl,rfl,rfl⟩,λ b hb=>?_,q⟩;have e:b=s1.heap.objs.size:=by simpa using hb
 subst e;exact I1.fpOk (le_refl _) (I1.hok.fresh (le_refl _))
theorem Zhf {pins:List (Addr×Obj)}{σ:St}{H:Hp}{s:Shared}{R:It->Hp->Prop}{E:Value->Shared->Prop}{lo hi:Int}{t u v:Tok}{tk:Nat}(I:Inv X pins σ H s)(h1 : -(2 ^ 62)<=lo)(h2:lo<2 ^ 62)(h3 : -(2 ^ 62)<=hi)(h4:hi<2 ^ 62)(q:R (Itr lo (hi - lo).toNat) H):wpAny (model X.prog X.w) X.A (pyIter (.ref s.heap.objs.size)) (PIE X pins σ tg R) E { s with heap:=s.heap.push { cls:=.type "range",data:=.fields #[.int lo t, .int hi u, .int 1 v] },toks:=tk }:=by
  refine wpAny_pyIter_range (IsRange.new ..) (small_one h1 h2 h3 h4) ?_;have I1:Inv X pins σ H { s with heap:=s.heap.push { cls:=.type "range",data:=.fields #[.int lo t, .int hi u, .int 1 v] },toks:=tk }:=I.kept λ b o e=>Heap.get?_push_of_some _ e;refine⟨(s.heap.push { cls:=.type "range",data:=.fields #[.int lo t, .int hi u, .int 1 v] }).objs.size,[(s.heap.push { cls:=.type "range",data:=.fields #[.int lo t, .int hi u, .int 1 v] }).objs.size],_,_,H,rfl,
    I1.kept (t':=tk) λ b o e=>Heap.get?_push_of_some _ e,Zfg _ lo (hi - lo).toNat,?_,λ b hb=>?_,q⟩
  . have e1:lo+((0:Nat):Int) * 1=lo:=by simp
    have e2:(((hi - lo).toNat:Nat):Int) - ((0:Nat):Int)=Builtin.Range.rangeSize lo hi 1:=by rw[rangeSize_one];split <;> omega
    show IsRangeIter _ _ (lo+((0:Nat):Int) * 1) ((((hi - lo).toNat:Nat):Int) - ((0:Nat):Int)) 1;rw[e1,e2];exact Heap.get?_push_size _ rfl
  . have e:b=(s.heap.push { cls:=.type "range",data:=.fields #[.int lo t, .int hi u, .int 1 v] }).objs.size:=by simpa using hb
    subst e;exact I1.fpOk (le_refl _) (I1.hok.fresh (le_refl _))
noncomputable def iRng1 (ta:TA):TI:=λ σ H R=>ta σ H λ vs H1=>∃ j:Int,vs=[.int j] /\ -(2 ^ 62)<=j/\j<2 ^ 62/\R (Itr 0 j.toNat) H1
theorem J2 {a:Expr}{ta:TA}{p pos:Pos}(hg:Gl X "range")(hm:X.mg "range"=none)(ha:PA X [a] ta)(hs:starEach [a] X.env=[(false,eval a X.env)]:=by rfl):PI X tg (.Call (.Name "range" p) [a] [] pos) (iRng1 ta):=by
  refine⟨?_⟩;intro pins s σ H R I h;refine Call_ (ZcZ I hg hm boot_range (PyProof.Rows.callWith_type1 (thn (ha pos pins s σ H _ I h) λ us s1 zz9=>?_) hs rfl));obtain⟨vs,H1,I1,r1,q1⟩:=zz9;obtain⟨j,e,q1,q2,q⟩:=q1;subst e;cases r1 with
  |cons r rr=>
    cases rr;obtain⟨t,rfl⟩:=r;exact call_range_1 (Zhf I1 (by omega) (by omega) q1 q2 (by simpa using q))
noncomputable def tFor (wi:TI)(g:TG)(tb:TS):TS:=λ D σ H=>wi σ H λ J H1=>∃ W:Nat->Nat->St->Hp->Prop,(∃ m,W 0 m σ H1)/\∀ i m σ H,W i m σ H ->
 (J.stop i H/\D.nx σ H)\/(J.go i H/\∃ N:St->Hp->Prop,(∀ σ' H',N σ' H'->∃ m',m'<m/\W (i+1) m' σ' H')/\∀ x H',J.yld i H x H'->g x σ H' λ σ2 H2=>tb { D with nx:=N,ct:=N,bk:=D.nx } σ2 H2)
noncomputable def Zbp (fp:List Addr)(h:Heap):List (Addr×Obj):=fp.filterMap λ b=>(h.get? b).map λ o=>(b,o)
theorem YS {fp:List Addr}{h:Heap}{b:Addr}{o:Obj}(hb:b∈fp)(e:h.get? b=some o):(b,o)∈Zbp fp h:=List.mem_filterMap.mpr ⟨b,hb,by rw[e];rfl⟩
theorem ZgD {fp:List Addr}{h:Heap}{p:Addr×Obj}(hp:p∈Zbp fp h):p.1∈fp/\h.get? p.1=some p.2:=by
  obtain⟨b,hb,e⟩:=List.mem_filterMap.mp hp;cases q:h.get? b with
  |none=>rw[q]at e;cases e
  |some o=>
    rw[q]at e;have e':(b,o)=p:=Option.some.inj e;subst e';exact⟨hb,q⟩
theorem Inv.pinned {pins:List (Addr×Obj)}{σ:St}{H:Hp}{s:Shared}{fp:List Addr}(I:Inv X pins σ H s)(hf:∀ b∈fp,Zag X pins H b)(ho:∀ b∈fp,∃ o,s.heap.get? b=some o/\∀ v,o.data ≠ .cell v):Inv X (pins++Zbp fp s.heap) σ H s:=
  I.pins_of λ p hp=>(List.mem_append.mp hp).elim (λ z=>I.pin p (mem_append_right _ z)) λ z=>by
    obtain⟨hb,e⟩:=ZgD z;obtain⟨f0,f1,f2,_⟩:=hf p.1 hb;obtain⟨o,e',d⟩:=ho p.1 hb;rw[e]at e';cases e';exact⟨e,f0,f1,f2,d⟩
theorem Inv.unpinned {pins pl:List (Addr×Obj)}{σ:St}{H:Hp}{s:Shared}(I:Inv X (pins++pl) σ H s):Inv X pins σ H s:=I.pins_of λ p hp=>I.pin p (mem_append_right _ (mem_append_left _ hp))
theorem Yp {iter:Expr}{body:List Stmt}{wi:TI}{g:TG}{tb:TS}{pos:Pos}(hp:PassesOwn (model X.prog X.w) X.A X.env X.xe)(hc:X.calm=true)(hi:PI X tg iter wi)(hg:PG X tg g)(hb:PSs X body tb)(hs:∀ x,foldedSetIterable iter X.env x=pure x:=by intro _;rfl):PS X (.For tg iter body [] pos) (tFor wi g tb):=by
  refine⟨?_⟩;intro pins s σ H D I h;refine wpAny_For (thn (hi pins s σ H _ I h) λ v s1 h1=>thn h1 λ itv s2 h2=>?_) hs;obtain⟨it,fp,tn,J,H2,e,I2,T,st2,f2,W,⟨m0,w0⟩,turn⟩:=h2;subst e;have stat:∀ {H':Hp},(∀ b∈fp,H' b=none)->∀ b∈fp,Zag X pins H' b:=λ hn b hb=>⟨hn b hb,(f2 b hb).2⟩;refine codeAny_forLoop_any (λ n s'=>∃ i σ' H',Inv X pins σ' H' s'/\tn i s'.heap/\(∀ b∈fp,H' b=none)/\W i n σ' H') ?_ m0 ⟨0,σ,H2,I2,st2,λ b hb=>(f2 b hb).1,w0⟩;rintro n s3 ⟨i,σ3,H3,I3,st3,fr3,w3⟩;rcases turn i n σ3 H3 w3 with ⟨stop,qn⟩|⟨go,N,hN,step⟩
  . refine wpAny_passesOwn hp (thn (T.done X rfl rfl rfl hc i pins s3 σ3 H3 X.xe I3 (stat fr3) st3 stop) λ r s4 zz9=>?_);obtain⟨hr,I4⟩:=zz9;subst hr;exact wpAny_execs_nil ⟨σ3,H3,I4,qn⟩
  . refine wpAny_passesOwn hp (thn (T.item X rfl rfl rfl hc i pins s3 σ3 H3 X.xe I3 (stat fr3) st3 go) λ r s4 zz9=>?_);obtain⟨u,hr,h4⟩:=zz9;subst hr;refine wpAny_passesOwn hp (thn h4 λ _ s5 zz9=>?_);obtain⟨x,H5,I5,r5,y5,st5,fr5⟩:=zz9;have I5':=I5.pinned (stat fr5) (T.obj _ _ st5);refine wpAny_passesOwn hp (thn (hg _ s5 σ3 H5 x u _ I5' r5 (step x H5 y5)) λ _ s6 zz9=>?_);obtain⟨σ6,H6,I6,q6⟩:=zz9;refine wpAny_passesOwn hp (thn (hb _ s6 σ6 H6 _ I6 q6) λ f s7 q7=>?_);have again:∀ {σ7:St} {H7:Hp},Inv X (pins++Zbp fp s5.heap) σ7 H7 s7->N σ7 H7->∃ m,m<n/\∃ i σ' H',Inv X pins σ' H' s7/\tn i s7.heap/\(∀ b∈fp,H' b=none)/\W i m σ' H':=λ {σ7 H7} I7 n7=>by
      obtain⟨m',hm,w7⟩:=hN σ7 H7 n7;refine⟨m',hm,i+1,σ7,H7,I7.unpinned,T.keep _ _ _ st5 λ b hb o e=>(I7.pin (b,o) (mem_append_right _ (mem_append_right _ (YS hb e)))).1,λ b hb=>?_,w7⟩;obtain⟨o,e,d⟩:=T.obj _ _ st5 b hb;exact(I7.pin (b,o) (mem_append_right _ (mem_append_right _ (YS hb e)))).2.1
    cases f with
    |next=>obtain⟨σ7,H7,I7,n7⟩:=q7;exact again I7 n7
    |cont=>obtain⟨σ7,H7,I7,n7⟩:=q7;exact again I7 n7
    |brk=>obtain⟨σ7,H7,I7,q7⟩:=q7;exact⟨σ7,H7,I7.unpinned,q7⟩
    |ret v=>obtain⟨x7,σ7,H7,I7,r7,q7⟩:=q7;exact⟨x7,σ7,H7,I7.unpinned,r7,q7⟩
end
theorem YI {K:Frag}{a:Addr}{xs:List V}{g:TG}{tb:TS}{D:Ends}{σ:St}{H:Hp}(Pv:Nat->St->Hp->Prop)(h0:Pv 0 σ H)(hl:∀ i σ H,i<=xs.length->Pv i σ H->SqL K H a xs)(hs:∀ i x σ H,xs[i]? = some x->Pv i σ H->g x σ H λ σ2 H2=>tb { D with nx:=Pv (i+1),ct:=Pv (i+1),bk:=D.nx } σ2 H2)(hd:∀ σ H,Pv xs.length σ H->D.nx σ H) :
    ∃ W:Nat->Nat->St->Hp->Prop,(∃ m,W 0 m σ H)/\∀ i m σ H,W i m σ H ->
      ((Itl K a).stop i H/\D.nx σ H)\/((Itl K a).go i H/\∃ N:St->Hp->Prop,(∀ σ' H',N σ' H'->∃ m',m'<m/\W (i+1) m' σ' H')/\∀ x H',(Itl K a).yld i H x H'->g x σ H' λ σ2 H2=>tb { D with nx:=N,ct:=N,bk:=D.nx } σ2 H2):=by
  refine⟨λ i m σ H=>m=xs.length - i/\i<=xs.length/\Pv i σ H,⟨xs.length,by simp,zero_le _,h0⟩,?_⟩;rintro i m σ H ⟨rfl,hi,p⟩;have q:=hl i σ H hi p
  by_cases hlt:i<xs.length
  . refine .inr ⟨⟨xs,xs[i],q,by simp[hlt]⟩,Pv (i+1),λ σ' H' p'=>⟨xs.length - (i+1),by omega,rfl,hlt,p'⟩,λ x H' y=>?_⟩;obtain⟨e,y⟩:=y;subst e;exact hs i x σ _ (y xs q) p
  . have e:i=xs.length:=by omega
    subst e;exact .inl ⟨⟨xs,q,le_refl _⟩,hd σ H p⟩
theorem J8 {lo:Int}{n:Nat}{g:TG}{tb:TS}{D:Ends}{σ:St}{H:Hp}(Pv:Nat->St->Hp->Prop)(h0:Pv 0 σ H)(hs:∀ i σ H,i<n->Pv i σ H->g (.int (lo+i)) σ H λ σ2 H2=>tb { D with nx:=Pv (i+1),ct:=Pv (i+1),bk:=D.nx } σ2 H2)(hd:∀ σ H,Pv n σ H->D.nx σ H) :
    ∃ W:Nat->Nat->St->Hp->Prop,(∃ m,W 0 m σ H)/\∀ i m σ H,W i m σ H ->
      ((Itr lo n).stop i H/\D.nx σ H)\/((Itr lo n).go i H/\∃ N:St->Hp->Prop,(∀ σ' H',N σ' H'->∃ m',m'<m/\W (i+1) m' σ' H')/\∀ x H',(Itr lo n).yld i H x H'->g x σ H' λ σ2 H2=>tb { D with nx:=N,ct:=N,bk:=D.nx } σ2 H2):=by
  refine⟨λ i m σ H=>m=n - i/\i<=n/\Pv i σ H,⟨n,by simp,zero_le _,h0⟩,?_⟩;rintro i m σ H ⟨rfl,hi,p⟩
  by_cases hlt:i<n
  . refine .inr ⟨hlt,Pv (i+1),λ σ' H' p'=>⟨n - (i+1),by omega,rfl,hlt,p'⟩,λ x H' y=>?_⟩;obtain⟨e,y⟩:=y;subst e y;exact hs i σ _ hlt p
  . have e:i=n:=by omega
    subst e;exact .inl ⟨le_refl _,hd σ H p⟩
theorem Zcd {c:TT}{tb:TS}{D:Ends}{σ:St}{H:Hp}(Pv:St->Hp->Prop)(μ:St->Hp->Nat)(h0:Pv σ H)(hs:∀ σ H,Pv σ H->c σ H λ b H1=>if b=true then tb { D with nx:=λ σ' H'=>Pv σ' H'/\μ σ' H'<μ σ H,ct:=λ σ' H'=>Pv σ' H'/\μ σ' H'<μ σ H,bk:=D.nx } σ H1 else D.nx σ H1)(mono:∀ σ H Q Q',(∀ b H1,Q b H1->Q' b H1)->c σ H Q->c σ H Q'):ZgZ c tb D σ H:=by
  refine⟨λ m σ H=>m=μ σ H/\Pv σ H,⟨_,rfl,h0⟩,?_⟩;rintro m σ H ⟨rfl,p⟩;refine mono σ H _ _ (λ b H1 q=>?_) (hs σ H p);cases b with
  |true=>exact⟨_,λ σ' H' ⟨p',l⟩=>⟨_,l,rfl,p'⟩,q⟩
  |false=>exact q
open PySem PySem.Spec PyProof.Rows
noncomputable abbrev R2:=V->V->Hp->VK->Prop
noncomputable def OpR (X:Cx)(f:Value->Value->Sem Value)(r:R2):Prop:=
  ∀(pins:List (Addr×Obj))(s:Shared)(σ:St)(H:Hp)(x y:V)(v u:Value)(Q:VK),Inv X pins σ H s->Zx x v->Zx y u->r x y H Q ->
    wpAny (model X.prog X.w) X.A (f v u) (EP X pins σ Q) X.xe s
noncomputable def X1 (X:Cx)(f:Value)(r:List V->Hp->VK->Prop):Prop:=
  ∀(pins:List (Addr×Obj))(s:Shared)(σ:St)(H:Hp)(xs:List V)(us:List Value)(Q:VK),Inv X pins σ H s->ZG xs us->r xs H Q ->
    wpAny (model X.prog X.w) X.A (call f us) (EP X pins σ Q) X.xe s
noncomputable def TruR (X:Cx)(r:V->Hp->(Bool->Hp->Prop)->Prop):Prop:=
  ∀(pins:List (Addr×Obj))(s:Shared)(σ:St)(H:Hp)(x:V)(v:Value)(Q:Bool->Hp->Prop),Inv X pins σ H s->Zx x v->r x H Q ->
    wpAny (model X.prog X.w) X.A (truthy v) (TP X pins σ Q) X.xe s
noncomputable def tOp (r:R2)(ta tb:TE):TE:=λ σ H Q=>ta σ H λ x H1=>tb σ H1 λ y H2=>r x y H2 Q
noncomputable def rI (C:Int->Int->Prop)(g:Int->Int->V):R2:=λ x y H Q=>∃ i j,x = .int i/\y = .int j/\C i j/\Q (g i j) H
noncomputable def rI0 (g:Int->Int->V):R2:=λ x y H Q=>∃ i j,x = .int i/\y = .int j/\Q (g i j) H
section
variable {X:Cx}{a b c:Expr}{ta tb tc:TE}{pos:Pos}
theorem binT (ha:PE X a ta)(hb:PE X b tb){pins:List (Addr×Obj)}{s:Shared}{σ:St}{H:Hp}{R:V->V->Hp->Prop}(I:Inv X pins σ H s)(h:ta σ H λ x H1=>tb σ H1 λ y H2=>R x y H2){Q:Value->Shared->Prop}{f:Value->Value->Sem Value}(hf:∀ v u s2 x y H2,Inv X pins σ H2 s2->Zx x v->Zx y u->R x y H2->wpAny (model X.prog X.w) X.A (f v u) Q X.xe s2) :
    wpAny (model X.prog X.w) X.A (eval a X.env) (λ v s₁=>wpAny (model X.prog X.w) X.A (eval b X.env) (λ u s₂=>wpAny (model X.prog X.w) X.A (f v u) Q X.xe s₂) X.xe s₁) X.xe s:=by
  refine thn (ha pins s σ H _ I h) λ v s1 zz9=>?_;obtain⟨x,H1,I1,r1,q1⟩:=zz9;refine thn (hb pins s1 σ H1 _ I1 q1) λ u s2 zz9=>?_;obtain⟨y,H2,I2,r2,q2⟩:=zz9;exact hf v u s2 x y H2 I2 r1 r2 q2
theorem Zn {op:Operator}{r:R2}(ho:OpR X (binaryOp op) r)(ha:PE X a ta)(hb:PE X b tb):PE X (.BinOp a op b pos) (tOp r ta tb):=by
 refine⟨?_⟩;intro pins s σ H Q I h;exact wpAny_BinOp (binT ha hb I h λ v u s2 x y H2 I2 rx ry q=>ho pins s2 σ H2 x y v u Q I2 rx ry q)
theorem opI {f:Value->Value->Sem Value}{C:Int->Int->Prop}{g:Int->Int->Int}(rule:∀(i j:Int)(t u:Tok)(s:Shared)(Q:Value->Shared->Prop)(E:Value->Shared->Prop),C i j->Q (.int (g i j) s.toks) { s with toks:=s.toks+1 }->wpAny (model X.prog X.w) X.A (f (.int i t) (.int j u)) Q E s) :
    OpR X f (rI C λ i j => .int (g i j)):=by
  intro pins s σ H x y v u Q I rx ry h;obtain⟨i,j,rfl,rfl,hc,q⟩:=h;obtain⟨t,rfl⟩:=rx;obtain⟨t',rfl⟩:=ry;exact rule i j t t' s _ _ hc ⟨.int (g i j),H,I.tok _,⟨_,rfl⟩,q⟩
theorem opI0 {f:Value->Value->Sem Value}{g:Int->Int->Int}(rule:∀(i j:Int)(t u:Tok)(s:Shared)(Q:Value->Shared->Prop)(E:Value->Shared->Prop),Q (.int (g i j) s.toks) { s with toks:=s.toks+1 }->wpAny (model X.prog X.w) X.A (f (.int i t) (.int j u)) Q E s) :
    OpR X f (rI0 λ i j => .int (g i j)):=by
  intro pins s σ H x y v u Q I rx ry h;obtain⟨i,j,rfl,rfl,q⟩:=h;obtain⟨t,rfl⟩:=rx;obtain⟨t',rfl⟩:=ry;exact rule i j t t' s _ _ ⟨.int (g i j),H,I.tok _,⟨_,rfl⟩,q⟩
theorem opB0 {f:Value->Value->Sem Value}{g:Int->Int->Bool}(rule:∀(i j:Int)(t u:Tok)(s:Shared)(Q:Value->Shared->Prop)(E:Value->Shared->Prop),Q (.bool (g i j)) s->wpAny (model X.prog X.w) X.A (f (.int i t) (.int j u)) Q E s) :
    OpR X f (rI0 λ i j => .bl (g i j)):=by
  intro pins s σ H x y v u Q I rx ry h;obtain⟨i,j,rfl,rfl,q⟩:=h;obtain⟨t,rfl⟩:=rx;obtain⟨t',rfl⟩:=ry;exact rule i j t t' s _ _ ⟨.bl (g i j),H,I,rfl,q⟩
noncomputable def CDiv (i j:Int):Prop:=0<j/\j<1073741824
noncomputable def CPow (i j:Int):Prop:=0<=j/\j<=1000000/\i.natAbs<2 ^ 64
noncomputable def CMul (i j:Int):Prop:=(-(2 ^ 64)<i/\i<2 ^ 64)\/(-(2 ^ 64)<j/\j<2 ^ 64)
theorem CMul.ok {i j:Int}(h:CMul i j):IntMulOk i j:=by
  rcases h with ⟨h1,h2⟩|⟨h1,h2⟩
  . exact .of_left (intBits_le_64 h1 h2)
  . exact .of_right (intBits_le_64 h1 h2)
theorem Z5:OpR X (binaryOp .Add) (rI0 λ i j => .int (i+j)):=opI0 λ _ _ _ _ _ _ _ q=>add_int q
theorem ZcH:OpR X (binaryOp .Sub) (rI0 λ i j => .int (i - j)):=opI0 λ _ _ _ _ _ _ _ q=>sub_int q
theorem ZaE:OpR X (binaryOp .Mult) (rI CMul λ i j => .int (i * j)):=opI λ _ _ _ _ _ _ _ hc q=>mul_int q hc.ok
theorem YZ:OpR X (binaryOp .FloorDiv) (rI CDiv λ i j => .int (i / j)):=opI λ i j _ _ _ _ _ hc q=>by
 have h1:(0:Int)<j:=hc.1;have h2:j<1073741824:=hc.2;exact floordiv_int (by omega) (by rw[Int.fdiv_eq_ediv_of_nonneg i (by omega)];exact q) (.inl (PyProof.noPylong_small (by omega)))
theorem Yq:OpR X (binaryOp .Mod) (rI (λ _ j=>0<j) λ i j => .int (i % j)):=opI λ i j _ _ _ _ _ hc q=>by
 have h1:(0:Int)<j:=hc;exact mod_int' (by omega) (by rw[Int.fmod_eq_emod_of_nonneg i (by omega)];exact q)
theorem op_pow:OpR X (binaryOp .Pow) (rI CPow λ i j => .int (i ^ j.toNat)):=opI λ _ _ _ _ _ _ _ hc q=>pow_int_small hc.1 hc.2.1 hc.2.2 q
end
noncomputable def scal:V->V->Bool
  |.non, .non=>true|.non, .int _=>true|.int _, .non=>true|.non, .bl _=>true|.bl _, .non=>true|.non, .str _=>true|.str _, .non=>true
  |.int _, .int _=>true|.bl _, .bl _=>true|.str _, .str _=>true|.byt _, .byt _=>true
  |.int _, .str _=>true|.str _, .int _=>true|.bl _, .str _=>true|.str _, .bl _=>true
  |_,_=>false
noncomputable def rEq:R2:=λ x y H Q=>scal x y=true/\Q (.bl (decide (x=y))) H
noncomputable def rNe:R2:=λ x y H Q=>scal x y=true/\Q (.bl (!decide (x=y))) H
theorem Zge {i j:Int}:decide (V.int i=V.int j)=(i == j):=by
 rw[Bool.eq_iff_iff];simp
theorem Zh0 {i j:Bool}:decide (V.bl i=V.bl j)=(i == j):=by
 rw[Bool.eq_iff_iff];simp
theorem Zgd {i j:Str}:decide (V.str i=V.str j)=(i == j):=by
 rw[Bool.eq_iff_iff];simp
theorem Zgf {i j:Array UInt8}:decide (V.byt i=V.byt j)=(i.toList == j.toList):=by
 rw[Bool.eq_iff_iff];cases i;cases j;simp
section
variable {X:Cx}{a b c:Expr}{ta tb tc:TE}{pos:Pos}
theorem ZE {pins:List (Addr×Obj)}{σ:St}{H:Hp}{s:Shared}{Q:VK}{k k':Bool}(I:Inv X pins σ H s)(q:Q (.bl k) H)(e:k=k'):EP X pins σ Q (.bool k') s:=by
 subst e;exact⟨.bl k,H,I,rfl,q⟩
theorem YK:OpR X (compareOp .Eq) rEq:=by
  intro pins s σ H x y v u Q I rx ry h;obtain⟨hs,q⟩:=h;cases x with
  |non=>
    cases rx;cases y with
    |non=>cases ry;exact PySem.EqNone.eq_none_none (ZE I q (by simp))
    |bl j=>cases ry;exact PySem.EqNone.eq_none_bool (ZE I q (by simp))
    |int j=>obtain⟨t',rfl⟩:=ry;exact PySem.EqNone.eq_none_int (ZE I q (by simp))
    |str j=>obtain⟨t',rfl⟩:=ry;exact PySem.EqNone.eq_none_str (ZE I q (by simp))
    |_=>exact absurd (show false=true from hs) Bool.false_ne_true
  |bl i=>
    cases rx;cases y with
    |non=>cases ry;exact PySem.EqNone.eq_bool_none (ZE I q (by simp))
    |bl j=>cases ry;exact eq_bool (ZE I q Zh0)
    |str j=>obtain⟨t',rfl⟩:=ry;exact PySem.EqMixed.eq_bool_str (ZE I q (by simp))
    |_=>exact absurd (show false=true from hs) Bool.false_ne_true
  |int i=>
    obtain⟨t,rfl⟩:=rx;cases y with
    |non=>cases ry;exact PySem.EqNone.eq_int_none (ZE I q (by simp))
    |int j=>obtain⟨t',rfl⟩:=ry;exact eq_int (ZE I q Zge)
    |str j=>obtain⟨t',rfl⟩:=ry;exact PySem.EqMixed.eq_int_str (ZE I q (by simp))
    |_=>exact absurd (show false=true from hs) Bool.false_ne_true
  |str i=>
    obtain⟨t,rfl⟩:=rx;cases y with
    |non=>cases ry;exact PySem.EqNone.eq_str_none (ZE I q (by simp))
    |bl j=>cases ry;exact PySem.EqMixed.eq_str_bool (ZE I q (by simp))
    |int j=>obtain⟨t',rfl⟩:=ry;exact PySem.EqMixed.eq_str_int (ZE I q (by simp))
    |str j=>obtain⟨t',rfl⟩:=ry;exact eq_str (ZE I q Zgd)
    |_=>exact absurd (show false=true from hs) Bool.false_ne_true
  |byt i=>
    obtain⟨t,rfl⟩:=rx;cases y with
    |byt j=>obtain⟨t',rfl⟩:=ry;exact PySem.W.eq_bytes (ZE I q Zgf)
    |_=>exact absurd (show false=true from hs) Bool.false_ne_true
  |_=>cases y <;> exact absurd (show false=true from hs) Bool.false_ne_true
theorem ZfT:OpR X (compareOp .NotEq) rNe:=by
  intro pins s σ H x y v u Q I rx ry h;obtain⟨hs,q⟩:=h;cases x with
  |non=>
    cases rx;cases y with
    |non=>cases ry;exact PySem.EqNone.ne_none_none (ZE I q (by simp))
    |bl j=>cases ry;exact PySem.EqNone.ne_none_bool (ZE I q (by simp))
    |int j=>obtain⟨t',rfl⟩:=ry;exact PySem.EqNone.ne_none_int (ZE I q (by simp))
    |str j=>obtain⟨t',rfl⟩:=ry;exact PySem.EqNone.ne_none_str (ZE I q (by simp))
    |_=>exact absurd (show false=true from hs) Bool.false_ne_true
  |bl i=>
    cases rx;cases y with
    |non=>cases ry;exact PySem.EqNone.ne_bool_none (ZE I q (by simp))
    |bl j=>cases ry;exact ne_bool (ZE I q (congrArg not Zh0))
    |str j=>obtain⟨t',rfl⟩:=ry;exact PySem.EqMixed.ne_bool_str (ZE I q (by simp))
    |_=>exact absurd (show false=true from hs) Bool.false_ne_true
  |int i=>
    obtain⟨t,rfl⟩:=rx;cases y with
    |non=>cases ry;exact PySem.EqNone.ne_int_none (ZE I q (by simp))
    |int j=>obtain⟨t',rfl⟩:=ry;exact ne_int (ZE I q (congrArg not Zge))
    |str j=>obtain⟨t',rfl⟩:=ry;exact PySem.EqMixed.ne_int_str (ZE I q (by simp))
    |_=>exact absurd (show false=true from hs) Bool.false_ne_true
  |str i=>
    obtain⟨t,rfl⟩:=rx;cases y with
    |non=>cases ry;exact PySem.EqNone.ne_str_none (ZE I q (by simp))
    |bl j=>cases ry;exact PySem.EqMixed.ne_str_bool (ZE I q (by simp))
    |int j=>obtain⟨t',rfl⟩:=ry;exact PySem.EqMixed.ne_str_int (ZE I q (by simp))
    |str j=>obtain⟨t',rfl⟩:=ry;exact ne_str (ZE I q (congrArg not Zgd))
    |_=>exact absurd (show false=true from hs) Bool.false_ne_true
  |byt i=>
    obtain⟨t,rfl⟩:=rx;cases y with
    |byt j=>obtain⟨t',rfl⟩:=ry;exact PySem.W.ne_bytes (ZE I q (congrArg not Zgf))
    |_=>exact absurd (show false=true from hs) Bool.false_ne_true
  |_=>cases y <;> exact absurd (show false=true from hs) Bool.false_ne_true
theorem ZbG:OpR X (compareOp .Lt) (rI0 λ i j => .bl (decide (i<j))):=opB0 λ _ _ _ _ _ _ _ q=>lt_int q
theorem ZfU:OpR X (compareOp .LtE) (rI0 λ i j => .bl (decide (i<=j))):=opB0 λ _ _ _ _ _ _ _ q=>le_int q
theorem Zan:OpR X (compareOp .Gt) (rI0 λ i j => .bl (decide (j<i))):=opB0 λ _ _ _ _ _ _ _ q=>gt_int q
theorem op_ge:OpR X (compareOp .GtE) (rI0 λ i j => .bl (decide (j<=i))):=opB0 λ _ _ _ _ _ _ _ q=>ge_int q
theorem Zgw:OpR X (compareOp .Lt) (λ x y H Q=>∃ i j,x = .str i/\y = .str j/\Q (.bl (decide (i.cps.toList<j.cps.toList))) H):=by
 intro pins s σ H x y v u Q I rx ry h;obtain⟨i,j,rfl,rfl,q⟩:=h;obtain⟨t,rfl⟩:=rx;obtain⟨t',rfl⟩:=ry;exact lt_str (ZE I q rfl)
theorem Zt (b:Expr){op:CmpOp}(h:op ≠ .In:=by decide)(h2:op ≠ .NotIn:=by decide):behindInMarks op b=false:=by
 have e1:(op == CmpOp.In)=false:=by cases op <;> first|rfl|exact absurd rfl h
 have e2:(op == CmpOp.NotIn)=false:=by cases op <;> first|rfl|exact absurd rfl h2
 cases b <;> simp[behindInMarks,e1,e2]
theorem Zb9 {op:CmpOp}{r:R2}(ho:OpR X (compareOp op) r)(ha:PE X a ta)(hb:PE X b tb)(hm:behindInMarks op b=false):PE X (.Compare a [op] [b] pos) (tOp r ta tb):=by
 refine⟨?_⟩;intro pins s σ H Q I h;exact wpAny_Compare1 (binT ha hb I h λ v u s2 x y H2 I2 rx ry q=>ho pins s2 σ H2 x y v u Q I2 rx ry q) hm
noncomputable def tTest (t:TE):TT:=λ σ H Q=>t σ H λ x H'=>∃ k,x = .bl k/\Q k H'
theorem Zq {op:CmpOp}{r:R2}(ho:OpR X (compareOp op) r)(ha:PE X a ta)(hb:PE X b tb)(hm:behindInMarks op b=false):PT X (.Compare a [op] [b] pos) (tTest (tOp r ta tb)):=by
  refine⟨?_⟩;intro pins s σ H Q I h;refine wpAny_isTrue_Compare1 (thn (ha pins s σ H _ I h) λ v s1 ⟨x,H1,I1,r1,q1⟩=>thn (hb pins s1 σ H1 _ I1 q1) λ u s2 ⟨y,H2,I2,r2,q2⟩=>
    thn (ho pins s2 σ H2 x y v u _ I2 r1 r2 q2) λ c s3 ⟨z,H3,I3,r3,k,e,q3⟩=>?_) hm
  subst e;cases r3;exact wpAny_truthy_bool ⟨H3,I3,q3⟩
noncomputable def tChain (r r':R2)(ta tb tc:TE):TE:=λ σ H Q=>ta σ H λ x H1=>tb σ H1 λ y H2=>r x y H2 λ z H3=>∃ k,z = .bl k /\
 (if k=true then tc σ H3 λ w' H4=>r' y w' H4 Q else Q (.bl false) H3)
theorem ZeM {op op':CmpOp}{r r':R2}(ho:OpR X (compareOp op) r)(ho':OpR X (compareOp op') r')(ha:PE X a ta)(hb:PE X b tb)(hc:PE X c tc)(hm:lastMarks [op,op'] [b,c]=false:=by with_unfolding_all rfl):PE X (.Compare a [op,op'] [b,c] pos) (tChain r r' ta tb tc):=by
  refine⟨?_⟩;intro pins s σ H Q I h;refine Compare_chain (thn (ha pins s σ H _ I h) λ v s1 ⟨x,H1,I1,r1,q1⟩=>chain_link (thn (hb pins s1 σ H1 _ I1 q1) λ u s2 ⟨y,H2,I2,r2,q2⟩=>
    thn (ho pins s2 σ H2 x y v u _ I2 r1 r2 q2) λ d s3 ⟨z,H3,I3,r3,k,e,q3⟩=>?_)) hm
  subst e;cases r3;refine wpAny_truthy_bool ?_;cases k with
  |false=>exact ite_ff ⟨.bl false,H3,I3,rfl,q3⟩
  |true=>exact ite_tt (chain_last (thn (hc pins s3 σ H3 _ I3 q3) λ w' s4 ⟨z',H4,I4,r4,q4⟩=>ho' pins s4 σ H4 y z' u w' Q I4 r2 r4 q4))
noncomputable def TruV (K:Frag)(x:V)(H:Hp)(k:Bool):Prop:=
  match x with
  |.non=>k=false
  |.bl b=>k=b
  |.int i=>k=(i != 0)
  |.str y=>y.length<=sizeLine/\k=((y.length:Int) != 0)
  |.byt y=>y.size<=sizeLine/\k=((y.size:Int) != 0)
  |.ref p=>(∃ xs,SqL K H p xs/\k = !xs.isEmpty)\/(∃ xs,SqT K H p xs/\k = !xs.isEmpty)\/∃ kvs,H p=some (.dK kvs)/\k = !kvs.isEmpty
  |_=>False
theorem ZfA {κ:Type}{kvs:List (κ×V)}{vs:List (κ×Value)}(r:KV kvs vs):(!vs.isEmpty) = !kvs.isEmpty:=by
 cases r <;> rfl
theorem Zc2 {xs:List V}{its:List Value}(r:ZG xs its):(!its.toArray.isEmpty) = !xs.isEmpty:=by
 cases r <;> simp
theorem Zbt:(sizeLine:Nat)<2 ^ 63:=by rw[sizeLine_eq];decide
theorem tru_ok:TruR X (λ x H Q=>∃ k,TruV X.K x H k/\Q k H):=by
  intro pins s σ H x v Q I rx h;obtain⟨k,e,q⟩:=h;have hl:=Zbt;have hs:sizeLine=16777216:=sizeLine_eq;cases x with
  |non=>
    cases rx;have e':k=false:=e;subst e';exact truthy_none ⟨H,I,q⟩
  |bl b=>
    cases rx;have e':k=b:=e;subst e';exact wpAny_truthy_bool ⟨H,I,q⟩
  |int i=>
    obtain⟨t,rfl⟩:=rx;have e':k=(i != 0):=e;subst e';exact PySem.P.truthy_int ⟨H,I,q⟩
  |str y=>
    obtain⟨t,rfl⟩:=rx;obtain⟨hy,e'⟩:y.length<=sizeLine/\k=((y.length:Int) != 0):=e;subst e';exact PySem.P.truthy_str (by omega) ⟨H,I.tok _,q⟩
  |byt y=>
    obtain⟨t,rfl⟩:=rx;obtain⟨hy,e'⟩:y.size<=sizeLine/\k=((y.size:Int) != 0):=e;subst e';exact PySem.W.truthy_bytes (by omega) ⟨H,I.tok _,q⟩
  |ref p=>
    cases rx;have e':(∃ xs,SqL X.K H p xs/\k = !xs.isEmpty)\/(∃ xs,SqT X.K H p xs/\k = !xs.isEmpty)\/∃ kvs,H p=some (.dK kvs)/\k = !kvs.isEmpty:=e;rcases e' with ⟨xs,hx,e'⟩|⟨xs,hx,e'⟩|⟨kvs,hx,e'⟩
    . subst e';obtain⟨its,r,pl,hz⟩:=I.list hx;have hlen:=r.length;exact wpAny_truthy_list pl.isList (by simp only[size_toArray];omega) ⟨H,I.tok _,by rw[Zc2 r];exact q⟩
    . subst e';obtain⟨its,r,pl,hz⟩:=I.tuple hx;have hlen:=r.length;exact truthy_tuple pl (by simp only[size_toArray];omega) ⟨H,I.tok _,by rw[Zc2 r];exact q⟩
    . subst e';obtain⟨hz,hS,vs,r,m⟩:kvs.length<=sizeLine/\(p == sysModules)=false/\∃ vs,KV kvs vs/\s.heap.DictOf (ZT X.prog X.w) p vs:=I.hok p _ hx;have hlen:kvs.length=vs.length:=Paired.length r;exact wpAny_truthy_dict hS m (by omega) ⟨H,I.tok _,by rw[ZfA r];exact q⟩
  |_=>exact(show False from e).elim
theorem Za0 (ha:PE X a ta)(he:∀ whole,isTrue a X.env whole=(do let v <- whole;standAt a.pos;holding [v] (truthy v))) :
    PT X a (λ σ H Q=>ta σ H λ x H'=>∃ k,TruV X.K x H' k/\Q k H'):=by
  refine⟨?_⟩;intro pins s σ H Q I h;exact isTrue_plain (thn (ha pins s σ H _ I h) λ v s1 ⟨x,H1,I1,r1,q1⟩=>tru_ok pins s1 σ H1 x v Q I1 r1 q1) (he _)
theorem Yf:OpR X (binaryOp .Add) (λ x y H Q=>∃ i j,x = .str i/\y = .str j/\i.length+j.length<=sizeLine/\Q (.str (i++j)) H):=by
 intro pins s σ H x y v u Q I rx ry h;obtain⟨i,j,rfl,rfl,hz,q⟩:=h;obtain⟨t,rfl⟩:=rx;obtain⟨t',rfl⟩:=ry;exact add_str (λ t' tk=>⟨.str (i++j),H,I.tok _,⟨_,rfl⟩,q⟩) hz
theorem Zah {x:V}{us:List Value}(r:ZG [x] us):∃ u,us=[u]/\Zx x u:=by
  cases r with
  |cons r1 r2=>cases r2;exact⟨_,rfl,r1⟩
theorem vals2 {x y:V}{us:List Value}(r:ZG [x,y] us):∃ u w',us=[u,w']/\Zx x u/\Zx y w':=by
  cases r with
  |cons r1 r2=>
    cases r2 with
    |cons r3 r4=>cases r4;exact⟨_,_,rfl,r1,r3⟩
theorem ZdI (hc:X.calm=true):X1 X (.builtin "max") (λ xs H Q=>∃ i j,xs=[.int i, .int j]/\Q (.int (if j>i then j else i)) H):=by
  intro pins s σ H xs us Q I r h;obtain⟨i,j,rfl,q⟩:=h;obtain⟨u,w',rfl,⟨t,rfl⟩,⟨t',rfl⟩⟩:=vals2 r;refine max_two_ints (I.ok.hd hc) λ h' tk k=>⟨_,H,I.kept k,?_,q⟩
  by_cases hj:j>i
  . rw[if_pos hj,if_pos hj];exact⟨_,rfl⟩
  . rw[if_neg hj,if_neg hj];exact⟨_,rfl⟩
theorem ZgR (hc:X.calm=true):X1 X (.builtin "min") (λ xs H Q=>∃ i j,xs=[.int i, .int j]/\Q (.int (if j<i then j else i)) H):=by
  intro pins s σ H xs us Q I r h;obtain⟨i,j,rfl,q⟩:=h;obtain⟨u,w',rfl,⟨t,rfl⟩,⟨t',rfl⟩⟩:=vals2 r;refine min_two_ints (I.ok.hd hc) λ h' tk k=>⟨_,H,I.kept k,?_,q⟩
  by_cases hj:j<i
  . rw[if_pos hj,if_pos hj];exact⟨_,rfl⟩
  . rw[if_neg hj,if_neg hj];exact⟨_,rfl⟩
theorem Jb:X1 X (.type "str") (λ xs H Q=>∃ i,xs=[.int i]/\i.natAbs.log2<1920/\Q (.str (toString i)) H):=by
 intro pins s σ H xs us Q I r h;obtain⟨i,rfl,hz,q⟩:=h;obtain⟨u,rfl,t,rfl⟩:=Zah r;exact PySem.P.str_of_int hz ⟨.str _,H,I.tok _,⟨_,rfl⟩,q⟩
noncomputable def LenV (K:Frag)(x:V)(H:Hp)(n:Nat):Prop:=
  match x with
  |.str y=>y.length<=sizeLine/\n=y.length
  |.byt y=>y.size<=sizeLine/\n=y.size
  |.ref p=>(∃ xs,SqL K H p xs/\n=xs.length)\/∃ xs,SqT K H p xs/\n=xs.length
  |_=>False
theorem ZD:X1 X (.builtin "len") (λ xs H Q=>∃ x n,xs=[x]/\LenV X.K x H n/\Q (.int n) H):=by
  intro pins s σ H xs us Q I r h;obtain⟨x,n,rfl,e,q⟩:=h;obtain⟨u,rfl,rx⟩:=Zah r;have hl:=Zbt;have hs:sizeLine=16777216:=sizeLine_eq;cases x with
  |str y=>
    obtain⟨t,rfl⟩:=rx;obtain⟨hy,e'⟩:y.length<=sizeLine/\n=y.length:=e;subst e';exact len_str (by omega) ⟨.int _,H,I.tok _,⟨_,rfl⟩,q⟩
  |byt y=>
    obtain⟨t,rfl⟩:=rx;obtain⟨hy,e'⟩:y.size<=sizeLine/\n=y.size:=e;subst e';exact PySem.W.len_bytes (by omega) ⟨.int _,H,I.tok _,⟨_,rfl⟩,q⟩
  |ref p=>
    cases rx;have e':(∃ xs,SqL X.K H p xs/\n=xs.length)\/∃ xs,SqT X.K H p xs/\n=xs.length:=e;rcases e' with ⟨xs,hx,e'⟩|⟨xs,hx,e'⟩
    . subst e';obtain⟨its,r',pl,hz⟩:=I.list hx;have hlen:=r'.length;exact Calls.call_len_list pl.isList (by simp only[size_toArray];omega) ⟨.int xs.length,H,I.tok _,⟨_,by simp only[size_toArray];rw[hlen]⟩,q⟩
    . subst e';obtain⟨its,r',pl,hz⟩:=I.tuple hx;have hlen:=r'.length;exact len_tuple pl (by simp only[size_toArray];omega) ⟨.int xs.length,H,I.tok _,⟨_,by simp only[size_toArray];rw[hlen]⟩,q⟩
  |_=>exact(show False from e).elim
end
open PySem PySem.Spec PyProof.Rows
structure ObjM (h:Heap)(x dx C:Addr)(mA:Str->Option Value):Prop where
  obj:h.get? x=some (instObj C dx)
  ns:h.Ns1 dx mA
  ne:dx≠x
theorem ZgF {h:Heap}{dx:Addr}{mA:Str->Option Value}(n:h.Ns1 dx mA):∃ od,h.get? dx=some od/\∀ name,lookIn name od=some (mA name):=by
  obtain⟨o,es,ep,ho,hd,hk,_,hm⟩:=n;refine⟨o,ho,λ name=>?_⟩;have e:=hm name;unfold nsFind findBy at e;rw[<- Array.find?_toList]at e;unfold lookIn;rw[hd];dsimp only;split
  . rename_i y q;rw[q]at e;exact congrArg some e
  . rename_i q;rw[q]at e;have a:es.toList.any (·.refKey)=false:=by
      rw[List.any_eq_false];intro y hy;obtain⟨z,t,hkey⟩:=hk y (Array.mem_toList_iff.mp hy);simp[DictEntry.refKey,hkey]
    have a':¬ es.toList.any (·.refKey)=true:=by rw[a];exact Bool.false_ne_true
    rw[if_neg a'];exact congrArg some e
theorem ObjM.look {h:Heap}{x dx C:Addr}{mA:Str->Option Value}(I:ObjM h x dx C mA):∃ od,PySem.W.InstAt h x (instObj C dx) C (some od)/\∀ name,lookIn name od=some (mA name):=
 let ⟨od,ho,hl⟩:=ZgF I.ns
 ⟨od,⟨I.obj,rfl,rfl,ho⟩,hl⟩
section
variable {prog:Program}{w:World}{A:Around}{E:Value->Shared->Prop}{s:Shared}{K:Frag}{x dx C f:Addr}{mA:Str->Option Value}{name:Str}{v:Value}
theorem ZiO {expr:Bool}{Q:Value->Shared->Prop}(X:K.In s.heap)(I:ObjM s.heap x dx C mA)(hg:plainGet K C name=true)(hh:hasDictIn K C=true)(ha:findIn K (.ref C) name=some none)(hv:mA name=some v)(hv':PySem.W.handedIn v=true)(h:Q v { s with toks:=s.toks+1 }) :
    wpAny (model prog w) A (getAttr (.ref x) name expr) Q E s:=by
  obtain⟨od,J,hl⟩:=I.look;exact PySem.W.get_value X J (PySem.W.plainGet_of hg).1 (PySem.W.findObj_own hh ha rfl (by rw[hl,hv])) hv' h
theorem ZhQ {pl:Sem Bool}{Q:Value×List Value->Shared->Prop}(X:K.In s.heap)(I:ObjM s.heap x dx C mA)(hg:plainGet K C name=true)(hf:findIn K (.ref C) name=some (some (.ref f)))(ht:isFn K (.ref f)=true)(hv:mA name=none)(h:Q (.ref f,[.ref x]) s) :
    wpAny (model prog w) A (getMethod (.ref x) name pl) Q E s:=by
  obtain⟨od,J,hl⟩:=I.look;exact PySem.W.method_fn X J (PySem.W.plainGet_of hg).1 (PySem.W.plainGet_of hg).2 hf (beq_iff_eq.mp ht) (by show(lookIn name od).map (·.isSome)=some false;rw[hl,hv];rfl) h
theorem Zig {ns:List Str}{Q:Unit->Shared->Prop}(X:K.In s.heap)(I:ObjM s.heap x dx C mA)(hs:findIn K (.ref C) "__setattr__"=some (some (.builtin "object.__setattr__")))(hp:plainOver K C=true)(ht:PySem.W.takerIn K C name=some none)(hh:hasDictIn K C=true)(hw:PySem.Within mA ns)(hsz:ns.length<=sizeLine)(h:∀ h',ObjM h' x dx C (λ y=>if y=name then some v else mA y)->Heap.SameBut dx s.heap h'->Q () { s with heap:=h',toks:=s.toks+2 }) :
    wpAny (model prog w) A (setAttr (.ref x) name v) Q E s:=by
  obtain⟨od,J,hl⟩:=I.look;refine PySem.W.set_plain X J hs (PySem.W.osa_open (s:={ s with toks:=s.toks+1 }) (r:=none) X J hp ht λ b=>?_);obtain⟨cd,hc,hd'⟩:=PySem.W.any_some hh;have hx:s.heap.get? x=some ⟨.ref C,some dx, .plain,#[]⟩:=I.obj;refine wpAny_bind (wpAny_pure (wpAny_bind (wpAny_bind (wpAny_loadPart hx (wpAny_bind (PySem.W.Looks.here (s:={ s with toks:=s.toks+1 }) (PySem.W.looks_clsIn X hc) ?_))))));rw[hd'];refine wpAny_pure (a:=some dx) (wpAny_bind (wpAny_pure (wpAny_bind ?_)));refine wpAny_nsSet1 (s:={ s with toks:=s.toks+1 }) I.ns λ h' hn2 hs2=>?_;obtain⟨oD,esD,epD,hoD,hdD,hcD⟩:=hn2.count (PySem.Within.cons name v hw);refine wpAny_bind (wpAny_lookBehind hoD (by rw[hdD];exact pastItsLine_dict (le_trans hcD (by rw[length_cons];omega))) ?_);exact wpAny_pure (h _ ⟨(hs2.2 _ (Ne.symm I.ne)).trans I.obj,hn2,I.ne⟩ hs2)
theorem Zhx {R:Result->Shared->Prop}{vs:List Value}{kw:List (Str×Value)}(X:K.In s.heap)(hm:makesIn K C=true)(hi:findIn K (.ref C) "__init__"=some (some (.ref f)))(hf:PySem.W.typeIn K (.ref f)=some (.type "function"))(h:codeAny (model prog w) (A.under (.builtin "type.__call__" ⟨.ref C::vs,kw⟩)) (.call (.ref f) ⟨.ref (s.heap.objs.size+1)::vs,kw⟩) (PySem.W.InitBack (s.heap.objs.size+1) R)
      { s with heap:=(s.heap.push emptyDict).push (instObj C s.heap.objs.size) }) :
    codeAny (model prog w) A (.call (.ref C) ⟨vs,kw⟩) R s:=by
  obtain⟨hh,g,d,t,os⟩:=s;exact PySem.W.make_core (PySem.W.makes_of X hm) (PySem.W.looks_findIn X hi) (λ self=>PySem.W.bind_fn X self hf) (.inl rfl) h
end
noncomputable def JM (f:Str)(v:V):List (Str×V)->List (Str×V)
  |[]=>[(f,v)]
  |(g,x)::r=>if g=f then (g,v)::r else (g,x)::JM f v r
theorem ZbH (f g:Str)(v:V):∀ fs:List (Str×V),(JM f v fs).lookup g=if g=f then some v else fs.lookup g
  | []=>by
    show List.lookup g [(f,v)]=_
    by_cases h:g=f
    . have hb:(g == f)=true:=beq_iff_eq.mpr h;simp only[List.lookup,hb,if_pos h]
    . have hb:(g == f)=false:=beq_eq_false_iff_ne.mpr h;simp only[List.lookup,hb,if_neg h]
  | (k,x)::r=>by
    have ih:=ZbH f g v r;rw[show JM f v ((k,x)::r)=(if k=f then (k,v)::r else (k,x)::JM f v r) from rfl]
    by_cases hk:k=f
    . rw[if_pos hk]
      by_cases h:g=k
      . have hb:(g == k)=true:=beq_iff_eq.mpr h;simp only[List.lookup,hb,if_pos (h.trans hk)]
      . have hb:(g == k)=false:=beq_eq_false_iff_ne.mpr h;simp only[List.lookup,hb,if_neg (λ e:g=f=>h (e.trans hk.symm))]
    . rw[if_neg hk]
      by_cases h:g=k
      . have hb:(g == k)=true:=beq_iff_eq.mpr h;simp only[List.lookup,hb,if_neg (λ e:g=f=>hk (h.symm.trans e))]
      . have hb:(g == k)=false:=beq_eq_false_iff_ne.mpr h;simp only[List.lookup,hb];exact ih
theorem Zbw (f:Str)(v:V):∀ fs:List (Str×V),f∈(JM f v fs).map (·.1)/\∀ g,g∈fs.map (·.1)->g∈(JM f v fs).map (·.1)
  |[]=>⟨by simp[JM],λ g h=>by simp at h⟩
  | (k,x)::r=>by
    obtain⟨i1,i2⟩:=Zbw f v r;rw[show JM f v ((k,x)::r)=(if k=f then (k,v)::r else (k,x)::JM f v r) from rfl]
    by_cases hk:k=f
    . rw[if_pos hk];subst hk;exact⟨by simp,λ g h=>by simpa using h⟩
    . rw[if_neg hk];refine⟨?_,λ g h=>?_⟩
      . rw[map_cons];exact mem_cons_of_mem _ i1
      . rw[map_cons]at h ⊢;rcases List.mem_cons.mp h with e|e
        . exact List.mem_cons.mpr (.inl e)
        . exact mem_cons_of_mem _ (i2 g e)
theorem ZbI (f:Str)(v:V):∀ fs:List (Str×V),(JM f v fs).length<=fs.length+1
  |[]=>by simp[JM]
  | (k,x)::r=>by
    have ih:=ZbI f v r;rw[show JM f v ((k,x)::r)=(if k=f then (k,v)::r else (k,x)::JM f v r) from rfl]
    by_cases hk:k=f
    . rw[if_pos hk,length_cons,length_cons];omega
    . rw[if_neg hk,length_cons,length_cons];omega
theorem Jl.some_of {v:V}{o:Option Value}(r:Jl (some v) o):∃ u,o=some u/\Zx v u:=by
  cases o with
  |none=>exact(show False from r).elim
  |some u=>exact⟨u,rfl,r⟩
theorem Jl.none_of {o:Option Value}(r:Jl none o):o=none:=by
  cases o with
  |none=>rfl
  |some u=>exact(show False from r).elim
theorem ZgN {v:V}{u:Value}(r:Zx v u):PySem.W.handedIn u=true:=by
  cases v with
  |non=>cases (show u=Value.none from r);rfl
  |bl b=>cases (show u=Value.bool b from r);rfl
  |int i=>obtain⟨t,e⟩:=(show ∃ t,u=Value.int i t from r);cases e;rfl
  |str x=>obtain⟨t,e⟩:=(show ∃ t,u=Value.str x t from r);cases e;rfl
  |byt b=>obtain⟨t,e⟩:=(show ∃ t,u=Value.bytes b t from r);cases e;rfl
  |flt b=>obtain⟨t,e⟩:=(show ∃ t,u=Value.float b t from r);cases e;rfl
  |ref a=>cases (show u=Value.ref a from r);rfl
  |ty n=>cases (show u=Value.type n from r);rfl
section
variable {P:Program}{w:World}{H H':Hp}{h h':Heap}{a C dx:Addr}{fs fs':List (Str×V)}
theorem Zca (hok:HOk P w H h)(e:H a=some (.ins C dx fs)):∃ mA,ObjM h a dx C mA/\(∀ f,Jl (fs.lookup f) (mA f))/\PySem.Within mA (fs.map (·.1))/\fs.length<=1000/\H dx=some (.own a):=by
 obtain⟨d,z,ne,ob,mA,n,r,q⟩:=(show ZV P w H h a (.ins C dx fs) from hok a _ e);exact⟨mA,⟨ob,n,ne⟩,r,q,z,d⟩
end
structure Cls (K:Frag)(C:Addr):Prop where
  pg:plainGet K C Str.empty=true
  hd:hasDictIn K C=true
  po:plainOver K C=true
  sa:findIn K (.ref C) "__setattr__"=some (some (.builtin "object.__setattr__"))
theorem Cls.get {K:Frag}{C:Addr}(c:Cls K C)(f:Str):plainGet K C f=true:=c.pg
noncomputable def YV (K:Frag)(C:Addr)(f:Str):Prop:=findIn K (.ref C) f=some none
theorem YV.taker {K:Frag}{C:Addr}{f:Str}(n:YV K C f):PySem.W.takerIn K C f=some none:=by
 unfold PySem.W.takerIn;rw[show findIn K (.ref C) f=some none from n];rfl
structure Meth (K:Frag)(C:Addr)(m:Str)(f:Addr):Prop where
  at_:findIn K (.ref C) m=some (some (.ref f))
  fn:isFn K (.ref f)=true
  kp:keepIn K (.ref f)=true
section
variable {X:Cx}{pins:List (Addr×Obj)}{σ:St}{H:Hp}{s:Shared}{a C dx:Addr}{fs:List (Str×V)}{f:Str}{v:V}{A:Around}{E:Value->Shared->Prop}
theorem Zc4 {b:Bool}{Q:Value->Shared->Prop}(I:Inv X pins σ H s)(e:H a=some (.ins C dx fs))(c:Cls X.K C)(n:YV X.K C f)(l:fs.lookup f=some v)(h:∀ u s',Inv X pins σ H s'->Zx v u->Q u s'):wpAny (model X.prog X.w) A (getAttr (.ref a) f b) Q E s:=by
 obtain⟨mA,O,r,_,_,_⟩:=Zca I.hok e;obtain⟨u,hu,ru⟩:=Jl.some_of (v:=v) (o:=mA f) (by rw[<- l];exact r f);exact ZiO I.kIn O (c.get f) c.hd n hu (ZgN ru) (h u _ (I.tok _) ru)
theorem ZfC {m:Str}{g:Addr}{pl:Sem Bool}{Q:Value×List Value->Shared->Prop}(I:Inv X pins σ H s)(e:H a=some (.ins C dx fs))(c:Cls X.K C)(k:Meth X.K C m g)(l:fs.lookup m=none)(h:Q (.ref g,[.ref a]) s):wpAny (model X.prog X.w) A (getMethod (.ref a) m pl) Q E s:=by
 obtain⟨mA,O,r,_,_,_⟩:=Zca I.hok e;have hn:mA m=none:=Jl.none_of (by rw[<- l];exact r m);exact ZhQ I.kIn O (c.get m) k.at_ k.fn hn h
theorem Zcm {y:V}{u:Value}{Q:Unit->Shared->Prop}(I:Inv X pins σ H s)(e:H a=some (.ins C dx fs))(c:Cls X.K C)(n:YV X.K C f)(hl:fs.length<1000)(ry:Zx y u)(h:∀ s',Inv X pins σ (upd H a (.ins C dx (JM f y fs))) s'->Q () s'):wpAny (model X.prog X.w) A (setAttr (.ref a) f u) Q E s:=by
  obtain⟨mA,O,r,wi,_,ho⟩:=Zca I.hok e;have hz:(fs.map (·.1)).length<=sizeLine:=by rw[length_map,sizeLine_eq];omega
  refine Zig I.kIn O c.sa c.po n.taker c.hd wi hz λ h' O' sb=>h _ ?_;have hd:∃ o,h'.get? dx=some o:=let ⟨o,_,_,e',_⟩:=O'.ns;⟨o,e'⟩;refine I.write (x:=a) (e:=dx) (by rw[e];exact True.intro) (.inr ho) (λ b q hb z=>(sb.2 b hb).trans z) hd ?_;refine⟨by rw[Ze O.ne];exact ho,?_,O.ne,O'.obj,_,O'.ns,λ g=>?_,λ g hg=>?_⟩
  . have:=ZbI f y fs;omega
  . show Jl ((JM f y fs).lookup g) (if g=f then some u else mA g);rw[ZbH]
    by_cases q:g=f
    . rw[if_pos q,if_pos q];exact ry
    . rw[if_neg q,if_neg q];exact r g
  . by_cases q:g=f
    . rw[q];exact(Zbw f y fs).1
    . refine(Zbw f y fs).2 g (wi g λ z=>hg ?_);show(if g=f then some u else mA g)=none;rw[if_neg q];exact z
theorem Inv.made (I:Inv X pins σ H s):Inv X pins σ (upd (upd H s.heap.objs.size (.own (s.heap.objs.size+1))) (s.heap.objs.size+1) (.ins C s.heap.objs.size []))
    { s with heap:=(s.heap.push emptyDict).push (instObj C s.heap.objs.size) }:=by
  have e1:(s.heap.push emptyDict).get? s.heap.objs.size=some emptyDict:=Heap.get?_push_size s.heap rfl;have e2:((s.heap.push emptyDict).push (instObj C s.heap.objs.size)).get? (s.heap.objs.size+1)=some (instObj C s.heap.objs.size):=by
    have:=Heap.get?_push_size (s.heap.push emptyDict) (o:=instObj C s.heap.objs.size) rfl
    rwa [Heap.size_push]at this
  have e3:(s.heap.push emptyDict).Ns s.heap.objs.size (λ _=>none):=⟨emptyDict,#[],_,e1,rfl,(λ e he=>absurd he (by simp)),λ _=>rfl⟩;have I1:=I.laid (a:=s.heap.objs.size) (o:=.own (s.heap.objs.size+1)) (h':=s.heap.push emptyDict) (t':=s.toks) (λ b u q=>Heap.get?_push_of_some _ q) (le_refl _) ⟨_,e1⟩;refine I1.laid (a:=s.heap.objs.size+1) (o:=.ins C s.heap.objs.size []) (t':=s.toks) (λ b u q=>Heap.get?_push_of_some _ q) (Nat.le_of_eq (Heap.size_push _ _)) ?_;have ne:s.heap.objs.size≠s.heap.objs.size+1:=ne_of_lt (Nat.lt_succ_self _);refine⟨by rw[Ze ne,Zb],zero_le _,ne,e2,λ _=>none,(Heap.Ns1.of_empty e3).at λ o q=>Heap.get?_push_of_some _ q,λ _=>True.intro,λ y hy=>absurd rfl hy⟩
theorem ZiV {prog:Program}{w:World}{env:Env}{e:Expr}{f:Str}{pos:Pos}{s:Shared}{Q:Value->Shared->Prop}(hb:attributeBase e f env (eval e env)=eval e env)(h:wpAny (model prog w) A (eval e env) (λ o s₁=>wpAny (model prog w) A (getAttr o f true) Q E s₁) E s):wpAny (model prog w) A (eval (.Attribute e f pos) env) Q E s:=
 Attribute_any_ h (by rw[arm_eval_Attribute,hb])
end
noncomputable def tFld (K:Frag)(ta:TE)(f:Str):TE:=λ σ H Q=>ta σ H λ x H1=>∃ a C dx fs v,x = .ref a/\H1 a=some (.ins C dx fs)/\Cls K C/\YV K C f/\fs.lookup f=some v/\Q v H1
noncomputable def sFld (K:Frag)(ta tv:TE)(f:Str):TS:=λ D σ H=>tv σ H λ y H1=>ta σ H1 λ x H2=>∃ a C dx fs,x = .ref a/\H2 a=some (.ins C dx fs)/\Cls K C/\YV K C f/\fs.length<1000 /\
 D.nx σ (upd H2 a (.ins C dx (JM f y fs)))
noncomputable def InOp (X:Cx)(op:Operator)(rd:V->V->Hp->VK->Prop):Prop:=
 ∀(pins:List (Addr×Obj))(s:Shared)(σ:St)(H:Hp)(x y:V)(u v:Value)(Q:VK),Inv X pins σ H s->Zx x u->Zx y v->rd x y H Q->wpAny (model X.prog X.w) X.A (inplaceOp op u v) (EP X pins σ Q) X.xe s
noncomputable def Zii (K:Frag)(ta tv:TE)(rd:V->V->Hp->VK->Prop)(f:Str):TS:=λ D σ H=>ta σ H λ x H1=>∃ a C dx fs v,x = .ref a/\H1 a=some (.ins C dx fs)/\Cls K C/\YV K C f/\fs.lookup f=some v /\
 tv σ H1 λ y H2=>rd v y H2 λ z H3=>∃ dx' fs',H3 a=some (.ins C dx' fs')/\fs'.length<1000/\D.nx σ (upd H3 a (.ins C dx' (JM f z fs')))
section
variable {X:Cx}{o e value:Expr}{f:Str}{pos pos' tpos:Pos}{ta tv:TE}
theorem ZM (he:PE X e ta)(hb:attributeBase e f X.env (eval e X.env)=eval e X.env):PE X (.Attribute e f pos) (tFld X.K ta f):=by
 refine⟨?_⟩;intro pins s σ H Q I h;refine ZiV hb (thn (he pins s σ H _ I h) λ u s1 zz9=>?_);obtain⟨x,H1,I1,rx,a,C,dx,fs,v,ex,ea,c,n,l,q⟩:=zz9;subst ex;obtain rfl:u=Value.ref a:=rx;exact Zc4 I1 ea c n l λ u' s2 I2 ru=>⟨v,H1,I2,ru,q⟩
theorem Zbo (ha:PE X o ta)(hv:PE X value tv)(hs:swapsWith value (some (.Attribute o f pos')) pos.line X.env=pure false):PS X (.Assign [.Attribute o f pos'] value pos) (sFld X.K ta tv f):=by
 refine⟨?_⟩;intro pins s σ H D I h;refine plainObj_wpAny_Assign_Attribute (thn (hv pins s σ H _ I h) λ u s1 ⟨y,H1,I1,ry,q⟩=>thn (ha pins s1 σ H1 _ I1 q) λ ov s2 zz9=>?_) hs;obtain⟨x,H2,I2,rx,a,C,dx,fs,ex,ea,c,n,l,q2⟩:=zz9;subst ex;obtain rfl:ov=Value.ref a:=rx;exact Zcm I2 ea c n l ry λ s3 I3=>⟨σ,_,I3,q2⟩
theorem Zgu {op:Operator}{rd:V->V->Hp->VK->Prop}(ha:PE X o ta)(hv:PE X value tv)(hop:InOp X op rd):PS X (.AugAssign (.Attribute o f tpos) op value pos) (Zii X.K ta tv rd f):=by
 refine⟨?_⟩;intro pins s σ H D I h;refine wpAny_AugAssign_AttributeAny (thn (ha pins s σ H _ I h) λ ov s1 zz9=>?_);obtain⟨x,H1,I1,rx,a,C,dx,fs,v,ex,ea,c,n,l,q⟩:=zz9;subst ex;obtain rfl:ov=Value.ref a:=rx;refine Zc4 I1 ea c n l λ u s2 I2 ru=>thn (hv pins s2 σ H1 _ I2 q) λ w3 s3 ⟨y,H2,I3,ry,q3⟩=>thn (hop pins s3 σ H2 v y u w3 _ I3 ru ry q3) λ w4 s4 zz9=>?_;obtain⟨z,H3,I4,rz,dx',fs',ea',l',q4⟩:=zz9;exact Zcm I4 ea' c n l' rz λ s5 I5=>⟨σ,_,I5,q4⟩
noncomputable def rAdd:V->V->Hp->VK->Prop:=λ x y H Q=>∃ i j,x = .int i/\y = .int j/\Q (.int (i+j)) H
theorem in_add:InOp X .Add rAdd:=by
 rintro pins s σ H x y u v Q I rx ry ⟨i,j,rfl,rfl,q⟩;obtain⟨t,rfl⟩:=(show ∃ t,u=Value.int i t from rx);obtain⟨t',rfl⟩:=(show ∃ t',v=Value.int j t' from ry);exact PyProof.Rows.iadd_int ⟨.int (i+j),H,I.tok _,⟨_,rfl⟩,q⟩
end
section
variable {X:Cx}{pins:List (Addr×Obj)}{σ:St}{H:Hp}{s:Shared}{A:Around}{E:Value->Shared->Prop}{Q:Value->Shared->Prop}{c:Value}{b:Bool}
inductive TyOf (K:Frag)(H:Hp):V->Value->Prop where
  | non:TyOf K H .non (.type "NoneType")
  | bl (x:Bool):TyOf K H (.bl x) (.type "bool")
  | int (i:Int):TyOf K H (.int i) (.type "int")
  | str (x:Str):TyOf K H (.str x) (.type "str")
  | flt (x:UInt64):TyOf K H (.flt x) (.type "float")
  | lst {a:Addr} {xs:List V} (e:H a=some (.lst xs)):TyOf K H (.ref a) (.type "list")
  | frz {a:Addr} {o:Obj} {xs:List V} (e:H a=some (.frz o (.lst xs))):TyOf K H (.ref a) (.type "list")
  | tup {a:Addr} {xs:List V} (e:H a=some (.tup xs)):TyOf K H (.ref a) (.type "tuple")
  | dK {a:Addr} {kvs:List (Key×V)} (e:H a=some (.dK kvs)):TyOf K H (.ref a) (.type "dict")
  | dT {a:Addr} {kvs:List (List Key×V)} (e:H a=some (.dT kvs)):TyOf K H (.ref a) (.type "dict")
  | ins {a C dx:Addr} {fs:List (Str×V)} (e:H a=some (.ins C dx fs)) (cl:Cls K C) (ha:findIn K (.ref C) "__class__"=some (some (.builtin "object.__class__")))
      (hn:PySem.W.specialIn K (.builtin "object.__class__") "__get__"=some (some (.builtin "getset_descriptor.__get__"))) (htk:PySem.W.takesIn K (.builtin "object.__class__")=some true)
      (hm:PySem.W.mroIn K C (.type "object")=some true):TyOf K H (.ref a) (.ref C)
theorem ZgK {x:V}{u t:Value}(I:Inv X pins σ H s)(rx:Zx x u)(ty:TyOf X.K H x t)(e:PySem.W.kitOne X.K t c=some b)(h:∀ tk,Q (.bool b) { s with toks:=tk }) :
    wpAny (model X.prog X.w) A (call (.builtin "isinstance") [u,c]) Q E s:=by
  cases ty with
  |non=>cases (show u=Value.none from rx);exact PySem.W.kia_one PySem.W.kitx_none I.kIn True.intro e (λ z=>nomatch z) h
  |bl y=>cases (show u=Value.bool y from rx);exact PySem.W.kia_one PySem.W.kitx_bool I.kIn True.intro e (λ z=>nomatch z) h
  |int i=>obtain⟨t,q⟩:=(show ∃ t,u=Value.int i t from rx);cases q;exact PySem.W.kia_one PySem.W.kitx_int I.kIn True.intro e (λ z=>nomatch z) h
  |str y=>obtain⟨t,q⟩:=(show ∃ t,u=Value.str y t from rx);cases q;exact PySem.W.kia_one PySem.W.kitx_str I.kIn True.intro e (λ z=>nomatch z) h
  |flt y=>obtain⟨t,q⟩:=(show ∃ t,u=Value.float y t from rx);cases q;exact PySem.W.kia_one PySem.W.kitx_float I.kIn True.intro e (λ z=>nomatch z) h
  |@lst a xs ea=>
    cases (show u=Value.ref a from rx);obtain⟨_,_,n,_,h1⟩:=(show ZV X.prog X.w H s.heap a (.lst xs) from I.hok a _ ea);exact PySem.W.kia_one PySem.W.kitx_list I.kIn ⟨_,h1,rfl⟩ e (λ z=>nomatch z) h
  |@frz a ob xs ea=>
    cases (show u=Value.ref a from rx);obtain⟨_,_,_,n,_,h1⟩:=(show ZV X.prog X.w H s.heap a (.frz ob (.lst xs)) from I.hok a _ ea);exact PySem.W.kia_one PySem.W.kitx_list I.kIn ⟨_,h1,rfl⟩ e (λ z=>nomatch z) h
  |@tup a xs ea=>
    cases (show u=Value.ref a from rx);obtain⟨_,_,_,p⟩:=(show ZV X.prog X.w H s.heap a (.tup xs) from I.hok a _ ea);obtain⟨o,h1,h2,_⟩:=p;exact PySem.W.kia_one PySem.W.kitx_tuple I.kIn ⟨o,h1,h2⟩ e (λ z=>nomatch z) h
  |@dK a kvs ea=>
    cases (show u=Value.ref a from rx);obtain⟨_,_,vs,_,p⟩:=(show ZV X.prog X.w H s.heap a (.dK kvs) from I.hok a _ ea);obtain⟨o,es,ep,h1,h2,_⟩:=p;exact PySem.W.kia_one PySem.W.kitx_dict I.kIn ⟨o,h1,h2.1⟩ e (λ z=>nomatch z) h
  |@dT a kvs ea=>
    cases (show u=Value.ref a from rx);obtain⟨_,_,xs,_,o,es,ep,h1,h2,_⟩:=(show ZV X.prog X.w H s.heap a (.dT kvs) from I.hok a _ ea);exact PySem.W.kia_one PySem.W.kitx_dict I.kIn ⟨o,h1,h2.1⟩ e (λ z=>nomatch z) h
  |@ins a C dx fs ea cl ha hn htk hm=>
    cases (show u=Value.ref a from rx);obtain⟨mA,O,_⟩:=Zca I.hok ea;obtain⟨od,J,_⟩:=O.look;exact PySem.W.kia_one (PySem.W.kitx_own (cl.get _) cl.hd ha hn htk hm) I.kIn J e (λ z=>nomatch z) h
end
open PySem PySem.Spec PyProof.Rows
structure Room (k:Nat)(A:Around):Prop where
  hd:A.handled=none
  dp:A.depth+3 * k+5<recursionLimit
  un:A.units+16 * k+200<cLine
theorem Room.mono {j k:Nat}{A:Around}(r:Room k A)(h:j<=k):Room j A:=⟨r.hd,by have:=r.dp;omega,by have:=r.un;omega⟩
theorem Room.deeper {k:Nat}{A:Around}(r:Room (k+1) A)(env:Env):Room k (A.deeper env):=
 ⟨r.hd,by have:=r.dp;show A.depth+1+3 * k+5<_;omega,by have:=r.un;show A.units+3+16 * k+200<_;omega⟩
theorem Zfz {A:Around}{C:Addr}{us:List Value}{kw:List (Str×Value)}:(A.under (.builtin "type.__call__" ⟨.ref C::us,kw⟩)).depth=A.depth+1:=by
 first|rfl|simp[Around.under,Code.weight,Code.isCreation,Code.isGuard,Code.isCaller,Code.frames,Code.isFrame,guardIds]
theorem Zfy {A:Around}{C:Addr}{us:List Value}{kw:List (Str×Value)}:(A.under (.builtin "type.__call__" ⟨.ref C::us,kw⟩)).units=A.units+1:=by
 first|rfl|simp[Around.under,Code.cUnits,Code.frames,Code.isFrame]
theorem Room.make {k:Nat}{A:Around}(r:Room (k+1) A)(C:Addr)(us:List Value)(kw:List (Str×Value)):Room k (A.under (.builtin "type.__call__" ⟨.ref C::us,kw⟩)):=
 ⟨r.hd,by have:=r.dp;rw[Zfz];omega,by have:=r.un;rw[Zfy];omega⟩
theorem Room.depth {k:Nat}{A:Around}(r:Room k A):A.depth<recursionLimit:=by have:=r.dp;omega
theorem Room.units {k:Nat}{A:Around}(r:Room k A):A.units+64<cLine:=by have:=r.un;omega
noncomputable def tNil:TA:=λ _ H Q=>Q [] H
noncomputable def tCons (ta:TE)(tr:TA):TA:=λ σ H Q=>ta σ H λ x H1=>tr σ H1 λ xs H2=>Q (x::xs) H2
section
variable {X:Cx}{e:Expr}{es:List Expr}{te:TE}{t:TA}{pos:Pos}
theorem Zc:PA X [] tNil:=⟨λ _ _ _ _ H Q I h=>Calls.spliced_nil ⟨[],H,I, .nil,h⟩⟩
theorem Za (ha:PE X e te)(hr:PA X es t)(hs:starEach (e::es) X.env=(false,eval e X.env)::starEach es X.env:=by rfl):PA X (e::es) (tCons te t):=by
 refine⟨?_⟩;intro pos pins s σ H Q I h;rw[hs];show wpAny _ _ (spliced ((false,eval e X.env)::backTo pos (starEach es X.env))) _ _ s;refine Calls.spliced_cons (thn (ha pins s σ H _ I h) λ u s1 zz9=>?_);obtain⟨x,H1,I1,r1,q1⟩:=zz9;exact thn (hr pos pins s1 σ H1 _ I1 q1) λ us s2 ⟨xs,H2,I2,r2,q2⟩=>⟨x::xs,H2,I2, .cons r1 r2,q2⟩
noncomputable def tTup (t:TA):TE:=λ σ H Q=>t σ H λ xs H1=>xs.length<=sizeLine/\∀ p,H1 p=none->Q (.ref p) (upd H1 p (.tup xs))
noncomputable def tLst (t:TA):TE:=λ σ H Q=>t σ H λ xs H1=>xs.length<=sizeLine/\∀ p,H1 p=none->Q (.ref p) (upd H1 p (.lst xs))
theorem ZO {x1}(h:PA X es t):PE X (.Tuple es x1 pos) (tTup t):=by
 refine⟨?_⟩;intro pins s σ H Q I hq;refine wpAny_Tuple_spliced (thn (h pos pins s σ H _ I hq) λ us s1 ⟨xs,H1,I1,r,z,q⟩=>⟨by rw[<- r.length];exact z,?_⟩);have hf:H1 s1.heap.objs.size=none:=I1.hok.fresh (le_refl _);refine⟨.ref s1.heap.objs.size,upd H1 s1.heap.objs.size (.tup xs),I1.laid (t':=s1.toks) (λ b u e=>Heap.get?_push_of_some _ e) (le_refl _) ?_,rfl,q _ hf⟩;exact⟨z,us,r,⟨_,Heap.get?_push_size _ rfl,rfl,_,rfl⟩⟩
theorem Xo (h:PA X es t):PE X (.List es pos) (tLst t):=by
 refine⟨?_⟩;intro pins s σ H Q I hq;refine wpAny_List_spliced (thn (h pos pins s σ H _ I hq) λ us s1 ⟨xs,H1,I1,r,z,q⟩=>⟨by rw[<- r.length];exact z,?_⟩);have hf:H1 s1.heap.objs.size=none:=I1.hok.fresh (le_refl _);refine⟨.ref s1.heap.objs.size,upd H1 s1.heap.objs.size (.lst xs),I1.laid (t':=s1.toks) (λ b u e=>Heap.get?_push_of_some _ e) (le_refl _) ?_,rfl,q _ hf⟩;exact⟨z,us,0,r,Heap.get?_push_size _ rfl⟩
end
noncomputable abbrev Sp:=List V->Hp->VK->XK->Prop
noncomputable abbrev CXT:=List Env->Hp->Shared->XK->Value->Shared->Prop
structure Env0 (P:Program)(w:World)(K:Frag)(mg:Str->Option Value)(base:Heap)(A:Around)(outer:List Env)(s:Shared)(H:Hp):Prop where
  frames:A.frames=some outer
  mod:Mod K mg base
  bs:∀ b o,base.get? b=some o->s.heap.get? b=some o/\H b=none
  bsz:base.objs.size<=s.heap.objs.size
  funs:s.heap.FunFrames base outer
  frf:∀ b∈frs outer,H b=none
  hok:HOk P w H s.heap
  bare:AllBare s.gens
noncomputable def CE (outer:List Env)(P:Program)(w:World)(H:Hp)(s:Shared)(Q:VK)(u:Value)(s':Shared):Prop:=
 ∃ v H',s'.os=s.os/\AllBare s'.gens/\Un (frs outer) [] H H' s.heap s'.heap/\HOk P w H' s'.heap/\Zx v u/\Q v H'
noncomputable def CR (CX:CXT)(outer:List Env)(P:Program)(w:World)(H:Hp)(s:Shared)(Q:VK)(E:XK)(r:Result)(s':Shared):Prop:=
  match r with
  |.ok (.ret u)=>CE outer P w H s Q u s'
  |.ok _=>False
  |.error e=>CX outer H s E e s'
structure FnOk (P:Program)(w:World)(K:Frag)(mg:Str->Option Value)(base:Heap)(CX:CXT)(k:Nat)(f:Addr)(fd:FuncData)(ps:List Str)(sp:Sp):Prop where
  len:∀ vs H Q E,sp vs H Q E->vs.length=ps.length
  run:∀(A:Around)(outer:List Env)(s:Shared)(H:Hp)(args:Args)(us:List Value)(vs:List V)(Q:VK)(E:XK),Room k A->Env0 P w K mg base A outer s H->BindsTo s fd args (ps.zip us)->ZG vs us->sp vs H Q E ->
    codeAny (model P w) A (.call (.ref f) args) (CR CX outer P w H s Q E) s
theorem FnOk.mono {P:Program}{w:World}{K:Frag}{mg:Str->Option Value}{base:Heap}{CX:CXT}{j k:Nat}{f:Addr}{fd:FuncData}{ps:List Str}{sp:Sp}(F:FnOk P w K mg base CX j f fd ps sp)(h:j<=k) :
    FnOk P w K mg base CX k f fd ps sp:=⟨F.len,λ A outer s H args us vs Q E hr=>F.run A outer s H args us vs Q E (hr.mono h)⟩
theorem Env0.make {P:Program}{w:World}{K:Frag}{mg:Str->Option Value}{base:Heap}{A:Around}{outer:List Env}{s:Shared}{H:Hp}(e:Env0 P w K mg base A outer s H)(C:Addr)(us:List Value)(kw:List (Str×Value)) :
    Env0 P w K mg base (A.under (.builtin "type.__call__" ⟨.ref C::us,kw⟩)) outer s H:=⟨by first|exact e.frames|(simpa [Around.under,Code.envs,Code.isFrame,pushEnvs] using e.frames),e.mod,e.bs,e.bsz,e.funs,e.frf,e.hok,e.bare⟩
section
variable {X:Cx}{pins:List (Addr×Obj)}{σ:St}{H:Hp}{s s':Shared}
theorem Inv.env0 (I:Inv X pins σ H s):Env0 X.prog X.w X.K X.mg X.base X.A X.stack s H:=
 ⟨I.ok.frames,I.ok.mod,I.bs,le_trans I.ok.bsz I.sz,I.stack,I.stkFree,I.hok,I.bare⟩
theorem Inv.after {Q:VK}{u:Value}(I:Inv X pins σ H s)(h:CE X.stack X.prog X.w H s Q u s'):EP X pins σ Q u s':=by
 obtain⟨v,H',os,bare,un,hok,r,q⟩:=h;obtain⟨hh,g,d,t,os'⟩:=s';obtain rfl:os'=s.os:=os;exact⟨v,H',I.call (h':=hh) (g':=g) (d':=d) (t':=t) (ch:=[]) un hok bare (λ b z=>absurd z (by simp)),r,q⟩
end
noncomputable def Zg3 (sp:Sp)(dvs:List V)(E:XK)(t:TA):TE:=λ σ H Q=>t σ H λ vs H1=>sp (vs++dvs) H1 Q E
noncomputable def Zg2 (C:Addr)(m:Str)(sp:Sp)(dvs:List V)(E:XK)(ta:TE)(t:TA):TE:=λ σ H Q=>ta σ H λ x H1=>∃ a dx fs,x = .ref a/\H1 a=some (.ins C dx fs)/\fs.lookup m=none /\
 t σ H1 λ vs H2=>sp (x::(vs++dvs)) H2 Q E
noncomputable def ZfL (C:Addr)(sp:Sp)(dvs:List V)(E:XK)(t:TA):TE:=λ σ H Q=>t σ H λ vs H1=>∀ x dx,H1 x=none->H1 dx=none->dx≠x ->
 sp (.ref x::(vs++dvs)) (upd (upd H1 dx (.own x)) x (.ins C dx [])) (λ v H2=>v = .non/\Q (.ref x) H2) E
noncomputable def X2 (K:Frag)(fd:FuncData)(ps:List Str)(ds:List Value):Prop:=
 ∀(s:Shared)(us:List Value),K.In s.heap->(us++ds).length=ps.length->BindsTo s fd ⟨us,[]⟩ (ps.zip (us++ds))
theorem X2.all {K:Frag}{fd:FuncData}{ps:List Str}(h:∀ us:List Value,us.length=ps.length->bindArgs fd ⟨us,[]⟩=pure (ps.zip us)):X2 K fd ps []:=λ s us _ hl=>by
 rw[append_nil]at hl ⊢;exact .of_eq (h us hl)
noncomputable def YU (CX:CXT)(X:Cx)(E:XK):Prop:=∀(pins:List (Addr×Obj))(σ:St)(H:Hp)(s:Shared)(e:Value)(s':Shared),Inv X pins σ H s->CX X.stack H s E e s'->X.xe e s'
section
variable {X:Cx}{CX:CXT}{k:Nat}{f C:Addr}{fd:FuncData}{ps:List Str}{sp:Sp}{dvs:List V}{ds:List Value}{E:XK}{x m:Str}{p pos apos:Pos}{e o:Expr}{es:List Expr}{ta:TE}{t:TA}
theorem Zhc {pins:List (Addr×Obj)}{σ:St}{H:Hp}{s:Shared}{Q:VK}{us:List Value}{vs:List V}(F:FnOk X.prog X.w X.K X.mg X.base CX k f fd ps sp)(hr:Room k X.A)(hb:X2 X.K fd ps ds)(hd:ZG dvs ds)(hx:YU CX X E)(I:Inv X pins σ H s)(r:ZG vs us)(h:sp (vs++dvs) H Q E):wpAny (model X.prog X.w) X.A (call (.ref f) us) (EP X pins σ Q) X.xe s:=by
  have r2:ZG (vs++dvs) (us++ds):=r.append hd;have hl:(us++ds).length=ps.length:=by rw[<- r2.length];exact F.len _ _ _ _ h
  refine wpAny_call (codeAny_mono (F.run X.A X.stack s H ⟨us,[]⟩ (us++ds) (vs++dvs) Q E hr I.env0 (hb s us I.kIn hl) r2 h) λ r s' hq=>?_);cases r with
  |error e=>exact hx pins σ H s e s' I hq
  |ok fl=>
    cases fl with
    |ret u=>exact I.after hq
    |next=>exact False.elim hq
    |brk=>exact False.elim hq
    |cont=>exact False.elim hq
theorem ZfR (F:FnOk X.prog X.w X.K X.mg X.base CX k f fd ps sp)(hr:Room k X.A)(hg:Gl X x)(hm:X.mg x=some (.ref f))(hk:keepIn X.K (.ref f)=true)(hb:X2 X.K fd ps ds)(hd:ZG dvs ds)(hx:YU CX X E)(ha:PA X (e::es) t)(hdb:(x == ("__debug__":Str))=false:=by decide)(he:starEach (e::es) X.env=(false,eval e X.env)::starEach es X.env:=by rfl)(hpl:(backTo pos (starEach es X.env)).any (·.1)=false:=by rfl) :
    PE X (.Call (.Name x p) (e::es) [] pos) (Zg3 sp dvs E t):=by
  refine⟨?_⟩;intro pins s σ H Q I h;refine wpAny_Call_Name_kw (Zbc I hg hm ?_ hdb);refine PySem.W.callWith_K (h₀:=X.base) I.ok.mod.kin hk (thn (ha pos pins s σ H _ I h) λ us s1 ⟨vs,H1,I1,r,q⟩=>⟨I1.kIn,?_⟩) he hpl;exact Zhc F hr hb hd hx I1 r q
theorem Ziv {pl:Sem Bool}(he:PE X o ta)(c:Cls X.K C)(hm:Meth X.K C m f)(F:FnOk X.prog X.w X.K X.mg X.base CX k f fd ps sp)(hr:Room k X.A)(hb:X2 X.K fd ps ds)(hd:ZG dvs ds)(hx:YU CX X E)(ha:PA X (e::es) t)(hst:starEach (e::es) X.env=(false,eval e X.env)::starEach es X.env:=by rfl)(hpl:(backTo pos (starEach es X.env)).any (·.1)=false:=by rfl)(ht:eval (.Call (.Attribute o m apos) (e::es) [] pos) X.env=(do
      let ov <- eval o X.env
      standAt apos.atName
      let (f,first) <- holding [ov] (getMethod ov m pl)
      callWith pos f first (backTo pos (starEach (e::es) X.env)) (backToKw pos (keywordEach [] X.env))):=by rfl) :
    PE X (.Call (.Attribute o m apos) (e::es) [] pos) (Zg2 C m sp dvs E ta t):=by
  refine⟨?_⟩;intro pins s σ H Q I h;refine PySem.W.methodCall_KW (pl:=pl) (thn (he pins s σ H _ I h) λ u s1 zz9=>?_) ht;obtain⟨x,H1,I1,rx,a,dx,fs,ex,ea,l,q⟩:=zz9;subst ex;obtain rfl:u=Value.ref a:=rx;refine ZfC I1 ea c hm l ?_;refine PySem.W.callWith_K (first:=[.ref a]) (h₀:=X.base) I.ok.mod.kin hm.kp (thn (ha pos pins s1 σ H1 _ I1 q) λ us s2 ⟨vs,H2,I2,r,q2⟩=>⟨I2.kIn,?_⟩) hst hpl;exact Zhc (us:=.ref a::us) (vs:=.ref a::vs) F hr hb hd hx I2 (.cons rfl r) q2
structure Mk (K:Frag)(C f:Addr):Prop where
  makes:makesIn K C=true
  init:findIn K (.ref C) "__init__"=some (some (.ref f))
  fn:isFn K (.ref f)=true
  kp:keepIn K (.ref C)=true
theorem ZeI {pins:List (Addr×Obj)}{σ:St}{H:Hp}{s:Shared}{Q:VK}{us:List Value}{vs:List V}(M:Mk X.K C f)(F:FnOk X.prog X.w X.K X.mg X.base CX k f fd ps sp)(hr:Room (k+1) X.A)(hb:X2 X.K fd ps ds)(hd:ZG dvs ds)(hx:YU CX X E)(I:Inv X pins σ H s)(r:ZG vs us)(h:∀ x dx,H x=none->H dx=none->dx≠x->sp (.ref x::(vs++dvs)) (upd (upd H dx (.own x)) x (.ins C dx [])) (λ v H2=>v = .non/\Q (.ref x) H2) E) :
    wpAny (model X.prog X.w) X.A (call (.ref C) us) (EP X pins σ Q) X.xe s:=by
  have hq:=h (s.heap.objs.size+1) s.heap.objs.size (I.hok.fresh (le_succ _)) (I.hok.fresh (le_refl _)) (ne_of_lt (Nat.lt_succ_self _));have I2:=Inv.made (C:=C) I;have r2:ZG (V.ref (s.heap.objs.size+1)::(vs++dvs)) (Value.ref (s.heap.objs.size+1)::(us++ds)):=.cons rfl (r.append hd);have hl:(Value.ref (s.heap.objs.size+1)::us++ds).length=ps.length:=by
    have e:=r2.length;rw[F.len _ _ _ _ hq]at e;exact e.symm
  refine wpAny_call (Zhx (f:=f) I.kIn M.makes M.init (beq_iff_eq.mp M.fn) (codeAny_mono (F.run _ X.stack _ _ ⟨Value.ref (s.heap.objs.size+1)::us,[]⟩ (Value.ref (s.heap.objs.size+1)::(us++ds)) _ _ E (hr.make C us [])
    (I2.env0.make C us []) (hb _ (Value.ref (s.heap.objs.size+1)::us) I2.kIn hl) r2 hq) λ r s' hq'=>?_))
  cases r with
  |error e=>exact hx pins σ _ _ e s' I2 hq'
  |ok fl=>
    cases fl with
    |ret u=>
      obtain⟨v,H',I3,rv,ev,q3⟩:=I2.after hq';subst ev;exact⟨rv,⟨V.ref (s.heap.objs.size+1),H',I3,rfl,q3⟩⟩
    |next=>exact False.elim hq'
    |brk=>exact False.elim hq'
    |cont=>exact False.elim hq'
theorem Ziw (M:Mk X.K C f)(F:FnOk X.prog X.w X.K X.mg X.base CX k f fd ps sp)(hr:Room (k+1) X.A)(hg:Gl X x)(hm:X.mg x=some (.ref C))(hb:X2 X.K fd ps ds)(hd:ZG dvs ds)(hx:YU CX X E)(ha:PA X (e::es) t)(hdb:(x == ("__debug__":Str))=false:=by decide)(he:starEach (e::es) X.env=(false,eval e X.env)::starEach es X.env:=by rfl)(hpl:(backTo pos (starEach es X.env)).any (·.1)=false:=by rfl) :
    PE X (.Call (.Name x p) (e::es) [] pos) (ZfL C sp dvs E t):=by
  refine⟨?_⟩;intro pins s σ H Q I h;refine wpAny_Call_Name_kw (Zbc I hg hm ?_ hdb);refine PySem.W.callWith_K (h₀:=X.base) I.ok.mod.kin M.kp (thn (ha pos pins s σ H _ I h) λ us s1 ⟨vs,H1,I1,r,q⟩=>⟨I1.kIn,?_⟩) he hpl;exact ZeI M F hr hb hd hx I1 r q
theorem Zhi (M:Mk X.K C f)(F:FnOk X.prog X.w X.K X.mg X.base CX k f fd ps sp)(hr:Room (k+1) X.A)(hg:Gl X x)(hm:X.mg x=some (.ref C))(hb:X2 X.K fd ps ds)(hd:ZG dvs ds)(hx:YU CX X E)(hdb:(x == ("__debug__":Str))=false:=by decide):PE X (.Call (.Name x p) [] [] pos) (ZfL C sp dvs E tNil):=by
 refine⟨?_⟩;intro pins s σ H Q I h;refine wpAny_Call_Name_kw (Zbc I hg hm ?_ hdb);exact PySem.W.callWith_K0 I.kIn M.kp (ZeI (us:=[]) M F hr hb hd hx I .nil h)
end
noncomputable abbrev PKb (X:Cx)(kws:List Keyword)(t:TA):Prop:=
  ∀(pos:Pos)(pins:List (Addr×Obj))(s:Shared)(σ:St)(H:Hp)(Q:List V->Hp->Prop),Inv X pins σ H s->t σ H Q->wpAny (model X.prog X.w) X.A (evalAll ((backToKw pos (keywordEach kws X.env)).map (·.2))) (AP X pins σ Q) X.xe s
structure PK (X:Cx)(kws:List Keyword)(t:TA):Prop where
  go:PKb X kws t
instance {X:Cx}{kws:List Keyword}{t:TA}:CoeFun (PK X kws t) λ _=>PKb X kws t:=⟨PK.go⟩
section
variable {X:Cx}{CX:CXT}{k:Nat}{f C:Addr}{fd:FuncData}{ps ks:List Str}{sp:Sp}{E:XK}{x m:Str}{p pos apos kpos:Pos}{e o:Expr}{es:List Expr}{kws:List Keyword}{te ta:TE}{t tk:TA}{nm:Option Str}
variable {g:List Value->List Value->List Value}{gV:List V->List V->List V}
end
structure FnScope (N P:List Str)(sc:Scope):Prop where
  kind:sc.kind = .function
  co:sc.isCoroutine=false
  gen:sc.isGenerator=false
  nd:N.Nodup
  pre:N.take P.length=P
  par:∀ x∈P,sc.names.lookup x=some .local\/sc.names.lookup x=some .cell
  nofree:∀ y∈sc.names,y.2 ≠ .free
theorem ZdJ {kindOf:Str->Option NameKind}{x:Str}:∀ {binds:List (Str×Value)} {m:Str->Option Value},(∀ v,(x,v)∉binds)->bindL kindOf binds m x=m x
  |[],_,_=>rfl
  | (n,v)::r,m,h=>by
    unfold bindL;rw[ZdJ λ w hw=>h w (mem_cons_of_mem _ hw)];split
    . have:x≠n:=by rintro rfl;exact h v mem_cons_self
      simp[this]
    . rfl
theorem ZdL {kindOf:Str->Option NameKind}{x:Str}:∀ {binds:List (Str×Value)} {m:Str->Option Value},(∀ v,(x,v)∉binds)->bindC kindOf binds m x=m x
  |[],_,_=>rfl
  | (n,v)::r,m,h=>by
    unfold bindC;rw[ZdL λ w hw=>h w (mem_cons_of_mem _ hw)];split
    . rfl
    . have:x≠n:=by rintro rfl;exact h v mem_cons_self
      simp[this]
theorem ZdK {kindOf:Str->Option NameKind}{x:Str}{v:Value}:∀ {P:List Str} {vs:List Value} {i:Nat} {m:Str->Option Value},P.Nodup->P[i]? = some x->vs[i]? = some v->kindOf x=some .local ->
    bindL kindOf (P.zip vs) m x=some v
  |[],_,_,_,_,h,_,_=>by simp at h
  |_::_,[],_,_,_,_,h,_=>by simp at h
  | p::P,w::vs,0,m,nd,h1,h2,hk=>by
    simp at h1 h2;subst h1;subst h2;show bindL kindOf ((p,w)::P.zip vs) m p=_;unfold bindL;rw[ZdJ λ v hv=>(List.nodup_cons.mp nd).1 (List.of_mem_zip hv).1,if_pos hk];simp
  | p::P,w::vs,i+1,m,nd,h1,h2,hk=>by
    show bindL kindOf ((p,w)::P.zip vs) m x=_;unfold bindL;exact ZdK (i:=i) (List.nodup_cons.mp nd).2 (by simpa using h1) (by simpa using h2) hk
theorem ZdM {kindOf:Str->Option NameKind}{x:Str}{v:Value}:∀ {P:List Str} {vs:List Value} {i:Nat} {m:Str->Option Value},P.Nodup->P[i]? = some x->vs[i]? = some v->kindOf x≠some .local ->
    bindC kindOf (P.zip vs) m x=some v
  |[],_,_,_,_,h,_,_=>by simp at h
  |_::_,[],_,_,_,_,h,_=>by simp at h
  | p::P,w::vs,0,m,nd,h1,h2,hk=>by
    simp at h1 h2;subst h1;subst h2;show bindC kindOf ((p,w)::P.zip vs) m p=_;unfold bindC;rw[ZdL λ v hv=>(List.nodup_cons.mp nd).1 (List.of_mem_zip hv).1,if_neg hk];simp
  | p::P,w::vs,i+1,m,nd,h1,h2,hk=>by
    show bindC kindOf ((p,w)::P.zip vs) m x=_;unfold bindC;exact ZdM (i:=i) (List.nodup_cons.mp nd).2 (by simpa using h1) (by simpa using h2) hk
noncomputable def ZaH (N:List Str)(vs:List V):St:=vs.map some++List.replicate (N.length - vs.length) none
noncomputable def YT (CX:CXT)(P:Program)(w:World)(K:Frag)(mg:Str->Option Value)(base:Heap)(N:List Str)(qual:Str)(scope:Scope)(f:Addr)(cd:Value)(A:Around)(outer:List Env)(s:Shared)(H:Hp)(E:XK):Cx where
 prog:=P
 w:=w
 K:=K
 mg:=mg
 base:=base
 A:=A.deeper (envOfC qual scope s.heap.objs.size f cd)
 N:=N
 s₀:=s
 H₀:=H
 env:=envOfC qual scope s.heap.objs.size f cd
 outer:=outer
 stack:=envOfC qual scope s.heap.objs.size f cd::outer
 ex:=[]
 calm:=true
 fn:=λ _=>true
 pn:=[]
 xe:=λ e s'=>wpAny (model P w) (A.deeper (envOfC qual scope s.heap.objs.size f cd)) (leaving (envOfC qual scope s.heap.objs.size f cd) e) (λ _ s''=>CX outer H s E e s'') (λ e' s''=>CX outer H s E e' s'') s'
theorem Ze9 {sc:Scope}{n:Nat}{x:Str}(h:sc.names.lookup x=some .cell):∃ c,(cellsFrom n sc.names []).lookup x=some c:=by
 have q:=PySem.W.cellsFrom_some sc.names n [] (.inl h);exact Option.isSome_iff_exists.mp q
theorem ZgL {CX:CXT}{P:Program}{w:World}{K:Frag}{mg:Str->Option Value}{base:Heap}{N ps:List Str}{qual:Str}{scope:Scope}{f:Addr}{cd:Value}{A:Around}{outer:List Env}{s s1:Shared}{H:Hp}{E:XK}{us:List Value}{vs:List V}(S:FnScope N ps scope)(hd:A.handled=none)(e0:Env0 P w K mg base A outer s H)(hl:vs.length=ps.length)(r:ZG vs us)(x:InCallC s s.heap.objs.size (bindL (envOfC qual scope s.heap.objs.size f cd).kindOf (ps.zip us) λ _=>none) (cellsFrom (s.heap.objs.size+1) scope.names []) (bindC (envOfC qual scope s.heap.objs.size f cd).kindOf (ps.zip us) λ _=>none) s1) :
    Inv (YT CX P w K mg base N qual scope f cd A outer s H E) [] (ZaH N vs) H s1:=by
  have hpl:ps.length<=N.length:=by have:=congrArg List.length S.pre;rw[length_take]at this;omega
  obtain⟨h1,tk,rfl,hk⟩:=x.done;have noA:∀ b:Addr,b∉(YT CX P w K mg base N qual scope f cd A outer s H E).ex:=λ b z=>absurd (show b∈([]:List Addr) from z) (by simp);refine⟨⟨e0.mod,S.kind,rfl,rfl,le_refl _,λ y z c h1 h2=>?_,λ y hy=>?_,λ y c _ h=>?_,λ _=>hd,Around.frames_deeper e0.frames, .inr ⟨rfl,rfl⟩,λ b z=>absurd z (noA b),e0.bs,e0.bsz,λ b _ _=>noA b,λ b z=>absurd z (noA b),e0.funs,e0.frf⟩,
    rfl,e0.bare,Un.kept hk,⟨_,x.toInCall.ns,λ i y v h1 h2 h3=>?_⟩,λ y c h=>⟨_,x.cell y c h⟩,e0.hok.fresh (le_refl _),λ y c h=>?_,λ p hp=>absurd (show p∈([]:List (Addr×Obj)) from hp) (by simp),e0.hok.kept hk,?_⟩
  . exact name_of_addr x.apart (PySem.mem_of_lookup h1) (PySem.mem_of_lookup h2)
  . have hy:scope.names.lookup y=some .cell\/scope.names.lookup y=some .free:=hy;rcases hy with hy|hy
    . exact Ze9 hy
    . exact absurd rfl (S.nofree _ (PySem.mem_of_lookup hy))
  . exact le_of_lt (x.above y c (PySem.mem_of_lookup h))
  . have hi:i<vs.length:=by
      unfold ZaH at h2
      by_cases hi:i<vs.length
      . exact hi
      . rw[getElem?_append_right (by simpa using hi)]at h2;rw[List.getElem?_replicate]at h2;split at h2 <;> cases h2
    have ha:vs[i]? = some v:=by
      unfold ZaH at h2;rw[getElem?_append_left (by simpa using hi),getElem?_map]at h2;cases e:vs[i]? with
      |none=>rw[e]at h2;cases h2
      |some a=>rw[e]at h2;cases h2;rfl
    obtain⟨u,hu,rv⟩:=r.get ha;have hp:ps[i]? = some y:=by
      rw[<- S.pre,List.getElem?_take_of_lt (by omega)];exact h1
    have ndP:ps.Nodup:=by rw[<- S.pre];exact S.nd.sublist (List.take_sublist _ _)
    refine⟨u,rv,?_⟩;rcases S.par y (mem_of_getElem? hp) with k|k
    . exact .inl ⟨k,ZdK ndP hp hu k⟩
    . obtain⟨c,e⟩:=Ze9 (n:=s.heap.objs.size+1) k;refine .inr ⟨.inl k,c,e,?_⟩;have q:=x.cell y c e;rw[ZdM ndP hp hu (by show scope.names.lookup y≠_;rw[k];decide)]at q;exact q
  . exact e0.hok.fresh (le_of_lt (x.above y c (PySem.mem_of_lookup h)))
  . unfold ZaH;show _=N.length;rw[length_append,length_map,List.length_replicate];omega
theorem fn_of {CX:CXT}{P:Program}{w:World}{K:Frag}{mg:Str->Option Value}{base:Heap}{k:Nat}{f:Addr}{name qual:Str}{params:Arguments}{body:List Stmt}{scope:Scope}{dV kV doc pm cdv ct oc:Value}{an od:Option Addr}{osl:Array (Option Value)}{N ps:List Str}{sp:Sp}(lk:K.lookup f=some ⟨oc,od, .func (fnOf name qual params body scope dV kV doc pm an cdv ct),osl⟩)(hcd:codeIn K cdv qual=true)(S:FnScope N ps scope)(len:∀ vs H Q E,sp vs H Q E->vs.length=ps.length)(hbody:∀(A:Around)(outer:List Env)(s:Shared)(H:Hp)(vs:List V)(Q:VK)(E:XK),Room k (A.deeper (envOfC qual scope s.heap.objs.size f cdv))->sp vs H Q E ->
      ∃ t,PSs (YT CX P w K mg base N qual scope f cdv A outer s H E) body t/\t { nx:=λ _ H'=>Q .non H',rt:=Q } (ZaH N vs) H) :
    FnOk P w K mg base CX (k+1) f (fnOf name qual params body scope dV kV doc pm an cdv ct) ps sp:=by
  refine⟨len,λ A outer s H args us vs Q E hr e0 hb r hsp=>?_⟩;have hl:=len _ _ _ _ hsp;have KX:K.In s.heap:=e0.mod.kin.keeps λ b o e=>(e0.bs b o e).1;have lim:s.heap.NoLimit:=e0.mod.nolimit.keeps λ b o e=>(e0.bs b o e).1;have hkind:∀ y∈ps.zip us,scope.names.lookup y.1=some .local\/(scope.names.lookup y.1=some .cell/\((cellsFrom (s.heap.objs.size+1) scope.names []).lookup y.1).isSome=true):=λ⟨n,v⟩ hy=>by
    rcases S.par n (List.of_mem_zip hy).1 with q|q
    . exact .inl q
    . exact .inr ⟨q,PySem.W.cellsFrom_some _ _ _ (.inl q)⟩
  refine codeAny_call_function hr.depth (KX _ _ lk) rfl S.co S.gen rfl (PySem.W.codeRec_of KX hcd) (hb _ _ _ _ ?_);refine wpAny_newFunctionEnv_cells S.kind hkind λ env he s1 x=>?_;subst he;refine⟨lim.keeps x.toInCall.keep,codeAny_func ?_⟩;obtain⟨t,ht,hq⟩:=hbody A outer s H vs Q E (hr.deeper _) hsp;have I:Inv (YT CX P w K mg base N qual scope f cdv A outer s H E) [] (ZaH N vs) H s1:=ZgL S hr.hd e0 hl r x;refine wpAny_mono (ht [] s1 (ZaH N vs) H _ I hq) (λ fl s' hs=>?_) λ e s' hs=>hs;have fin:∀ {σ':St} {H':Hp} {v:V} {u:Value},Inv (YT CX P w K mg base N qual scope f cdv A outer s H E) [] σ' H' s'->Zx v u->Q v H'->CE outer P w H s Q u s':=
    λ {σ' H' v u} J rv q=>⟨v,H',J.os,J.bare,J.base,J.hok,rv,q⟩
  cases fl with
  |ret u=>
    obtain⟨v,σ',H',J,rv,q⟩:=hs;exact fin J rv q
  |next=>
    obtain⟨σ',H',J,q⟩:=hs;exact fin (v:=V.non) (u:=Value.none) J rfl q
  |brk=>
    obtain⟨_,_,_,q⟩:=hs;exact False.elim q
  |cont=>
    obtain⟨_,_,_,q⟩:=hs;exact False.elim q
open PySem PySem.Spec PyProof.Rows
section
variable {X:Cx}{x:Str}{p pos:Pos}{e:Expr}{es:List Expr}{t:TA}{id T:String}{r:List V->Hp->VK->Prop}
noncomputable def tCB (r:List V->Hp->VK->Prop)(t:TA):TE:=λ σ H Q=>t σ H λ vs H1=>r vs H1 Q
theorem Zr (hc:X1 X (.builtin id) r)(hg:Gl X x)(hm:X.mg x=none)(hv:bootBuiltins x=some (.builtin id))(ha:PA X (e::es) t)(hn:x≠"__name__":=by decide)(hdb:(x == ("__debug__":Str))=false:=by decide)(he:starEach (e::es) X.env=(false,eval e X.env)::starEach es X.env:=by rfl)(hpl:(backTo pos (starEach es X.env)).any (·.1)=false:=by rfl):PE X (.Call (.Name x p) (e::es) [] pos) (tCB r t):=by
 refine⟨?_⟩;intro pins s σ H Q I h;refine wpAny_Call_Name_kw (ZcZ I hg hm hv ?_ hn hdb);exact PyProof.Rows.callWith_builtin1 (thn (ha pos pins s σ H _ I h) λ us s1 ⟨vs,H1,I1,r1,q1⟩=>hc pins s1 σ H1 vs us Q I1 r1 q1) he hpl
theorem YO (hc:X1 X (.type T) r)(hg:Gl X x)(hm:X.mg x=none)(hv:bootBuiltins x=some (.type T))(ha:PA X (e::es) t)(hn:x≠"__name__":=by decide)(hdb:(x == ("__debug__":Str))=false:=by decide)(he:starEach (e::es) X.env=(false,eval e X.env)::starEach es X.env:=by rfl)(hpl:(backTo pos (starEach es X.env)).any (·.1)=false:=by rfl):PE X (.Call (.Name x p) (e::es) [] pos) (tCB r t):=by
 refine⟨?_⟩;intro pins s σ H Q I h;refine wpAny_Call_Name_kw (ZcZ I hg hm hv ?_ hn hdb);exact PyProof.Rows.callWith_type1 (thn (ha pos pins s σ H _ I h) λ us s1 ⟨vs,H1,I1,r1,q1⟩=>hc pins s1 σ H1 vs us Q I1 r1 q1) he hpl
end
open PySem PySem.Spec PyProof.Rows
section
variable {κ:Type}[DecidableEq κ]
noncomputable def Z7 (kvs:List (κ×V))(k:κ):Option V:=(kvs.find? λ kv=>decide (kv.1=k)).map (·.2)
noncomputable def X8 (kvs:List (κ×V))(k:κ)(v:V):List (κ×V):=
 if (kvs.any λ kv=>decide (kv.1=k))=true then kvs.map (λ kv=>if kv.1=k then (kv.1,v) else kv) else kvs++[(k,v)]
noncomputable def dropK (kvs:List (κ×V))(k:κ):List (κ×V):=kvs.filter λ kv=>decide (kv.1≠k)
theorem XS {p:κ×V}{r:List (κ×V)}{k:κ}(e:p.1=k):Z7 (p::r) k=some p.2:=by simp[Z7,find?_cons,e]
theorem XT {p:κ×V}{r:List (κ×V)}{k:κ}(e:¬ p.1=k):Z7 (p::r) k=Z7 r k:=by simp[Z7,find?_cons,e]
theorem Zcg (k:κ):∀ kvs:List (κ×V),(kvs.any λ kv=>decide (kv.1=k))=(Z7 kvs k).isSome
  |[]=>rfl
  | p::r=>by
    rw[any_cons]
    by_cases e:p.1=k
    . simp only[XS e,decide_eq_true e,Bool.true_or,Option.isSome_some]
    . rw[XT e,decide_eq_false e,Bool.false_or];exact Zcg k r
theorem JN (kvs:List (κ×V))(k:κ)(v:V):(X8 kvs k v).length<=kvs.length+1:=by
  unfold X8;split
  . rw[length_map];omega
  . rw[length_append,length_cons,List.length_nil];omega
theorem YD {kvs:List (κ×V)}{k:κ}(v:V)(h:Z7 kvs k=none):X8 kvs k v=kvs++[(k,v)]:=by
 unfold X8;rw[Zcg,h];exact if_neg (by decide)
theorem Jl.isSome_eq {o:Option V}{u:Option Value}(r:Jl o u):o.isSome=u.isSome:=by
  cases o with
  | none=>cases u with
    |none=>rfl
    |some _=>exact(show False from r).elim
  | some _=>cases u with
    |none=>exact(show False from r).elim
    |some _=>rfl
theorem Jl.getD {o:Option V}{u:Option Value}{d:V}{d':Value}(r:Jl o u)(rd:Zx d d'):Zx (o.getD d) (u.getD d'):=by
  cases o with
  | none=>cases u with
    |none=>exact rd
    |some _=>exact(show False from r).elim
  | some _=>cases u with
    |none=>exact(show False from r).elim
    |some _=>exact r
theorem KV.val {kvs:List (κ×V)}{vs:List (κ×Value)}(r:KV kvs vs)(k:κ):Jl (Z7 kvs k) (valueAt vs k):=by
  unfold KV at r
  induction r with
  |nil=>exact True.intro
  |@cons p q ps qs h t ih=>
    obtain⟨h1,h2⟩:=h
    by_cases e:p.1=k
    . have e':q.1=k:=h1.symm.trans e;have b:valueAt (q::qs) k=some q.2:=by simp[valueAt,find?_cons,e']
      rw[XS e,b];exact h2
    . have e':¬ q.1=k:=λ z=>e (h1.trans z);have b:valueAt (q::qs) k=valueAt qs k:=by simp[valueAt,find?_cons,e']
      rw[XT e,b];exact ih
theorem KV.any {kvs:List (κ×V)}{vs:List (κ×Value)}(r:KV kvs vs)(k:κ):(kvs.any λ kv=>decide (kv.1=k))=vs.any λ kv=>decide (kv.1=k):=by
  unfold KV at r
  induction r with
  |nil=>rfl
  |cons h t ih=>rw[any_cons,any_cons,ih,h.1]
theorem KV.repl {kvs:List (κ×V)}{vs:List (κ×Value)}(r:KV kvs vs)(k:κ){y:V}{u:Value}(ry:Zx y u) :
    KV (kvs.map λ kv=>if kv.1=k then (kv.1,y) else kv) (vs.map λ kv=>if kv.1=k then (kv.1,u) else kv):=by
  unfold KV at r ⊢
  induction r with
  |nil=>exact .nil
  |@cons p q ps qs h t ih=>
    rw[map_cons,map_cons];refine .cons ?_ ih;obtain⟨h1,h2⟩:=h
    by_cases e:p.1=k
    . rw[if_pos e,if_pos (h1.symm.trans e)];exact⟨h1,ry⟩
    . rw[if_neg e,if_neg (λ z=>e (h1.trans z))];exact⟨h1,h2⟩
theorem KV.put {kvs:List (κ×V)}{vs:List (κ×Value)}(r:KV kvs vs)(k:κ){y:V}{u:Value}(ry:Zx y u):KV (X8 kvs k y) (stored vs k u):=by
  unfold X8 stored;rw[r.any k]
  by_cases e:(vs.any λ kv=>decide (kv.1=k))=true
  . rw[if_pos e,if_pos e];exact r.repl k ry
  . rw[if_neg e,if_neg e];exact Paired.snoc r ⟨rfl,ry⟩
theorem KV.length {kvs:List (κ×V)}{vs:List (κ×Value)}(r:KV kvs vs):kvs.length=vs.length:=Paired.length r
end
theorem Zc0 {P:Program}{w:World}{k:Key}{u:Value}(r:Zx (kV k) u):(ZT P w).is k u=true:=by
  cases k with
  |inl i=>obtain⟨t,e⟩:=(show ∃ t,u=Value.int i t from r);subst e;exact ZeY P w i t
  |inr x=>obtain⟨t,e⟩:=(show ∃ t,u=Value.str x t from r);subst e;exact ZeX P w x t
theorem ZdC {P:Program}{w:World}:∀ {ks:List Key} {us:List Value},ZG (ks.map kV) us->ItemsAre (ZT P w) ks us
  |[],_,r=>by rw[map_nil]at r;cases r;exact .nil
  | k::ks,_,r=>by
    rw[map_cons]at r;cases r with
    |cons h t=>exact .cons (Zc0 h) (ZdC t)
noncomputable abbrev KT (H:Hp):List (List Key×V)->List (List Key×Addr×Value)->Prop:=Paired λ p q=>p.1=q.1/\H q.2.1=some (.tup (p.1.map kV))/\Zx p.2 q.2.2
theorem KT.val {H:Hp}{kvs:List (List Key×V)}{xs:List (List Key×Addr×Value)}(r:KT H kvs xs)(k:List Key):Jl (Z7 kvs k) ((atKey xs k).map (·.2)):=by
  induction r with
  |nil=>exact True.intro
  |@cons p q ps qs h t ih=>
    obtain⟨h1,_,h2⟩:=h
    by_cases e:p.1=k
    . have e':q.1=k:=h1.symm.trans e;have b:atKey (q::qs) k=some q.2:=by simp[atKey,find?_cons,e']
      rw[XS e,b];exact h2
    . have e':¬ q.1=k:=λ z=>e (h1.trans z);have b:atKey (q::qs) k=atKey qs k:=by simp[atKey,find?_cons,e']
      rw[XT e,b];exact ih
theorem KT.repl {H:Hp}{kvs:List (List Key×V)}{xs:List (List Key×Addr×Value)}(r:KT H kvs xs)(k:List Key){y:V}{u:Value}(ry:Zx y u) :
    KT H (kvs.map λ kv=>if kv.1=k then (kv.1,y) else kv) (xs.map (putAt k u)):=by
  induction r with
  |nil=>exact .nil
  |@cons p q ps qs h t ih=>
    rw[map_cons,map_cons];refine .cons ?_ ih;obtain⟨h1,h2,h3⟩:=h;unfold putAt
    by_cases e:p.1=k
    . rw[if_pos e,if_pos (h1.symm.trans e)];exact⟨h1,h2,ry⟩
    . rw[if_neg e,if_neg (λ z=>e (h1.trans z))];exact⟨h1,h2,h3⟩
theorem KT.put {H:Hp}{kvs:List (List Key×V)}{xs:List (List Key×Addr×Value)}(r:KT H kvs xs)(k:List Key){b:Addr}{y:V}{u:Value}(hb:H b=some (.tup (k.map kV)))(ry:Zx y u) :
    KT H (X8 kvs k y) (storedH xs k b u):=by
  have e:(kvs.any λ kv=>decide (kv.1=k))=(atKey xs k).isSome:=by
    rw[Zcg,(r.val k).isSome_eq,isSome_map]
  unfold X8 storedH;rw[e]
  by_cases q:(atKey xs k).isSome=true
  . rw[if_pos q,if_pos q];exact r.repl k ry
  . rw[if_neg q,if_neg q];exact Paired.snoc r ⟨rfl,hb,ry⟩
theorem KT.keeps {H H':Hp}{kvs:List (List Key×V)}{xs:List (List Key×Addr×Value)}(r:KT H kvs xs)(ht:∀ b ys,H b=some (.tup ys)->H' b=some (.tup ys)):KT H' kvs xs:=
 Paired.mapP r λ _ _ z=>⟨z.1,ht _ _ z.2.1,z.2.2⟩
section
variable {P:Program}{w:World}{H:Hp}{h:Heap}{a:Addr}
theorem rd_of {u:HO}(ok:HOk P w H h)(e:Rd H a u):ZV P w H h a u:=e.ok ok
theorem Zbf {kvs:List (Key×V)}(ok:HOk P w H h)(e:Rd H a (.dK kvs)):kvs.length<=sizeLine/\(a == sysModules)=false/\∃ vs,KV kvs vs/\h.DictOf (ZT P w) a vs:=
 show ZV P w H h a (.dK kvs) from rd_of ok e
theorem ZhY {kvs:List (Key×V)}(ok:HOk P w H h)(e:H a=some (.dK kvs)):kvs.length<=sizeLine/\(a == sysModules)=false/\∃ vs,KV kvs vs/\h.DictOf (ZT P w) a vs:=Zbf ok (.inl e)
theorem Zbx {ks:List Key}(ok:HOk P w H h)(e:H a=some (.tup (ks.map kV))):(tupleKind (ZT P w)).is h ks a:=by
 obtain⟨_,its,r,o,h1,h2,n,h3⟩:=(show ZV P w H h a (.tup (ks.map kV)) from ok a _ e);exact⟨o,its.toArray,n,h1,h2,h3,by simpa using ZdC r⟩
theorem Zc5 {kvs:List (List Key×V)}(ok:HOk P w H h)(e:Rd H a (.dT kvs)):kvs.length<=sizeLine/\(a == sysModules)=false /\
    ∃ xs,KT H kvs xs/\h.DictOfH (tupleKind (ZT P w)) a xs:=by
  obtain⟨z,y,xs,r,o,es,ep,h1,h2,h3,h4,h5⟩:=(show ZV P w H h a (.dT kvs) from rd_of ok e);refine⟨z,y,xs,r,o,es,ep,h1,h2,h3,h4,λ x hx=>?_,h5⟩;have all:∀ {l:List (List Key×V)} {m:List (List Key×Addr×Value)},KT H l m->∀ x∈m,(tupleKind (ZT P w)).is h x.1 x.2.1:=by
    intro l m q
    induction q with
    |nil=>intro x hx;exact nomatch hx
    |@cons p q ps qs hq t ih=>
      intro x hx;rcases List.mem_cons.mp hx with e|hx
      . subst e;exact Zbx ok (by rw[<- hq.1];exact hq.2.1)
      . exact ih x hx
  exact all r x hx
theorem dt_of {kvs:List (List Key×V)}(ok:HOk P w H h)(e:H a=some (.dT kvs)):kvs.length<=sizeLine/\(a == sysModules)=false /\
    ∃ xs,KT H kvs xs/\h.DictOfH (tupleKind (ZT P w)) a xs:=Zc5 ok (.inl e)
end
noncomputable def ZU (H:Hp)(a:Addr)(y:V)(r:Option V):Prop:=
 (∃ kvs k,Rd H a (.dK kvs)/\y=kV k/\r=Z7 kvs k)\/∃ kvs k b,Rd H a (.dT kvs)/\y = .ref b/\H b=some (.tup (k.map kV))/\r=Z7 kvs k
noncomputable def Jm (H:Hp)(a:Addr)(y v:V)(H':Hp):Prop:=
 (∃ kvs k,H a=some (.dK kvs)/\y=kV k/\kvs.length<sizeLine/\H'=upd H a (.dK (X8 kvs k v))) \/
 ∃ kvs k b,H a=some (.dT kvs)/\y = .ref b/\H b=some (.tup (k.map kV))/\kvs.length<sizeLine/\H'=upd H a (.dT (X8 kvs k v))
theorem ZU.k {H:Hp}{a:Addr}{kvs:List (Key×V)}{k:Key}(e:H a=some (.dK kvs)):ZU H a (kV k) (Z7 kvs k):=.inl ⟨kvs,k, .inl e,rfl,rfl⟩
theorem Jm.k {H:Hp}{a:Addr}{kvs:List (Key×V)}{k:Key}{v:V}(e:H a=some (.dK kvs))(hl:kvs.length<sizeLine):Jm H a (kV k) v (upd H a (.dK (X8 kvs k v))):=.inl ⟨kvs,k,e,rfl,hl,rfl⟩
section
variable {X:Cx}{pins:List (Addr×Obj)}{σ:St}{H:Hp}{s:Shared}{a:Addr}{y v:V}{u r:Value}{o:Option V}{A:Around}{E:Value->Shared->Prop}
theorem Inv.big (I:Inv X pins σ H s):sysModules<s.heap.objs.size:=by
 have h:mainGlobals<s.heap.objs.size:=(I.mod.glob.keeps I.bk).lt;exact Nat.lt_trans (by decide) h
theorem ZgP {Q:Value->Shared->Prop}(hu:A.units+1<cLine)(I:Inv X pins σ H s)(g:ZU H a y (some v))(ry:Zx y u)(h:∀ w' s',Inv X pins σ H s'->Zx v w'->Q w' s') :
    wpAny (model X.prog X.w) A (getItem (.ref a) u) Q E s:=by
  rcases g with ⟨kvs,k,e,ey,l⟩|⟨kvs,k,b,e,ey,eb,l⟩
  . subst ey;obtain⟨z,hd,vs,rel,dd⟩:=Zbf I.hok e;obtain⟨w',hw,rw'⟩:=Jl.some_of (v:=v) (o:=valueAt vs k) (by rw[l];exact rel.val k);exact wpAny_getItem_of (Zc0 ry) dd.mapOf hw (h w' _ (I.tok _) rw')
  . subst ey;cases (show u=Value.ref b from ry);obtain⟨z,hd,xs,rel,dd⟩:=Zc5 I.hok e;obtain⟨w',hw,rw'⟩:=Jl.some_of (v:=v) (o:=(atKey xs k).map (·.2)) (by rw[l];exact rel.val k);obtain⟨p,hp,hp2⟩:=Option.map_eq_some_iff.mp hw;refine wpAny_getItem_heap (tupleKind_room_in1 hu) (Zbx I.hok eb) dd hp ?_;rw[hp2];exact h w' _ (I.tok _) rw'
theorem d_in {Q:Value->Shared->Prop}(hu:A.units+1<cLine)(I:Inv X pins σ H s)(g:ZU H a y o)(ry:Zx y u)(h:∀ s',Inv X pins σ H s'->Q (.bool o.isSome) s') :
    wpAny (model X.prog X.w) A (compareOp .In u (.ref a)) Q E s:=by
  rcases g with ⟨kvs,k,e,ey,l⟩|⟨kvs,k,b,e,ey,eb,l⟩
  . subst ey;obtain⟨z,hd,vs,rel,dd⟩:=Zbf I.hok e;refine wpAny_in_of (Zc0 ry) hd dd.mapOf ?_;rw[<- (rel.val k).isSome_eq,<- l];exact h _ (I.tok _)
  . subst ey;cases (show u=Value.ref b from ry);obtain⟨z,hd,xs,rel,dd⟩:=Zc5 I.hok e;refine wpAny_in_heap (tupleKind_room_in1 hu) (Zbx I.hok eb) hd dd ?_;have q:=(rel.val k).isSome_eq;rw[isSome_map]at q;rw[<- q,<- l];exact h _ (I.tok _)
theorem ZiU {Q:Value->Shared->Prop}(hu:A.units+1<cLine)(I:Inv X pins σ H s)(g:ZU H a y o)(ry:Zx y u)(h:∀ s',Inv X pins σ H s'->Q (.bool (!o.isSome)) s') :
    wpAny (model X.prog X.w) A (compareOp .NotIn u (.ref a)) Q E s:=by
  rcases g with ⟨kvs,k,e,ey,l⟩|⟨kvs,k,b,e,ey,eb,l⟩
  . subst ey;obtain⟨z,hd,vs,rel,dd⟩:=Zbf I.hok e;refine wpAny_notIn_of (Zc0 ry) hd dd.mapOf ?_;rw[<- (rel.val k).isSome_eq,<- l];exact h _ (I.tok _)
  . subst ey;cases (show u=Value.ref b from ry);obtain⟨z,hd,xs,rel,dd⟩:=Zc5 I.hok e;refine wpAny_notIn_heap (tupleKind_room_in1 hu) (Zbx I.hok eb) hd dd ?_;have q:=(rel.val k).isSome_eq;rw[isSome_map]at q;rw[<- q,<- l];exact h _ (I.tok _)
theorem Zeu {h':Heap}{t':Nat}{ob:HO}(I:Inv X pins σ H s)(mu:Mut (H a))(hs:Heap.SameBut a s.heap h')(he:∃ q,h'.get? a=some q)(new:ZV X.prog X.w (upd H a ob) h' a ob) :
    Inv X pins σ (upd H a ob) { s with heap:=h',toks:=t' }:=
  I.write (x:=a) (e:=a) mu (.inl rfl) (λ b q hb z=>(hs.2 b hb).trans z) he new
theorem ZhZ {P:Program}{w:World}{H':Hp}{h':Heap}{kvs:List (Key×V)}{vs:List (Key×Value)}(z:kvs.length<=sizeLine)(hd:(a == sysModules)=false)(rel:KV kvs vs)(dd:h'.DictOf (ZT P w) a vs) :
    ZV P w H' h' a (.dK kvs):=⟨z,hd,vs,rel,dd⟩
theorem ZgO {H':Hp}{Q:Unit->Shared->Prop}(hu:A.units+1<cLine)(I:Inv X pins σ H s)(g:Jm H a y v H')(ry:Zx y u)(rv:Zx v r)(h:∀ s',Inv X pins σ H' s'->Q () s') :
    wpAny (model X.prog X.w) A (setItem (.ref a) u r) Q E s:=by
  rcases g with ⟨kvs,k,e,ey,l,eH⟩|⟨kvs,k,b,e,ey,eb,l,eH⟩
  . subst ey eH;obtain⟨z,hd,vs,rel,dd⟩:=ZhY I.hok e;have hz:vs.length<=sizeLine:=by rw[<- rel.length];exact z
    have hl:(X8 kvs k v).length<=sizeLine:=by have:=JN kvs k v;omega
    refine wpAny_setItem_pairs (hsz:=hz) (Zc0 ry) dd λ h' dd' hs=>h _ ?_;have he:∃ q,h'.get? a=some q:=let ⟨q,_,_,hq,_⟩:=dd';⟨q,hq⟩;exact Zeu I (by rw[e];exact True.intro) hs he (ZhZ hl hd (rel.put k rv) dd')
  . subst ey eH;cases (show u=Value.ref b from ry);obtain⟨z,hd,xs,rel,dd⟩:=dt_of I.hok e;have hz:xs.length<=sizeLine:=by rw[<- Paired.length rel];exact z
    have hl:(X8 kvs k v).length<=sizeLine:=by have:=JN kvs k v;omega
    refine wpAny_setItem_heap (hsz:=hz) (tupleKind_room_in1 hu) (Zbx I.hok eb) dd λ h' dd' hs=>h _ ?_;obtain⟨q,es,ep,hq,h2,h3,h4,_,h5⟩:=dd';refine Zeu I (by rw[e];exact True.intro) hs ⟨q,hq⟩ ⟨hl,hd,_,(rel.put k eb rv).keeps λ c ys ec=>?_,q,es,ep,hq,h2,h3,h4,h5⟩;rw[Ze (ZcU ec e (λ z=>nomatch z))];exact ec
end
section
variable {X:Cx}{pins:List (Addr×Obj)}{σ:St}{H:Hp}{s:Shared}{a:Addr}{kvs:List (Key×V)}{k:Key}{u:Value}{A:Around}{E:Value->Shared->Prop}
end
noncomputable def NoSl (i:Expr):Prop:=∀ ov iv,subscripted i false ov iv=operate [ov,iv] (getItem ov iv)
theorem Zif {prog:Program}{w:World}{A:Around}{E:Value->Shared->Prop}{s:Shared}{env:Env}{value slice:Expr}{pos:Pos}{T id:String}{Q:Value->Shared->Prop}(hl:typeLookup (.type T) "__getitem__"=pure (some (.builtin id)))(hs:NoSl slice)(h:wpAny (model prog w) A (eval value env) (λ o s₁=>wpAny (model prog w) A (eval slice env) (λ i s₂=>s₂.TypeIs o T/\wpAny (model prog w) A (getItem o i) Q E s₂) E s₁) E s) :
    wpAny (model prog w) A (eval (.Subscript value slice pos) env) Q E s:=by
  refine Subscript_ (wpAny_mono h (λ o s₁ h₁=>wpAny_mono h₁ (λ i s₂ h₂=>?_) λ _ _ x=>x) λ _ _ x=>x);obtain⟨hT,h₂⟩:=h₂;unfold subscriptTail;refine wpAny_bind ?_;rw[getitemInPython_of_ne hT.not_modules];refine wpAny_bind (wpAny_specialOf hT hl ?_);have fin:wpAny (model prog w) A (subscripted slice false o i) (λ r s₃=>wpAny (model prog w) A (letTemporaryGo value o r >>= λ _=>pure r) Q E s₃) E s₂:=by
    rw[hs o i];exact wpAny_operating (wpAny_mono h₂ (λ r s₃ h₃=>wpAny_bind (wpAny_letTemporaryGo (wpAny_pure h₃))) λ _ _ x=>x)
  first
    | exact wpAny_pure (wpAny_bind fin)
    | exact wpAny_bind (wpAny_pure (wpAny_bind fin))
    | exact wpAny_bind fin
theorem Ze4 {X:Cx}{pins:List (Addr×Obj)}{σ:St}{H:Hp}{s:Shared}{a:Addr}{y:V}{o:Option V}(I:Inv X pins σ H s)(g:ZU H a y o):s.TypeIs (.ref a) "dict":=by
  rcases g with ⟨kvs,k,e,_,_⟩|⟨kvs,k,b,e,_,_,_⟩
  . obtain⟨_,_,vs,_,dd⟩:=Zbf I.hok e;exact dd.typeIs
  . obtain⟨_,_,xs,_,dd⟩:=Zc5 I.hok e;exact dd.typeIs
noncomputable def tDGet (td ty:TE):TE:=λ σ H Q=>td σ H λ x H1=>ty σ H1 λ y H2=>∃ a v,x = .ref a/\ZU H2 a y (some v)/\Q v H2
noncomputable def tDIn (ty td:TE):TE:=λ σ H Q=>ty σ H λ y H1=>td σ H1 λ x H2=>∃ a o,x = .ref a/\ZU H2 a y o/\Q (.bl o.isSome) H2
noncomputable def Zie (ty td:TE):TE:=λ σ H Q=>ty σ H λ y H1=>td σ H1 λ x H2=>∃ a o,x = .ref a/\ZU H2 a y o/\Q (.bl (!o.isSome)) H2
noncomputable def sDPut (td ty tv:TE):TS:=λ D σ H=>tv σ H λ v H1=>td σ H1 λ x H2=>ty σ H2 λ y H3=>∃ a H4,x = .ref a/\Jm H3 a y v H4/\D.nx σ H4
section
variable {X:Cx}{o i e value:Expr}{pos pos' tpos:Pos}{td ty tv:TE}
theorem YF (hu:X.A.units+1<cLine)(ho:PE X o td)(hi:PE X i ty)(hs:NoSl i):PE X (.Subscript o i pos) (tDGet td ty):=by
 refine⟨?_⟩;intro pins s σ H Q I h;refine Zif PySem.F.slot_dict_getitem.lookup hs (thn (ho pins s σ H _ I h) λ u s1 ⟨x,H1,I1,rx,q1⟩=>thn (hi pins s1 σ H1 _ I1 q1) λ iv s2 zz9=>?_);obtain⟨y,H2,I2,ry,a,v,ex,g,q2⟩:=zz9;subst ex;obtain rfl:u=Value.ref a:=rx;exact⟨Ze4 I2 g,ZgP hu I2 g ry λ w' s3 I3 rw'=>⟨v,H2,I3,rw',q2⟩⟩
theorem ZaD (hu:X.A.units+1<cLine)(hi:PE X i ty)(ho:PE X o td):PC X .In i o (tDIn ty td):=by
 refine⟨?_⟩;intro pins s σ H Q I h;refine thn (hi pins s σ H _ I h) λ iv s1 ⟨y,H1,I1,ry,q1⟩=>thn (ho pins s1 σ H1 _ I1 q1) λ u s2 zz9=>?_;obtain⟨x,H2,I2,rx,a,ov,ex,g,q2⟩:=zz9;subst ex;obtain rfl:u=Value.ref a:=rx;exact d_in hu I2 g ry λ s3 I3=>⟨.bl ov.isSome,H2,I3,rfl,q2⟩
theorem YR (hu:X.A.units+1<cLine)(hi:PE X i ty)(ho:PE X o td):PC X .NotIn i o (Zie ty td):=by
 refine⟨?_⟩;intro pins s σ H Q I h;refine thn (hi pins s σ H _ I h) λ iv s1 ⟨y,H1,I1,ry,q1⟩=>thn (ho pins s1 σ H1 _ I1 q1) λ u s2 zz9=>?_;obtain⟨x,H2,I2,rx,a,ov,ex,g,q2⟩:=zz9;subst ex;obtain rfl:u=Value.ref a:=rx;exact ZiU hu I2 g ry λ s3 I3=>⟨.bl (!ov.isSome),H2,I3,rfl,q2⟩
theorem Yu (hu:X.A.units+1<cLine)(ho:PE X o td)(hi:PE X i ty)(hv:PE X value tv)(hs:swapsWith value (some (.Subscript o i pos')) pos.line X.env=pure false) :
    PS X (.Assign [.Subscript o i pos'] value pos) (sDPut td ty tv):=by
  refine⟨?_⟩;intro pins s σ H D I h;refine wpAny_Assign_Subscript (thn (hv pins s σ H _ I h) λ r s1 ⟨v,H1,I1,rv,q1⟩=>thn (ho pins s1 σ H1 _ I1 q1) λ u s2 ⟨x,H2,I2,rx,q2⟩=>thn (hi pins s2 σ H2 _ I2 q2) λ iv s3 zz9=>?_) hs;obtain⟨y,H3,I3,ry,a,H4,ex,g,q3⟩:=zz9;subst ex;obtain rfl:u=Value.ref a:=rx;exact ZgO hu I3 g ry rv λ s4 I4=>⟨σ,H4,I4,q3⟩
end
theorem Ze1 {P:Program}{w:World}{H:Hp}(h:Heap)(hb:sysModules<h.objs.size):ZV P w H (h.push { cls:=.type "dict",data:=.dict #[] }) h.objs.size (.dK []):=
 ⟨zero_le _,beq_eq_false_iff_ne.mpr (Ne.symm (ne_of_lt hb)),[], .nil,Heap.DictOf.new h⟩
noncomputable def tDNewK:TE:=λ _ H Q=>∀ p,H p=none->Q (.ref p) (upd H p (.dK []))
section
variable {X:Cx}{pos:Pos}
theorem Yr:PE X (.Dict [] [] pos) tDNewK:=⟨λ pins s σ H Q I h=>
 wpAny_Dict_empty ⟨.ref s.heap.objs.size,_,I.laid (a:=s.heap.objs.size) (o:=.dK []) (t':=s.toks) (λ _ _ q=>Heap.get?_push_of_some _ q) (le_refl _) (Ze1 s.heap I.big),rfl,h _ (I.hok.fresh (le_refl _))⟩⟩
end
structure M2 (X:Cx)(o:Expr)(m:Str)(apos:Pos)(e f:Expr)(cpos:Pos):Prop where
  base:attributeBase o m X.env (eval o X.env)=eval o X.env
  few:((backTo cpos (starEach [e,f] X.env)).all (λ x => !x.1) && (backToKw cpos (keywordEach [] X.env)).all (λ x=>x.1.isSome)
    && decide (([e,f]:List Expr).length+([]:List Keyword).length+(if ([]:List Keyword).isEmpty then 0 else 1)<30))=true
  line:(apos.endLine == cpos.line)=true
  trees:backTo cpos (starEach [e,f] X.env)=[(false,eval e X.env),(false,eval f X.env)]
noncomputable def IsD (H:Hp)(a:Addr):Prop:=(∃ kvs,Rd H a (.dK kvs))\/∃ kvs,Rd H a (.dT kvs)
theorem isD_at {X:Cx}{pins:List (Addr×Obj)}{σ:St}{H:Hp}{s:Shared}{a:Addr}(I:Inv X pins σ H s)(d:IsD H a) :
    s.TypeIs (.ref a) "dict"/\(∀ b,Value.ref a = .ref b->∃ ob,s.heap.get? b=some ob/\ob.dict=none)/\(a == sysModules)=false:=by
  rcases d with ⟨kvs,e⟩|⟨kvs,e⟩
  . obtain⟨_,hd,vs,_,dd⟩:=Zbf I.hok e;refine⟨dd.typeIs,λ b q=>?_,hd⟩;cases q;obtain⟨ob,_,_,h1,h2,_⟩:=dd;exact⟨ob,h1,h2.2.1⟩
  . obtain⟨_,hd,xs,_,dd⟩:=Zc5 I.hok e;refine⟨dd.typeIs,λ b q=>?_,hd⟩;cases q;obtain⟨ob,_,_,h1,h2,_⟩:=dd;exact⟨ob,h1,h2.2.1⟩
section
variable {X:Cx}{pins:List (Addr×Obj)}{σ:St}{H:Hp}{s:Shared}{a:Addr}{y d:V}{u r:Value}{o:Option V}{A:Around}{E:Value->Shared->Prop}
theorem d_get2 {Q:Value->Shared->Prop}(hu:A.units+1<cLine)(I:Inv X pins σ H s)(g:ZU H a y o)(ry:Zx y u)(rd:Zx d r)(h:∀ w' s',Inv X pins σ H s'->Zx (o.getD d) w'->Q w' s') :
    wpAny (model X.prog X.w) A (call (.builtin "dict.get") [.ref a,u,r]) Q E s:=by
  rcases g with ⟨kvs,k,e,ey,l⟩|⟨kvs,k,b,e,ey,eb,l⟩
  . subst ey;obtain⟨z,hd,vs,rel,dd⟩:=Zbf I.hok e;refine call_meetsIn slot_dict_get dd.typeIs PySem.F.entry_dict_get (PySem.F.args_dict_get_3 _ _ _) (meets_dict_get_default (ZT X.prog X.w) a (Zc0 ry) hd r) ⟨_,dd.mapOf,h _ _ (I.tok _) ?_⟩;rw[l];exact(rel.val k).getD rd
  . subst ey;cases (show u=Value.ref b from ry);obtain⟨z,hd,xs,rel,dd⟩:=Zc5 I.hok e;refine call_meetsIn slot_dict_get dd.typeIs PySem.F.entry_dict_get (PySem.F.args_dict_get_3 _ _ _) (meetsH_dict_get_default (tupleKind (ZT X.prog X.w)) a b hd r) ⟨tupleKind_room_in1 hu,k,xs,Zbx I.hok eb,dd,h _ _ (I.tok _) ?_⟩;rw[l];exact(rel.val k).getD rd
end
noncomputable def tDGet2 (td ty tx:TE):TE:=λ σ H Q=>td σ H λ x H1=>∃ a,x = .ref a/\IsD H1 a/\ty σ H1 λ y H2=>tx σ H2 λ z H3=>∃ o,ZU H3 a y o/\Q (o.getD z) H3
section
variable {X:Cx}{o e f:Expr}{apos cpos:Pos}{td ty tx:TE}
theorem Za3 (hu:X.A.units+1<cLine)(ho:PE X o td)(he:PE X e ty)(hf:PE X f tx)(m:M2 X o "get" apos e f cpos):PE X (.Call (.Attribute o "get" apos) [e,f] [] cpos) (tDGet2 td ty tx):=by
  refine⟨?_⟩;intro pins s σ H Q I h;refine wpAny_Call_method m.base m.few m.line PySem.F.plainAttrs_dict slot_dict_get PySem.F.type_dict_get (thn (ho pins s σ H _ I h) λ u s1 zz9=>?_);obtain⟨x,H1,I1,rx,a,ex,d,q1⟩:=zz9;subst ex;obtain rfl:u=Value.ref a:=rx;obtain⟨t1,t2,_⟩:=isD_at I1 d;refine⟨t1,t2,?_⟩;rw[m.trees];refine Calls.callWith_builtin rfl (Calls.evalArgs_plain (Calls.spliced_cons (thn (he pins s1 σ H1 _ I1 q1) λ iv s2 ⟨y,H2,I2,ry,q2⟩=>
    Calls.spliced_cons (thn (hf pins s2 σ H2 _ I2 q2) λ fv s3 ⟨z,H3,I3,rz,ov,g,q3⟩=>Calls.spliced_nil ?_))))
  exact d_get2 hu I3 g ry rz λ w' s4 I4 rw'=>⟨_,H3,I4,rw',q3⟩
end
section
variable {X:Cx}{pins:List (Addr×Obj)}{σ:St}{H:Hp}{s:Shared}{a:Addr}{kvs:List (Key×V)}{A:Around}{E:Value->Shared->Prop}
end
section
variable {X:Cx}{pins:List (Addr×Obj)}{σ:St}{H:Hp}{s:Shared}{a:Addr}{y:V}{u:Value}{A:Around}{E:Value->Shared->Prop}
end
end L2
namespace HT
open PySem PyProof.Rows
section
open PySem.SeqAt
open PySem.AutoSeq1 (wpAny_loadPart')
open PySem.MeetsSeq PySem.MeetsSeq2 PySem.MeetsSeq3
end
section
variable {prog:Program}{w:World}{A:Around}{E:Value->Shared->Prop}{s:Shared}
end
end HT
namespace L2
open PySem PySem.Spec PyProof.Rows
noncomputable abbrev TO:=St->Hp->(Option Int->Hp->Prop)->Prop
noncomputable abbrev POb (X:Cx)(e:Option Expr)(t:TO):Prop:=
  ∀(pins:List (Addr×Obj))(s:Shared)(σ:St)(H:Hp)(Q:Option Int->Hp->Prop),Inv X pins σ H s->t σ H Q ->
    wpAny (model X.prog X.w) X.A (evalPart e X.env) (λ u s'=>∃ o H',Inv X pins σ H' s'/\IsPart u o/\Q o H') X.xe s
structure PO (X:Cx)(e:Option Expr)(t:TO):Prop where
  go:POb X e t
instance {X:Cx}{e:Option Expr}{t:TO}:CoeFun (PO X e t) λ _=>POb X e t:=⟨PO.go⟩
noncomputable def ZfK:TO:=λ _ H Q=>Q none H
noncomputable def tPart (t:TE):TO:=λ σ H Q=>t σ H λ x H1=>∃ i,x = .int i/\Q (some i) H1
section
variable {X:Cx}{e:Expr}{te:TE}{lo hi:Option Expr}{tl th:TO}{pos p2:Pos}
theorem ZfQ:PO X none ZfK:=by
 refine⟨?_⟩;intro pins s σ H Q I h;rw[evalPart_none];exact wpAny_pure ⟨none,H,I, .none,h⟩
theorem ZfP (h:PE X e te):PO X (some e) (tPart te):=by
 refine⟨?_⟩;intro pins s σ H Q I hw;rw[evalPart_some];refine thn (h pins s σ H _ I hw) λ u s1 zz9=>?_;obtain⟨x,H1,I1,r1,q1⟩:=zz9;obtain⟨i,rfl,q⟩:=q1;obtain⟨t,rfl⟩:=r1;exact⟨some i,H1,I1, .int i t,q⟩
noncomputable def SlR (X:Cx)(r:V->Option Int->Option Int->Hp->VK->Prop):Prop:=
  ∀(pins:List (Addr×Obj))(s:Shared)(σ:St)(H:Hp)(x:V)(v vl vu:Value)(lo hi:Option Int)(sl:Addr)(Q:VK),Inv X pins σ H s->Zx x v->s.heap.IsSliceOf sl vl vu .none->IsPart vl lo->IsPart vu hi->r x lo hi H Q ->
    ∃ T id,typeLookup (.type T) "__getitem__"=pure (some (.builtin id))/\s.TypeIs v T/\wpAny (model X.prog X.w) X.A (getItem v (.ref sl)) (EP X pins σ Q) X.xe s
noncomputable def tSl (r:V->Option Int->Option Int->Hp->VK->Prop)(te:TE)(tl th:TO):TE:=λ σ H Q=>te σ H λ x H1=>tl σ H1 λ l H2=>th σ H2 λ u H3=>r x l u H3 Q
theorem ZeL {r:V->Option Int->Option Int->Hp->VK->Prop}(hr:SlR X r)(he:PE X e te)(hl:PO X lo tl)(hu:PO X hi th):PE X (.Subscript e (.Slice lo hi none p2) pos) (tSl r te tl th):=by
 refine⟨?_⟩;intro pins s σ H Q I h;refine Subscript_ (thn (he pins s σ H _ I h) λ v s1 zz9=>?_);obtain⟨x,H1,I1,r1,q1⟩:=zz9;refine wpAny_Slice (thn (hl pins s1 σ H1 _ I1 q1) λ vl s2 ⟨l,H2,I2,pl,q2⟩=>thn (hu pins s2 σ H2 _ I2 q2) λ vu s3 zz9=>?_);obtain⟨u,H3,I3,pu,q3⟩:=zz9;rw[evalPart_none];refine wpAny_pure ?_;have I4:Inv X pins σ H3 { s3 with heap:=s3.heap.push { cls:=.type "slice",data:=.fields #[vl,vu, .none] } }:=I3.kept (t':=s3.toks) λ b ob q=>Heap.get?_push_of_some _ q;obtain⟨T,id,hT,ht,hg⟩:=hr pins { s3 with heap:=s3.heap.push { cls:=.type "slice",data:=.fields #[vl,vu, .none] } } σ H3 x v vl vu l u s3.heap.objs.size Q I4 r1 (Heap.IsSliceOf.new ..) pl pu q3;show wpAny (model X.prog X.w) X.A (subscriptTail e (.Slice lo hi none p2) v (.ref s3.heap.objs.size)) (EP X pins σ Q) X.xe { s3 with heap:=s3.heap.push { cls:=.type "slice",data:=.fields #[vl,vu, .none] } };exact tail_any (ops:=[.ref s3.heap.objs.size,v]) ht hT hg (by with_unfolding_all rfl)
end
open PySem PySem.Spec PyProof.Rows
noncomputable def ixN (n:Nat)(i:Int):Option Nat:=if 0<=i then (if i<n then some i.toNat else none) else if -(n:Int)<=i then some (i+n).toNat else none
noncomputable def atI {α:Type}(xs:List α)(i:Int):Option α:=(ixN xs.length i).bind λ j=>xs[j]?
theorem Zf4 {n:Nat}{i:Int}{j:Nat}(h:ixN n i=some j):seqIndex? i n=some j/\j<n /\ -(n:Int)<=i/\i<n:=by
  unfold ixN at h
  by_cases h0:0<=i
  . rw[if_pos h0]at h
    by_cases h1:i<n
    . rw[if_pos h1]at h;have e:i.toNat=j:=Option.some.inj h;exact⟨by rw[seqIndex_of h0 h1,e],by omega,by omega,h1⟩
    . rw[if_neg h1]at h;cases h
  . rw[if_neg h0]at h
    by_cases h1 : -(n:Int)<=i
    . rw[if_pos h1]at h;have e:(i+n).toNat=j:=Option.some.inj h;exact⟨by rw[seqIndex_neg (by omega) h1,e],by omega,h1,by omega⟩
    . rw[if_neg h1]at h;cases h
theorem Zey {α:Type}{xs:List α}{i:Int}{v:α}(h:atI xs i=some v):∃ j,seqIndex? i xs.length=some j/\xs[j]? = some v/\j<xs.length /\ -(xs.length:Int)<=i/\i<xs.length:=by
  unfold atI at h;cases e:ixN xs.length i with
  |none=>rw[e]at h;cases h
  |some j=>
    rw[e]at h;obtain⟨h1,h2,h3,h4⟩:=Zf4 e;exact⟨j,h1,h,h2,h3,h4⟩
theorem Xy {α:Type}{xs:List α}{j:Nat}{v:α}(h:xs[j]? = some v):atI xs (j:Int)=some v:=by
  have hj:j<xs.length:=(List.getElem?_eq_some_iff.mp h).1;have e:ixN xs.length (j:Int)=some j:=by
    unfold ixN;rw[if_pos (by omega),if_pos (by omega)];simp
  unfold atI;rw[e];exact h
noncomputable def ZiZ (b:Expr):Prop:=∀ o i,subscripted b false o i=operate [o,i] (getItem o i)
noncomputable def IxR (X:Cx)(r:R2):Prop:=
  ∀(value slice:Expr)(pins:List (Addr×Obj))(s:Shared)(σ:St)(H:Hp)(x y:V)(v u:Value)(Q:VK),Inv X pins σ H s->Zx x v->Zx y u->r x y H Q ->
    subscripted slice false v u=operate [v,u] (getItem v u)->wpAny (model X.prog X.w) X.A (subscriptTail value slice v u) (EP X pins σ Q) X.xe s
noncomputable def MtR (X:Cx)(id:String)(r:V->List V->Hp->VK->Prop):Prop:=
  ∀(pins:List (Addr×Obj))(s:Shared)(σ:St)(H:Hp)(x:V)(xs:List V)(v:Value)(us:List Value)(Q:VK),Inv X pins σ H s->Zx x v->ZG xs us->r x xs H Q ->
    wpAny (model X.prog X.w) X.A (call (.builtin id) (v::us)) (EP X pins σ Q) X.xe s
section
variable {X:Cx}{a b:Expr}{ta tb:TE}{pos:Pos}
theorem Zl {r:R2}(hr:IxR X r)(ha:PE X a ta)(hb:PE X b tb)(hs:ZiZ b):PE X (.Subscript a b pos) (tOp r ta tb):=by
 refine⟨?_⟩;intro pins s σ H Q I h;exact Subscript_ (binT ha hb I h λ v u s2 x y H2 I2 rx ry q=>hr a b pins s2 σ H2 x y v u Q I2 rx ry q (hs _ _))
noncomputable def rIxL (K:Frag):R2:=λ x y H Q=>∃ p xs i v,x = .ref p/\y = .int i/\SqL K H p xs/\atI xs i=some v/\Q v H
noncomputable def ZeJ (K:Frag):R2:=λ x y H Q=>∃ p xs i v,x = .ref p/\y = .int i/\SqT K H p xs/\atI xs i=some v/\Q v H
noncomputable def rIxS:R2:=λ x y H Q=>∃ z i c,x = .str z/\y = .int i/\z.length<=sizeLine/\atI z.cps.toList i=some c/\Q (.str ⟨#[c]⟩) H
theorem Yb:IxR X (rIxL X.K):=by
  intro value slice pins s σ H x y v u Q I rx ry h hs;obtain⟨p,xs,i,z,rfl,rfl,hq,he,q⟩:=h;cases rx;obtain⟨t,rfl⟩:=ry;obtain⟨its,r,pl,hz⟩:=I.list hq;obtain⟨j,h1,h2,h3,h4,h5⟩:=Zey he;obtain⟨w,ew,rw'⟩:=r.get h2;have hl:=r.length;have hn:=Zbt;have fin:EP X pins σ Q w s:=⟨z,H,I,rw',q⟩
  by_cases h0:0<=i
  . have hj:i.toNat=j:=by
      rw[seqIndex_of h0 h5]at h1;exact Option.some.inj h1
    exact item_listR pl.isList h0 (by omega) (by rw[hj];simpa using ew) fin hs
  . have hj:(i+(its.toArray.size:Int)).toNat=j:=by
      rw[seqIndex_neg (by omega) h4]at h1;rw[size_toArray,<- hl];exact Option.some.inj h1
    exact subscriptTail_builtinR (x:=w) pl.isList.typeIs slot_list_getitem.lookup
      (wpAny_getItem_list_neg (Q:=λ r s'=>r=w/\EP X pins σ Q r s') pl.isList (by omega) (by rw[size_toArray] <;> omega) (by omega) (by rw[hj];simpa using ew) ⟨rfl,fin⟩) hs
theorem Zj:IxR X (ZeJ X.K):=by
  intro value slice pins s σ H x y v u Q I rx ry h hs;obtain⟨p,xs,i,z,rfl,rfl,hq,he,q⟩:=h;cases rx;obtain⟨t,rfl⟩:=ry;obtain⟨its,r,pl,hz⟩:=I.tuple hq;obtain⟨j,h1,h2,h3,h4,h5⟩:=Zey he;obtain⟨w,ew,rw'⟩:=r.get h2;have hl:=r.length;have hn:=Zbt;have fin:EP X pins σ Q w s:=⟨z,H,I,rw',q⟩;exact subscriptTail_builtinR (x:=w) pl.typeIs slot_tuple_getitem.lookup
    (getItem_tuple (j:=j) (Q:=λ r s'=>r=w/\EP X pins σ Q r s') pl (by omega) (by omega) (by rw[size_toArray,<- hl];exact h1) (by simpa using ew) ⟨rfl,fin⟩) hs
theorem ZhL:IxR X rIxS:=by
  intro value slice pins s σ H x y v u Q I rx ry h hs;obtain⟨z,i,c,rfl,rfl,hz,he,q⟩:=h;obtain⟨t,rfl⟩:=rx;obtain⟨t',rfl⟩:=ry;obtain⟨j,h1,h2,h3,h4,h5⟩:=Zey he;have hl:z.cps.toList.length=z.length:=by simp[Str.length]
  rw[hl]at h1 h4 h5;have hn:=Zbt;exact tail_any (typeIs_str s z t) slot_str_getitem.lookup (getItem_str (c:=c) (by
    have e1:decide (i < -(2 ^ 63:Int))=false:=decide_eq_false (by omega);have e2:decide (i>=2 ^ 63)=false:=decide_eq_false (by omega);rw[e1,e2,Bool.or_false]) (by rw[h1];simpa using h2) ⟨.str ⟨#[c]⟩,H,I.tok _,⟨_,rfl⟩,q⟩) hs
theorem Zfx (its:List Value)(n j:Nat)(u:Value):Obj.mapSeq (·.setIfInBounds j u) { cls:=.type "list",data:=.seq its.toArray n } = { cls:=.type "list",data:=.seq (its.set j u).toArray n }:=by
 simp[Obj.mapSeq]
theorem Inv.lst {pins:List (Addr×Obj)}{σ:St}{H:Hp}{s:Shared}{p:Addr}{xs:List V}(I:Inv X pins σ H s)(h:H p=some (.lst xs)) :
    ∃(its:List Value)(n:Nat),ZG xs its/\s.heap.get? p=some { cls:=.type "list",data:=.seq its.toArray n }/\xs.length<=sizeLine:=by
  obtain⟨z,its,n,r,e⟩:=I.hok p _ h;exact⟨its,n,r,e,z⟩
theorem Inv.lstUpd {pins:List (Addr×Obj)}{σ:St}{H:Hp}{s:Shared}{p:Addr}{xs ys:List V}{its its':List Value}{n n':Nat}{f:Obj->Obj}(I:Inv X pins σ H s)(h:H p=some (.lst xs))(ho:s.heap.get? p=some { cls:=.type "list",data:=.seq its.toArray n })(hf:f { cls:=.type "list",data:=.seq its.toArray n } = { cls:=.type "list",data:=.seq its'.toArray n' })(r:ZG ys its')(hz:ys.length<=sizeLine)(t:Nat) :
    Inv X pins σ (upd H p (.lst ys)) { s with heap:=s.heap.update p f,toks:=t }:=by
  have e:(s.heap.update p f).get? p=some { cls:=.type "list",data:=.seq its'.toArray n' }:=by
    rw[Heap.get?_update_self f ho (by rw[hf] <;> rfl),hf]
  refine I.write (x:=p) (e:=p) (by rw[h];trivial) (.inl rfl) (λ b u hb q=>(Heap.get?_update_other _ _ (Ne.symm hb)).trans q) ⟨_,e⟩ ?_;exact⟨hz,its',n',r,e⟩
noncomputable def rSetL:V->V->V->Hp->(Hp->Prop)->Prop:=λ o i v H Q=>∃ p xs k j,o = .ref p/\i = .int k/\H p=some (.lst xs)/\ixN xs.length k=some j/\Q (upd H p (.lst (xs.set j v)))
theorem Zha:PSet X rSetL:=by
  refine⟨?_⟩;intro pins s σ H o i v ov iv u Q I ro ri rv h;obtain⟨p,xs,k,j,rfl,rfl,hp,hj,q⟩:=h;cases ro;obtain⟨t,rfl⟩:=ri;obtain⟨its,n,r,ho,hz⟩:=I.lst hp;obtain⟨h1,h2,h3,h4⟩:=Zf4 hj;have hl:=r.length;have hn:=Zbt;have I':Inv X pins σ (upd H p (.lst (xs.set j v))) { s with heap:=s.heap.update p (Obj.mapSeq (·.setIfInBounds j u)) }:=
    I.lstUpd hp ho (Zfx its n j u) (r.set rv j) (by rw[List.length_set];exact hz) s.toks
  by_cases h0:0<=k
  . have hk:k.toNat=j:=by
      rw[seqIndex_of h0 h4]at h1;exact Option.some.inj h1
    exact PySem.W.ki_setAt ho h0 (by omega) (by rw[size_toArray,<- hl];exact h4) (by rw[hk];exact⟨_,I',q⟩)
  . have hk:(k+(its.toArray.size:Int)).toNat=j:=by
      rw[seqIndex_neg (by omega) h3]at h1;rw[size_toArray,<- hl];exact Option.some.inj h1
    exact PySem.W.ki_setBack ho (by omega) (by rw[size_toArray,<- hl];exact h3) (by omega) (by rw[hk];exact⟨_,I',q⟩)
noncomputable def ZbK:V->Bool
  |.non=>true
  |.bl _=>true
  |.int _=>true
  |.str _=>true
  |_=>false
noncomputable def eqV:V->V->Bool
  |.non, .non=>true
  |.bl a, .bl b=>a == b
  |.bl a, .int b=>(if a then 1 else 0) == b
  |.int a, .bl b=>a == (if b then 1 else 0)
  |.int a, .int b=>a == b
  |.str a, .str b=>a == b
  |_,_=>false
theorem eqAt_V {A:Around}{s:Shared}{y x:V}{u v:Value}(ry:Zx y u)(rx:Zx x v)(fy:ZbK y=true)(fx:ZbK x=true):SeqAt.EqAt A s u v (eqV y x):=by
  cases y with
  |non=>
    cases ry;cases x with
    |non=>cases rx;exact SeqAt.EqAt.same _
    |bl b=>cases rx;exact SeqAt.EqAt.none_bool b
    |int b=>obtain⟨t,rfl⟩:=rx;exact SeqAt.EqAt.none_int b t
    |str b=>obtain⟨t,rfl⟩:=rx;exact SeqAt.EqAt.none_str b t
    |_=>exact absurd (show false=true from fx) Bool.false_ne_true
  |bl a=>
    cases ry;cases x with
    |non=>cases rx;exact SeqAt.EqAt.bool_none a
    |bl b=>cases rx;exact SeqAt.EqAt.bool_bool a b
    |int b=>obtain⟨t,rfl⟩:=rx;exact SeqAt.EqAt.bool_int a b t
    |str b=>obtain⟨t,rfl⟩:=rx;exact SeqAt.EqAt.bool_str a b t
    |_=>exact absurd (show false=true from fx) Bool.false_ne_true
  |int a=>
    obtain⟨t',rfl⟩:=ry;cases x with
    |non=>cases rx;exact SeqAt.EqAt.int_none a t'
    |bl b=>cases rx;exact SeqAt.EqAt.int_bool a t' b
    |int b=>obtain⟨t,rfl⟩:=rx;exact SeqAt.EqAt.int_int a t' b t
    |str b=>obtain⟨t,rfl⟩:=rx;exact SeqAt.EqAt.int_str a t' b t
    |_=>exact absurd (show false=true from fx) Bool.false_ne_true
  |str a=>
    obtain⟨t',rfl⟩:=ry;cases x with
    |non=>cases rx;exact SeqAt.EqAt.str_none a t'
    |bl b=>cases rx;exact SeqAt.EqAt.str_bool a t' b
    |int b=>obtain⟨t,rfl⟩:=rx;exact SeqAt.EqAt.str_int a t' b t
    |str b=>obtain⟨t,rfl⟩:=rx;exact SeqAt.EqAt.str_str a t' b t
    |_=>exact absurd (show false=true from fx) Bool.false_ne_true
  |_=>exact absurd (show false=true from fy) Bool.false_ne_true
noncomputable def eqU (x:V)(u:Value):Bool:=match u with
  |.none=>eqV .non x
  |.bool b=>eqV (.bl b) x
  |.int i _=>eqV (.int i) x
  |.str z _=>eqV (.str z) x
  |_=>false
theorem ZhV {x y:V}{u:Value}(r:Zx y u)(f:ZbK y=true):eqU x u=eqV y x:=by
  cases y with
  |non=>cases r;rfl
  |bl b=>cases r;rfl
  |int i=>obtain⟨t,rfl⟩:=r;rfl
  |str z=>obtain⟨t,rfl⟩:=r;rfl
  |_=>exact absurd (show false=true from f) Bool.false_ne_true
theorem Zez {x:V}:∀ {xs:List V} {us:List Value},ZG xs us->xs.all ZbK=true->us.any (eqU x)=xs.any λ y=>eqV y x
  |_,_, .nil,_=>rfl
  | y::xs,u::us, .cons r t,f=>by
    rw[List.all_cons,and_eq_true]at f;rw[any_cons,any_cons,ZhV r f.1,Zez t f.2]
theorem ZcW {A:Around}{s:Shared}{x:V}{v:Value}(rx:Zx x v)(fx:ZbK x=true):∀ {xs:List V} {us:List Value},ZG xs us->xs.all ZbK=true->∀ u∈us,SeqAt.EqAt A s u v (eqU x u)
  |_,_, .nil,_=>λ u hu=>by cases hu
  | y::xs,u::us, .cons r t,f=>λ u' hu=>by
    rw[List.all_cons,and_eq_true]at f;rcases List.mem_cons.mp hu with rfl|hu
    . rw[ZhV r f.1];exact eqAt_V r rx f.1 fx
    . exact ZcW rx fx t f.2 u' hu
noncomputable def inV (x:V)(xs:List V):Bool:=xs.any λ y=>eqV y x
noncomputable def rIn (K:Frag)(neg:Bool):R2:=λ x y H Q=>∃ p xs,y = .ref p/\(SqL K H p xs\/SqT K H p xs)/\ZbK x=true/\xs.all ZbK=true/\Q (.bl (if neg then !inV x xs else inV x xs)) H
theorem Zd5:OpR X (compareOp .NotIn) (rIn X.K true):=by
  intro pins s σ H x y v u Q I rx ry h;obtain⟨p,xs,rfl,hq,fx,fs,q⟩:=h;cases ry;rcases hq with hq|hq
  . obtain⟨its,r,pl,hz⟩:=I.list hq;refine SeqAt.notIn_listAt (eqU x) pl.isList (λ w hw=>ZcW rx fx r fs w (by simpa using hw)) ⟨.bl _,H,I,rfl,?_⟩;rw[show its.toArray.any (eqU x)=its.any (eqU x) by simp,Zez r fs];exact q
  . obtain⟨its,r,pl,hz⟩:=I.tuple hq;refine SeqAt.notIn_tupleAt (eqU x) pl (λ w hw=>ZcW rx fx r fs w (by simpa using hw)) ⟨.bl _,H,I,rfl,?_⟩;rw[show its.toArray.any (eqU x)=its.any (eqU x) by simp,Zez r fs];exact q
theorem Zex:X1 X (.type "list") (λ xs H Q=>∃ p ys,xs=[.ref p]/\(SqL X.K H p ys\/SqT X.K H p ys)/\∀ l,H l=none->Q (.ref l) (upd H l (.lst ys))):=by
  intro pins s σ H xs us Q I r h;obtain⟨p,ys,rfl,hq,q⟩:=h;obtain⟨u,rfl,rx⟩:=Zah r;cases rx;have fin:∀(its:List Value),ZG ys its->ys.length<=sizeLine->∀(h':Heap)(c':Nat),(∀ b o',s.heap.get? b=some o'->h'.get? b=some o') ->
      h'.get? s.heap.objs.size=some { cls:=.type "list",dict:=none,data:=.seq its.toArray c',slots := #[] }->EP X pins σ Q (.ref s.heap.objs.size) { s with heap:=h' }:=λ its r' hz h' c' kp e=>
    ⟨.ref s.heap.objs.size,_,I.laid (t':=s.toks) kp (le_refl _) (show ZV X.prog X.w _ h' _ (.lst ys) from⟨hz,its,c',r',e⟩),rfl,q _ (I.hok.fresh (le_refl _))⟩
  rcases hq with hq|hq
  . obtain⟨its,r',pl,hz⟩:=I.list hq;have hlen:=r'.length;obtain⟨o,ho,hc,n,hd⟩:=pl.isList;exact call_list_seq p (.inl rfl) ho hc hd (λ h' c' kp e=>fin its r' hz h' c' kp e) (by simp only[size_toArray] <;> omega)
  . obtain⟨its,r',pl,hz⟩:=I.tuple hq;have hlen:=r'.length;obtain⟨o,ho,hc,n,hd⟩:=pl;exact call_list_seq p (.inr rfl) ho hc hd (λ h' c' kp e=>fin its r' hz h' c' kp e) (by simp only[size_toArray] <;> omega)
noncomputable def tyV (K:Frag)(T:String)(x:V)(H:Hp):Prop:=match x with
  |.str _=>T="str"
  |.int _=>T="int"
  | .ref p=>(T="list"/\∃ xs,SqL K H p xs)\/(T="tuple"/\∃ o,K.lookup p=some o/\o.cls = .type "tuple"/\o.dict=none) \/
      (T="dict"/\((∃ kvs,H p=some (.dK kvs))\/∃ kvs,H p=some (.dT kvs)))\/(T="set"/\∃ S n,H p=some (.set S n))
  |_=>False
theorem tyV_is {pins:List (Addr×Obj)}{σ:St}{H:Hp}{s:Shared}{T:String}{x:V}{v:Value}(I:Inv X pins σ H s)(r:Zx x v)(ty:tyV X.K T x H) :
    s.TypeIs v T/\∀ a,v = .ref a->∃ ob,s.heap.get? a=some ob/\ob.dict=none:=by
  cases x with
  |str z=>
    obtain⟨t,rfl⟩:=r;cases (show T="str" from ty);exact⟨typeIs_str s z t,λ _ e=>nomatch e⟩
  |int i=>
    obtain⟨t,rfl⟩:=r;cases (show T="int" from ty);exact⟨typeIs_int s i t,λ _ e=>nomatch e⟩
  |ref p=>
    cases r;rcases ty with ⟨rfl,xs,hq⟩|⟨rfl,o,hk,hc,hd⟩|⟨rfl,hk⟩|⟨rfl,S,n,hk⟩
    . obtain⟨its,_,pl,_⟩:=I.list hq;refine⟨pl.isList.typeIs,λ a e=>?_⟩;cases e;obtain⟨o,n,e,c,hd,_⟩:=pl;exact⟨o,e,hd⟩
    . refine⟨⟨o,I.kIn p o hk,hc⟩,λ a e=>?_⟩;cases e;exact⟨o,I.kIn _ o hk,hd⟩
    . have z:∃ o,s.heap.get? p=some o/\o.ExactDict:=by
        rcases hk with ⟨kvs,hk⟩|⟨kvs,hk⟩
        . obtain⟨_,_,_,_,o,_,_,e,ex,_⟩:=I.hok p _ hk;exact⟨o,e,ex⟩
        . obtain⟨_,_,_,_,o,_,_,e,ex,_⟩:=I.hok p _ hk;exact⟨o,e,ex⟩
      obtain⟨o,e,ex⟩:=z;refine⟨⟨o,e,ex.1⟩,λ a e2=>?_⟩;cases e2;exact⟨o,e,ex.2.1⟩
    . obtain⟨o,_,_,_,e,ex,_⟩:=I.hok p _ hk;refine⟨⟨o,e,ex.1⟩,λ a e2=>?_⟩;cases e2;exact⟨o,e,ex.2.1⟩
  |_=>exact False.elim ty
noncomputable def tBM (K:Frag)(T:String)(r:V->List V->Hp->VK->Prop)(to:TE)(t:TA):TE:=λ σ H Q=>to σ H λ x H1=>tyV K T x H1/\t σ H1 λ xs H2=>r x xs H2 Q
variable {o e:Expr}{es:List Expr}{to:TE}{t:TA}{name:Str}{apos cpos:Pos}{T id:String}{r:V->List V->Hp->VK->Prop}
theorem Zam (pa:PlainAttrs T)(slot:Slot T name id)(hty:typeOf (.builtin id)=pure (.type "method_descriptor"))(hm:MtR X id r)(ho:PE X o to)(ha:PA X (e::es) t)(hbase:attributeBase o name X.env (eval o X.env)=eval o X.env:=by rfl)(hfew:((backTo cpos (starEach (e::es) X.env)).all (λ x => !x.1) && (backToKw cpos (keywordEach [] X.env)).all (λ x=>x.1.isSome)
      && decide ((e::es).length+([]:List Keyword).length+(if ([]:List Keyword).isEmpty then 0 else 1)<30))=true:=by rfl)(hline:(apos.endLine == cpos.line)=true:=by rfl)(hs:starEach (e::es) X.env=(false,eval e X.env)::starEach es X.env:=by rfl)(hplain:(backTo cpos (starEach es X.env)).any (·.1)=false:=by rfl) :
    PE X (.Call (.Attribute o name apos) (e::es) [] cpos) (tBM X.K T r to t):=by
  refine⟨?_⟩;intro pins s σ H Q I h;refine wpAny_Call_method_late hbase hfew hline rfl (thn (ho pins s σ H _ I h) λ v s1 zz9=>?_);obtain⟨x,H1,I1,r1,ty,q1⟩:=zz9;obtain⟨h1,h2⟩:=tyV_is I1 r1 ty;refine⟨T,id,pa,slot,hty,h1,h2,?_⟩;have hA:=ha cpos pins s1 σ H1 _ I1 q1;rw[hs]at hA ⊢;refine Calls.callWith_builtin (by show(false || (backTo cpos (starEach es X.env)).any (·.1))=false;rw[hplain] <;> rfl) (Calls.evalArgs_plain ?_);exact thn hA λ us s2 ⟨vs,H2,I2,r2,q2⟩=>hm pins s2 σ H2 x vs v us Q I2 r1 r2 q2
/- xs.append(e),list.index on a module's tuple .. are MtR facts of 06m -/
end
open PySem PySem.Spec PyProof.Rows
noncomputable def MtM (X:Cx)(id:String)(r:V->List V->Hp->VK->Prop):Prop:=
  ∀(pins:List (Addr×Obj))(s:Shared)(σ:St)(H:Hp)(x:V)(xs:List V)(v:Value)(us:List Value)(Q:VK),Inv X pins σ H s->Zx x v->ZG xs us->r x xs H Q ->
    wpAny (model X.prog X.w) X.A (call (.builtin id) (v::us)) (EP X pins σ Q) X.xe s
theorem ZG.one:∀ {x:V} {us:List Value},ZG [x] us->∃ u,us=[u]/\Zx x u
  |_,_, .cons r .nil=>⟨_,rfl,r⟩
section
variable {X:Cx}{pins:List (Addr×Obj)}{σ:St}{H:Hp}{s:Shared}{l b:Addr}{xs ys zs:List V}
theorem Inv.lset {its its':List Value}{n:Nat}{f:Array Value->Array Value}{t':Nat}(I:Inv X pins σ H s)(hH:H l=some (.lst xs))(e:s.heap.get? l=some { cls:=.type "list",data:=.seq its.toArray n })(hf:f its.toArray=its'.toArray)(hv:ZG ys its')(hz:ys.length<=sizeLine) :
    Inv X pins σ (upd H l (.lst ys)) { s with heap:=s.heap.update l (Obj.mapSeq f),toks:=t' }:=by
  have q:=PySem.IsL.update e f;rw[hf]at q;refine I.write (x:=l) (e:=l) (by rw[hH];exact trivial) (.inl rfl) (λ b' u hb hu=>(Heap.get?_update_other s.heap (Obj.mapSeq f) (Ne.symm hb)).trans hu) ⟨_,q⟩ ?_;exact⟨hz,its',_,hv,q⟩
theorem Inv.lnew {its:List Value}{t':Nat}(I:Inv X pins σ H s)(hv:ZG ys its)(hz:ys.length<=sizeLine) :
    Inv X pins σ (upd H s.heap.objs.size (.lst ys)) { s with heap:=s.heap.push { cls:=.type "list",data:=.seq its.toArray },toks:=t' }:=
  I.laid (λ _ _ q=>Heap.get?_push_of_some _ q) (le_refl _) ⟨hz,its,0,hv,Heap.get?_push_size _ rfl⟩
theorem Inv.fresh (I:Inv X pins σ H s):H s.heap.objs.size=none:=I.hok.fresh (le_refl _)
theorem Inv.lstM (I:Inv X pins σ H s)(hH:H l=some (.lst xs)):xs.length<=sizeLine/\∃(its:List Value)(n:Nat),ZG xs its/\xs.length=its.length/\s.heap.get? l=some { cls:=.type "list",data:=.seq its.toArray n }:=by
 obtain⟨z,its,n,r,e⟩:=I.hok l _ hH;exact⟨z,its,n,r,r.length,e⟩
end
section
variable {X:Cx}
noncomputable def Zim:V->List V->Hp->VK->Prop:=λ x vs H Q=>∃ l xs y,x = .ref l/\vs=[y]/\H l=some (.lst xs)/\xs.length<sizeLine/\Q .non (upd H l (.lst (xs++[y])))
theorem XX:MtM X "list.append" Zim:=by
 intro pins s σ H x vs v us Q I rx rv h;obtain⟨l,xs,y,rfl,rfl,hH,hz,q⟩:=h;cases rx;obtain⟨u,rfl,ru⟩:=rv.one;obtain⟨z,its,n,r,hl,e⟩:=I.lstM hH;refine call_meets F.slot_list_append ⟨_,e,rfl⟩ F.entry_list_append (F.args_list_append_2 _ _) (PySem.list_append l its.toArray n u (by rw[size_toArray];omega)) ⟨e,?_⟩;refine⟨.non,_,I.lset (its':=its++[u]) hH e (by simp) (r.append (.cons ru .nil)) ?_,rfl,q⟩;rw[length_append,length_singleton];omega
noncomputable def rCat:R2:=λ x y H Q=>∃ l b xs zs,x = .ref l/\y = .ref b/\H l=some (.lst xs)/\H b=some (.lst zs)/\xs.length+zs.length<=sizeLine/\∀ p,H p=none->Q (.ref p) (upd H p (.lst (xs++zs)))
theorem op_cat:OpR X (binaryOp .Add) rCat:=by
 intro pins s σ H x y v u Q I rx ry h;obtain⟨l,b,xs,zs,rfl,rfl,hH,hB,hz,q⟩:=h;cases rx;cases ry;obtain⟨z,its,n,r,hl,e⟩:=I.lstM hH;obtain⟨z2,its2,n2,r2,hl2,e2⟩:=I.lstM hB;refine PySem.P.add_list e e2 ?_ (by rw[size_toArray,size_toArray];omega);have ea:its.toArray++its2.toArray=(its++its2).toArray:=by simp
 rw[ea];exact⟨.ref _,_,I.lnew (t':=s.toks) (r.append r2) (by rw[length_append];omega),rfl,q _ I.fresh⟩
end
section
variable {prog:Program}{w:World}{A:Around}{E:Value->Shared->Prop}{s:Shared}
end
section
variable {X:Cx}
end
end L2
namespace Att
open PySem PySem.W PySem.Calls PyProof.Rows
theorem Zb4 {P:Params}{h:Heap}:∀(ns:List Int)(vs:List Value),WellAll P h vs (ns.map WData.int)->IntsAre vs ns:=by
  intro ns
  induction ns with
  |nil=>
    intro vs w;rw[map_nil]at w;cases w;exact .nil
  |cons n ns ih=>
    intro vs w;rw[map_cons]at w;cases w with
    |cons a b=>
      cases a;exact .cons _ _ (ih _ b)
theorem Zgs {l:OpenLaw}{n:Nat}(hn:l.most=some n){P:Params}{h:Heap}{args:List WData}{vals:List Value}(hpre:l.row.toRowW.claim.pre args=true)(hwl:WellAll P h vals args) :
    ∃ a vs ns,vals=[Value.ref a]/\args=[WData.list (ns.map WData.int)]/\h.get? a=some { cls:=.type "list",data:=.seq vs.toArray }/\IntsAre vs ns/\ns.length<=n:=by
  have hsh:WShape.hasAll [] args [.list .int]=true:=(pre_splitW hpre).1;have hc:l.pre.holds [] { args:=args }=true:=(pre_splitW hpre).2;obtain⟨d,r,rfl,h1,h2⟩:=hasAllW_cons hsh;obtain rfl:=hasAllW_nil h2;obtain⟨xs,rfl,h3⟩:=hasW_list h1;obtain⟨ns,rfl⟩:=items_int h3;have hlen:ns.length<=n:=by
    unfold OpenLaw.pre at hc;have h4:(WTm.not (.lt (.lit (.int (n:Int))) (.len (.arg 0)))).holds [] { args:=[.list (ns.map .int)] }=true:=by
      have h4:=(holds_andW hc).1;rw[hn]at h4;exact h4
    have h5:=condW_of h4 (w_not (w_lt w_lit (w_len_list (w_arg rfl))));rw[length_map]at h5;refine Nat.le_of_not_lt λ q=>?_;have q':(n:Int)<((ns.length:Nat):Int):=by omega
    first
      | (rw[decide_eq_true q']at h5;exact absurd h5 (by decide))
      | (simp at h5;omega)
  cases hwl with
  |cons w1 w2=>
    cases w2;cases w1 with
    |list ho hall=>exact⟨_,_,ns,rfl,rfl,ho,Zb4 ns _ hall,hlen⟩
theorem Zgv (l:OpenLaw)(args:List WData):l.row.toRowW.claim.post args (.bool true) args=true:=
  postW_of (r:=l.row.toRowW) (X:=(true == true))
    (show WShape.has [] (.bool true) .bool=true by first|rfl|decide|simp[WShape.has,WShape.arms,WShape.armsAll])
    (show(WTm.eq .res (.lit (.bool true))).value [] { args:=args,res:=some (.bool true),after:=args }=some (.bool (true == true)) from w_eq_bool (w_res rfl) w_lit) rfl
theorem attach_call {l:OpenLaw}{n:Nat}{q:Program}{loose:List Str}{XP:(Str->Option Value)->Heap->Prop}{YP:World->Heap->Prop}{d:DefRec}(hn:l.most=some n)(hdf:d.params.defaults=[])(call:∀(w:World)(s₀ s₁:Shared)(mg mb:Str->Option Value)(fa:Addr)(o:Obj)(pm cd doc:Value)(a:Addr)(vs:List Value)(ns:List Int),
      Ground q loose [] XP w s₀ mg mb s₁.heap->YP w s₁.heap ->
      s₁.heap.get? fa=some o->o.data = .func (docDef d.name d.params d.body d.scope pm cd doc)->s₁.heap.CodeRec cd d.name->mg d.name=some (.ref fa) ->
      s₁.heap.get? a=some { cls:=.type "list",data:=.seq vs.toArray }->IntsAre vs ns->ns.length<=n->s₁.gens = #[] ->
      codeAny (model l.prog w) callerA (.call (.ref fa) ⟨[.ref a],[]⟩) (λ r s'=>r = .ok (.ret (.bool true))/\OldK s₁.heap s'.heap/\s'.os=s₁.os/\AllBare s'.gens) s₁) :
    WalkO q loose XP YP l.row.toRowW d [] (λ f vs=>PySem.call f vs):=by
  intro w s₀ s₁ mg mb G Y fa o pm cd doc dV kV ho hd hcd hD hmg hg args vals as hpre hlay hrd hwl hlo;obtain rfl:dV = .none:=Dflts.none hD hdf;obtain rfl:kV = .none:=Dflts.noKw hD;obtain⟨a,vs,ns,rfl,rfl,hobj,hints,hlen⟩:=Zgs hn hpre hwl;refine enter_call (codeAny_mono (call w s₀ s₁ mg mb fa o pm cd doc a vs ns G Y ho (fd_plain hd) hcd hmg hobj hints hlen hg) λ r s' hq=>?_);obtain⟨rfl,h2,h3,h4⟩:=hq;exact⟨.inl ⟨.bool true, .bool true,[],rfl,λ _=>rfl, .bool true,Zgv l _,λ _=>⟨List.Pairwise.nil,λ _ hm=>(nomatch hm)⟩⟩,h2,h3,h4⟩
section
variable {prog:Program}{w:World}{A:Around}{E:Value->Shared->Prop}{s:Shared}{K:Frag}
noncomputable def ledger (h:Heap)(L d:Addr):List (Addr×Obj):=(List.range h.objs.size).filterMap λ a=>if a=L\/a=d then none else (h.get? a).map λ o=>(a,o)
end
end Att
namespace L2
open PySem PySem.Spec PyProof.Rows
theorem Zdm:∀ {vs:List Value} {ns:List Int},IntsAre vs ns->ZG (ns.map V.int) vs
  |_,_, .nil => .nil
  |_,_, .cons n t h => .cons ⟨t,rfl⟩ (Zdm h)
noncomputable def Only (H:Hp):Prop:=∀ b,H b=none\/∃ o xs,H b=some (.frz o (.lst xs))
theorem ZhE {P:Program}{w:World}{K:Frag}{mg mb:Str->Option Value}{CX:CXT}{k:Nat}{fa a:Addr}{fd:FuncData}{x:Str}{sp:Sp}{s₁:Shared}{vs:List Value}{ns:List Int}(KX:K.In s₁.heap)(hns:s₁.heap.Ns mainGlobals mg)(hb:s₁.heap.Ns builtinsNs mb)(hbb:∀ x:Str,x≠"__name__"->mb x=bootBuiltins x)(hlim:s₁.heap.NoLimit)(hg:s₁.gens = #[])(ha:s₁.heap.get? a=some { cls:=.type "list",data:=.seq vs.toArray })(hi:IntsAre vs ns)(hl:ns.length<=sizeLine)(hr:Room k callerA)(F:∀ base:Heap,K.In base->base.Ns mainGlobals mg->FnOk P w K mg base CX k fa fd [x] sp)(hbind:∀(s:Shared)(u:Value),BindsTo s fd ⟨[u],[]⟩ [(x,u)])(hsp:∀ H:Hp,Only H->SqL K H a (ns.map V.int)->sp [.ref a] H (λ v _=>v = .bl true) λ _ _ _=>False)(hCX:∀ H e s',CX [] H s₁ (λ _ _ _=>False) e s'->False) :
    codeAny (model P w) callerA (.call (.ref fa) ⟨[.ref a],[]⟩) (λ r s'=>r = .ok (.ret (.bool true))/\OldK s₁.heap s'.heap/\s'.os=s₁.os/\AllBare s'.gens) s₁:=by
  have rv:=Zdm hi;have lenV:=hi.length;have core:∀ H:Hp,Only H->SqL K H a (ns.map V.int)->HOk P w H s₁.heap->(∀ b,H b≠none->b=a)->(H a≠none->K.lookup a=none) ->
      codeAny (model P w) callerA (.call (.ref fa) ⟨[.ref a],[]⟩) (λ r s'=>r = .ok (.ret (.bool true))/\OldK s₁.heap s'.heap/\s'.os=s₁.os/\AllBare s'.gens) s₁:=by
    intro H hO hS hok hA hK;have base_of:∀ {b:Addr} {o:Obj},s₁.heap.get? b=some o->H b=none->(Zer s₁.heap H).get? b=some o:=λ e n=>ZhP e n;have noA:∀ {b:Addr} {o:Obj} {es:Array DictEntry} {ep:Nat},s₁.heap.get? b=some o->o.data = .dict es ep->H b=none:=λ {b o es ep} e d=>by
      cases q:H b with
      |none=>rfl
      |some u=>
        have e':b=a:=hA b (by rw[q];simp);subst e';rw[ha]at e;cases e;have d':Data.seq vs.toArray _=Data.dict es ep:=d;cases d'
    have nsK:∀ {b:Addr} {m:Str->Option Value},s₁.heap.Ns b m->(Zer s₁.heap H).Ns b m:=λ {b m} ⟨o,es,ep,e,d,r⟩=>⟨o,es,ep,base_of e (noA e d),d,r⟩;have hKb:K.In (Zer s₁.heap H):=λ b o e=>base_of (KX b o e) (by
      cases q:H b with
      |none=>rfl
      |some u=>
        have e':b=a:=hA b (by rw[q];simp);subst e';rw[hK (by rw[q];simp)]at e;cases e)
    have hM:Mod K mg (Zer s₁.heap H):=⟨hKb,nsK hns,⟨mb,nsK hb,hbb⟩,let ⟨mc,h1,h2⟩:=hlim;⟨mc,nsK h1,h2⟩⟩;have e0:Env0 P w K mg (Zer s₁.heap H) callerA [] s₁ H:=⟨rfl,hM,λ b o e=>ZiA e,Nat.le_of_eq (ZgM _ _),trivial,λ b hb=>absurd (show b∈([]:List Addr) from hb) (by simp),hok, .of_eq hg⟩;refine codeAny_mono ((F _ hKb (nsK hns)).run callerA [] s₁ H ⟨[.ref a],[]⟩ [.ref a] [.ref a] _ _ hr e0 (hbind s₁ (.ref a)) (.cons rfl .nil) (hsp H hO hS)) λ r s' h=>?_;cases r with
    |error e=>exact(hCX H e s' h).elim
    |ok fl=>
      cases fl with
      |next=>exact False.elim h
      |brk=>exact False.elim h
      |cont=>exact False.elim h
      |ret u=>
        obtain⟨v,H',os,bare,un,hok',r',q⟩:=h;have q':v = .bl true:=q;subst q';obtain rfl:u=Value.bool true:=r';refine⟨rfl,OldK.of_keep λ b o e=>?_,os,bare⟩;cases q:H b with
        |none=>exact un.keep b o e q (by intro z;exact absurd (show b∈([]:List Addr) from z) (by simp)) (by simp)
        |some u=>
          rcases hO b with z|⟨ob,xs,z⟩
          . rw[q]at z;cases z
          . have z2:=un.frzs b ob _ z;obtain⟨e1,_⟩:=hok b _ z;obtain⟨e2,_⟩:=hok' b _ z2;rw[e]at e1;cases e1;exact e2
  cases hk:K.lookup a with
  |some o=>
    have e:=KX a o hk;rw[ha]at e;cases e;refine core (λ _=>none) (λ _ => .inl rfl) (.inr ⟨_,vs.toArray,_,hk,rfl,rfl,rfl,by rw[size_toArray,lenV];exact hl,by simpa using rv⟩) (λ b u z=>by have z':(none:Option HO)=some u:=z;cases z') (λ b z=>absurd rfl z) λ z=>absurd rfl z
  |none=>
    refine core (λ b=>if b=a then some (.frz { cls:=.type "list",data:=.seq vs.toArray } (.lst (ns.map V.int))) else none) (λ b=>?_) (.inl (.inr ⟨{ cls:=.type "list",data:=.seq vs.toArray },if_pos rfl⟩)) (λ b u z=>?_) (λ b z=>?_) λ _=>hk
    . by_cases hb:b=a
      . exact .inr ⟨_,_,if_pos hb⟩
      . exact .inl (if_neg hb)
    . by_cases hb:b=a
      . have z':=(if_pos hb).symm.trans z;cases z';subst hb;exact⟨ha,by rw[length_map];exact hl,vs,_,rv,ha⟩
      . have z':=(if_neg hb).symm.trans z;cases z'
    . by_cases hb:b=a
      . exact hb
      . exact absurd (if_neg hb) z
open PySem PySem.Spec PyProof.Rows
theorem walk_of {l:PySem.W.OpenLaw}{n k:Nat}{q:Program}{loose:List Str}{XP:(Str->Option Value)->Heap->Prop}{YP:World->Heap->Prop}{d:DefRec}{K:Params->Frag}{CX:World->CXT}{sp:World->Sp}{x:Str}(hn:l.most=some n)(hn2:n<=sizeLine)(hdf:d.params.defaults=[])(hr:Room k callerA)(hY:∀(w:World)(h:Heap),YP w h->(K w.params).In h)(F:∀(w:World)(mg:Str->Option Value)(fa:Addr)(h:Heap),(K w.params).In h->h.Ns mainGlobals mg->mg d.name=some (.ref fa) ->
      ∃ fd:FuncData,(∀(s:Shared)(u:Value),BindsTo s fd ⟨[u],[]⟩ [(x,u)]) /\
        ∀ base:Heap,(K w.params).In base->base.Ns mainGlobals mg->FnOk l.prog w (K w.params) mg base (CX w) k fa fd [x] (sp w))(hsp:∀(w:World)(H:Hp)(a:Addr)(ns:List Int),ns.length<=n->Only H->SqL (K w.params) H a (ns.map V.int)->sp w [.ref a] H (λ v _=>v = .bl true) λ _ _ _=>False)(hCX:∀(w:World)(H:Hp)(s:Shared)(e:Value)(s':Shared),CX w [] H s (λ _ _ _=>False) e s'->False) :
    PySem.W.WalkO q loose XP YP l.row.toRowW d [] (λ f vs=>PySem.call f vs):=by
  refine Att.attach_call hn hdf λ w s₀ s₁ mg mb fa o pm cd doc a vs ns G Y ho hd hcd hmg hobj hints hlen hg=>?_;have KX:=hY w _ Y;obtain⟨fd,hb,hF⟩:=F w mg fa _ KX G.T.g hmg;exact ZhE KX G.T.g G.T.b G.T.builtins G.T.nolimit hg hobj hints (le_trans hlen hn2) hr hF hb (λ H hO hS=>hsp w H a ns hlen hO hS) λ H e s'=>hCX w H s₁ e s'
open PySem PySem.Spec PyProof.Rows
noncomputable def Xx (s:Stmt):Arguments:=match s with
  |.FunctionDef _ a _ _ _ _ _ _ _ _=>a
  |_=>{ posonlyargs:=[],args:=[],vararg:=none,kwonlyargs:=[],kw_defaults:=[],kwarg:=none,defaults:=[] }
noncomputable def ZZ (s:Stmt):List Stmt:=match s with
  |.FunctionDef _ _ b _ _ _ _ _ _ _=>b
  |_=>[]
noncomputable def Zh (s:Stmt):Scope:=match s with
  |.FunctionDef _ _ _ _ _ _ sc _ _ _=>sc
  |_=>{ kind:=.function,names:=[],isGenerator:=false,isCoroutine:=false }
noncomputable abbrev CX0:CXT:=λ _ _ _ _ _ _=>False
noncomputable abbrev E0:XK:=λ _ _ _=>False
theorem ZbF {X:Cx}:YU CX0 X E0:=λ _ _ _ _ _ _ _ h=>h.elim
structure Fun (K:Frag)(x qual:Str)(st:Stmt)(f:Addr)(fd:FuncData):Prop where
  ex:∃(oc:Value)(od:Option Addr)(kV doc pm:Value)(an:Option Addr)(cdv ct:Value)(osl:Array (Option Value)),
    fd=fnOf x qual (Xx st) (ZZ st) (Zh st) .none kV doc pm an cdv ct/\K.lookup f=some ⟨oc,od, .func fd,osl⟩/\codeIn K cdv qual=true
  kp:keepIn K (.ref f)=true
section
variable {P:Program}{w:World}{K:Frag}{mg:Str->Option Value}{base:Heap}
theorem Fun.ok {x qual:Str}{st:Stmt}{f:Addr}{fd:FuncData}{N ps:List Str}{k:Nat}{sp:Sp}(F:Fun K x qual st f fd)(S:FnScope N ps (Zh st))(len:∀ vs H Q E,sp vs H Q E->vs.length=ps.length)(hbody:∀(cdv:Value)(A:Around)(outer:List Env)(s:Shared)(H:Hp)(vs:List V)(Q:VK)(E:XK),Room k (A.deeper (envOfC qual (Zh st) s.heap.objs.size f cdv))->sp vs H Q E ->
      ∃ t,PSs (YT CX0 P w K mg base N qual (Zh st) f cdv A outer s H E).nox (ZZ st) t/\t { nx:=λ _ H'=>Q .non H',rt:=Q } (ZaH N vs) H):FnOk P w K mg base CX0 (k+1) f fd ps sp:=by
  obtain⟨oc,od,kV,doc,pm,an,cdv,ct,osl,rfl,lk,hcd⟩:=F.ex;refine fn_of lk hcd S len λ A outer s H vs Q E hr hsp=>?_;obtain⟨t,h,q⟩:=hbody cdv A outer s H vs Q E hr hsp;exact⟨t,h.nox,q⟩
theorem Fun.binds {x qual:Str}{st:Stmt}{f:Addr}{fd:FuncData}{ps:List Str}(F:Fun K x qual st f fd)(h:∀(kV doc pm:Value)(an:Option Addr)(cdv ct:Value)(us:List Value),us.length=ps.length->bindArgs (fnOf x qual (Xx st) (ZZ st) (Zh st) .none kV doc pm an cdv ct) ⟨us,[]⟩=pure (ps.zip us)):X2 K fd ps []:=by
 obtain⟨oc,od,kV,doc,pm,an,cdv,ct,osl,rfl,lk,hcd⟩:=F.ex;exact .all (h kV doc pm an cdv ct)
theorem ZhR {x qual:Str}{st:Stmt}{f:Addr}{oc:Value}{od an:Option Addr}{osl:Array (Option Value)}{kV doc pm cdv ct:Value}(l:K.lookup f=some ⟨oc,od, .func (fnOf x qual (Xx st) (ZZ st) (Zh st) .none kV doc pm an cdv ct),osl⟩)(c:codeIn K cdv qual=true)(k:keepIn K (.ref f)=true):Fun K x qual st f (fnOf x qual (Xx st) (ZZ st) (Zh st) .none kV doc pm an cdv ct):=⟨⟨oc,od,kV,doc,pm,an,cdv,ct,osl,rfl,l,c⟩,k⟩
end
theorem ZF {A:Around}{k:Nat}(hr:Room k A):A.units+1<cLine:=Nat.lt_of_le_of_lt (Nat.add_le_add_left (by decide:1<=64) _) hr.units
theorem Zu {n:Nat}(h:n<=1000):n<sizeLine:=Nat.lt_of_le_of_lt h (by decide)
section
variable {X:Cx}
theorem pv (i:Nat){x:Str}{pos:Pos}(hN:X.N[i]? = some x:=by rfl)(hv:Vis X.env.scope x:=by first|exact Or.inl rfl|exact Or.inr (Or.inl rfl)|exact Or.inr (Or.inr rfl))(hd:(x == ("__debug__":Str))=false:=by decide)(hcd:(x == ("__classdict__":Str))=false:=by decide):PE X (.Name x pos) (tVar i):=pe_var hN hv hd hcd
end
section
variable {X:Cx}
end
theorem Z0 {A B:Prop}(h:B):if false=true then A else B:=by
 rw[if_neg Bool.false_ne_true];exact h
theorem YB {A B:Prop}(h:A):if true=true then A else B:=by
 rw[if_pos rfl];exact h
theorem Yg {c A B:Prop}[Decidable c](h1:c->A)(h2:¬ c->B):if c then A else B:=by
  by_cases h:c
  . rw[if_pos h];exact h1 h
  . rw[if_neg h];exact h2 h
noncomputable def Zp (H H':Hp):Prop:=∀ b o,H b=some o->H' b=some o
theorem Zp.refl (H:Hp):Zp H H:=λ _ _ h=>h
theorem Zp.trans {H H1 H2:Hp}(a:Zp H H1)(b:Zp H1 H2):Zp H H2:=λ c o h=>b c o (a c o h)
theorem Zp.free {H H':Hp}(e:Zp H H'){l:Addr}(h:H' l=Option.none):H l=Option.none:=by
  cases q:H l with
  |none=>rfl
  |some o=>
    rw[e l o q]at h;cases h
theorem Zp.seq {K:Frag}{H H':Hp}{a:Addr}{xs:List V}(e:Zp H H')(h:SqL K H a xs):SqL K H' a xs:=by
  rcases h with (h|⟨o,h⟩)|h
  . exact .inl (.inl (e _ _ h))
  . exact .inl (.inr ⟨o,e _ _ h⟩)
  . exact .inr h
section
variable {κ:Type}[DecidableEq κ]
end
open PySem PySem.Spec PyProof.Rows
structure Dn (P:Program)(w:World)(K:Frag)(mg:Str->Option Value)(base:Heap)(k:Nat)(x:Str)(ps:List Str)(sp:Sp):Prop where
  ex:∃ f fd,FnOk P w K mg base CX0 k f fd ps sp/\mg x=some (.ref f)/\keepIn K (.ref f)=true/\X2 K fd ps []
noncomputable def tFn (sp:Sp)(t:TA):TE:=λ σ H Q=>t σ H λ vs H1=>sp vs H1 Q E0
section
variable {X:Cx}{k:Nat}{ps:List Str}{sp:Sp}{x:Str}{p pos:Pos}{e:Expr}{es:List Expr}{t:TA}
theorem Zz (D:Dn X.prog X.w X.K X.mg X.base k x ps sp)(hr:Room k X.A)(ha:PA X (e::es) t)(hg:Gl X x:=by rfl)(hdb:(x == ("__debug__":Str))=false:=by decide)(he:starEach (e::es) X.env=(false,eval e X.env)::starEach es X.env:=by rfl)(hpl:(backTo pos (starEach es X.env)).any (·.1)=false:=by rfl) :
    PE X (.Call (.Name x p) (e::es) [] pos) (tFn sp t):=by
  obtain⟨f,fd,F,hm,hk,hb⟩:=D.ex;have q:=ZfR (p:=p) (pos:=pos) F hr hg hm hk hb .nil ZbF ha hdb he hpl;have e:Zg3 sp [] E0 t=tFn sp t:=by
    funext σ H Q;show t σ H (λ vs H1=>sp (vs++[]) H1 Q E0)=t σ H λ vs H1=>sp vs H1 Q E0;simp only[append_nil]
  rw[<- e];exact q
theorem Zgl {k:Int}{m:Nat}(h:k.natAbs<2 ^ m):Builtin.Int.intBits k<=m:=by
  unfold Builtin.Int.intBits;split
  . exact zero_le _
  . have:k.natAbs.log2<m:=by
      rcases Nat.eq_zero_or_pos k.natAbs with h0|hp
      . exfalso;rename_i hz;apply hz;have:k=0:=by omega
        rw[this];rfl
      . exact(Nat.log2_lt (Nat.ne_of_gt hp)).mpr h
    omega
noncomputable def BIG:Nat:=2 ^ 4000
theorem lt_big {x:Nat}{m:Nat}(h:x<2 ^ m)(hm:m<=4000):x<BIG:=lt_of_lt_of_le h (Nat.pow_le_pow_right (by decide) hm)
noncomputable def Zia (i j:Int):Prop:=i.natAbs<BIG/\j.natAbs<BIG
theorem YY:OpR X (binaryOp .Mult) (rI Zia λ i j => .int (i * j)):=opI λ _ _ _ _ _ _ _ hc q=>
 mul_int q (PySem.IntMulOk.of_le (Zgl hc.1) (Zgl hc.2) (by decide))
noncomputable def CDivL (_ j:Int):Prop:=0<j/\j.natAbs<BIG
theorem Za4:OpR X (binaryOp .FloorDiv) (rI CDivL λ i j => .int (i / j)):=opI λ i j _ _ _ _ _ hc q=>by
  have h1:(0:Int)<j:=hc.1;refine floordiv_int (by omega) ?_ (.inl (PyProof.noPylong_of_log2 ?_))
  . rw[Int.fdiv_eq_ediv_of_nonneg i (Int.le_of_lt h1)];exact q
  . have:j.natAbs.log2<4000:=(Nat.log2_lt (by omega)).mpr hc.2;omega
theorem X0:X1 X (.builtin "isinstance") (λ xs H Q=>∃ x n t b,xs=[x,V.ty n]/\TyOf X.K H x t/\PySem.W.kitOne X.K t (.type n)=some b/\Q (.bl b) H):=by
  intro pins s σ H xs us Q I r h;obtain⟨x,n,t,b,rfl,ty,e,q⟩:=h;cases r with
  |cons r1 r2=>
    cases r2 with
    |cons r3 r4=>
      cases r4;cases (show _=Value.type n from r3);exact ZgK I r1 ty e λ tk=>⟨.bl b,H,I.tok _,rfl,q⟩
end
theorem kit_ii {K:Frag}:PySem.W.kitOne K (.type "int") (.type "int")=some true:=by rfl
theorem kit_ib {K:Frag}:PySem.W.kitOne K (.type "int") (.type "bool")=some false:=by rfl
theorem ZhF {K:Frag}:PySem.W.kitOne K (.type "tuple") (.type "tuple")=some true:=by rfl
theorem Zi {H:Hp}{p:Addr}(h:H p=none)(o:HO):Zp H (upd H p o):=λ b u q=>by rw[Ze (Zm q h)];exact q
theorem Zp.tupq {K:Frag}{H H':Hp}{a:Addr}{xs:List V}(e:Zp H H')(h:SqT K H a xs):SqT K H' a xs:=by
  rcases h with (h|⟨o,h⟩)|h
  . exact .inl (.inl (e _ _ h))
  . exact .inl (.inr ⟨o,e _ _ h⟩)
  . exact .inr h
theorem Za9 {x y:Int}{m n:Nat}(hx:0<=x)(hx':x<2 ^ m)(hy:0<=y)(hy':y<2 ^ n):0<=x * y/\x * y<2 ^ (m+n):=by
  refine⟨Int.mul_nonneg hx hy,?_⟩;have p:(0:Int)<2 ^ n:=by omega
  rcases(by omega:x=0\/0<x) with e|e
  . rw[e,Int.zero_mul];have:(0:Int)<2 ^ (m+n):=Int.pow_pos (by decide);exact this
  . have h1:x * y<x * 2 ^ n:=Int.mul_lt_mul_of_pos_left hy' e;have h2:x * 2 ^ n<=2 ^ m * 2 ^ n:=Int.mul_le_mul_of_nonneg_right (Int.le_of_lt hx') (Int.le_of_lt p);rw[Int.pow_add];omega
theorem JW {x:Int}{m:Nat}(hx:0<=x)(h:x<2 ^ m)(hm:m<=4000):x.natAbs<BIG:=by
  refine lt_big (m:=m) ?_ hm;have:((x.natAbs:Nat):Int)<((2 ^ m:Nat):Int):=by
    rw[Int.natCast_pow];have:((x.natAbs:Nat):Int)=x:=by omega
    rw[this];exact h
  omega
open PySem PySem.Spec PyProof.Rows
noncomputable abbrev Cx.comp (X:Cx)(scope:Scope)(cl:List (Str×Addr))(C:Addr)(N':List Str)(s₀:Shared)(H₀:Hp)(fp:List Addr)(pins:List (Addr×Obj)):Cx:=
  { X with N:=N',s₀:=s₀,H₀:=H₀,env:=compEnvC scope cl C X.env,outer:=X.stack,stack:=X.stack,ex:=fp,fn:=λ _=>false,pn:=X.pn++pins,xe:=λ _ _=>False }
noncomputable abbrev PIfsb (X:Cx)(ifs:List Expr)(t:TT):Prop:=
  ∀(pins:List (Addr×Obj))(s:Shared)(σ:St)(H:Hp)(Q:Bool->Hp->Prop),Inv X pins σ H s->t σ H Q ->
    wpAny (model X.prog X.w) X.A (forIn ifs true λ c r=>if r=true then do let ok <- isTrue c X.env (eval c X.env);pure (ForInStep.yield ok) else pure (ForInStep.yield r)) (TP X pins σ Q) X.xe s
structure PIfs (X:Cx)(ifs:List Expr)(t:TT):Prop where
  go:PIfsb X ifs t
instance {X:Cx}{ifs:List Expr}{t:TT}:CoeFun (PIfs X ifs t) λ _=>PIfsb X ifs t:=⟨PIfs.go⟩
noncomputable def tAll:TT:=λ _ H Q=>Q true H
theorem ZeK {X:Cx}:PIfs X [] tAll:=⟨λ _ _ _ H _ I h=>wpAny_tests_nil ⟨H,I,h⟩⟩
theorem Za2 {X:Cx}{c:Expr}{t:TT}(h:PT X c t):PIfs X [c] t:=⟨λ pins s σ H Q I q=>wpAny_tests_one (h pins s σ H Q I q)⟩
noncomputable def Z1 (caps:List (Str×Nat))(σ:St):St:=caps.map λ p=>(σ[p.2]?).join
noncomputable def tLC (caps:List (Str×Nat))(wi:TI)(tt:TT)(te:TE):TE:=λ σ H Q=>wi σ H λ J H1=>∀ D,H1 D=none ->
  ∃ W:Nat->Nat->Hp->Prop,(∃ m,W 0 m (upd H1 D (.lst [])))/\∀ i m H2,W i m H2 ->
    (J.stop i H2/\Q (.ref D) H2)\/(J.go i H2/\∀ x H',J.yld i H2 x H'->tt (some x::Z1 caps σ) H' λ b H3=>
      if b=true then te (some x::Z1 caps σ) H3 λ v H4=>∃ ys m',H4 D=some (.lst ys)/\ys.length<sizeLine/\m'<m/\W (i+1) m' (upd H4 D (.lst (ys++[v])))
      else ∃ m',m'<m/\W (i+1) m' H3)
section
variable {X:Cx}
theorem Zgj {scope:Scope}{cl:List (Str×Addr)}{N':List Str}{fp:List Addr}{pins:List (Addr×Obj)}{σ:St}{H:Hp}{s:Shared}(I:Inv X pins σ H s)(hf:∀ b∈fp,Zag X pins H b)(hin:∀ b∈fp,b<s.heap.objs.size)(hkind:scope.kind = .function)(hcl:∀ x c,cl.lookup x=some c->X.env.cells.lookup x=some c)(hhas:∀ x,((relabel scope X.env).names.lookup x=some .cell\/(relabel scope X.env).names.lookup x=some .free)->∃ c,cl.lookup x=some c) :
    (X.comp scope cl s.heap.objs.size N' s H fp pins).Ok where
  mod:=I.ok.mod
  kind:=by show(relabel scope X.env).kind=_;exact hkind
  glob:=I.ok.glob
  blt:=I.ok.blt
  above:=le_refl _
  inj:=λ x y c h1 h2=>I.ok.inj x y c (hcl x c h1) (hcl y c h2)
  has:=hhas
  cab:=λ x c h _=>by cases h
  hd:=I.ok.hd
  frames:=I.ok.frames
  stk:=.inl rfl
  exf:=λ b hb=>⟨ne_of_lt (hin b hb),λ x c e=>(hf b hb).2.2.2.2.1 x c (hcl x c e)⟩
  bs:=I.bs
  bsz:=le_trans I.ok.bsz I.sz
  noex:=λ b o e hb=>by
    rcases(hf b hb).2.2.2.1 with z|z
    . exact I.ok.noex b o e z
    . exact absurd (lt_of_lt_of_le (Heap.lt_size (I.ok.bs b o e).1) z) (lt_irrefl _)
  exfs:=λ b hb z=>by
    rcases List.mem_cons.mp (I.stkSub b z) with e|e
    . exact(hf b hb).2.1 e
    . exact(hf b hb).2.2.1 e
  funs:=I.stack
  frf:=I.stkFree
theorem Zh4 {scope:Scope}{cl:List (Str×Addr)}{x:Str}{caps:List (Str×Nat)}{fp:List Addr}{pins:List (Addr×Obj)}{σ:St}{H:Hp}{s:Shared}{h1:Heap}{t':Nat}{m:Str->Option Value}(I:Inv X pins σ H s)(hf:∀ b∈fp,Zag X pins H b)(hin:∀ b∈fp,b<s.heap.objs.size)(hkind:scope.kind = .function)(hcl:∀ x c,cl.lookup x=some c->X.env.cells.lookup x=some c)(hhas:∀ x,((relabel scope X.env).names.lookup x=some .cell\/(relabel scope X.env).names.lookup x=some .free)->∃ c,cl.lookup x=some c)(hcap:∀ p∈caps,X.N[p.2]? = some p.1/\X.env.scope.names.lookup p.1=some .cell/\((relabel scope X.env).names.lookup p.1=some .cell\/(relabel scope X.env).names.lookup p.1=some .free))(hn:h1.Ns s.heap.objs.size m)(hk:∀ b o,s.heap.get? b=some o->h1.get? b=some o) :
    Inv (X.comp scope cl s.heap.objs.size (x::caps.map (·.1)) s H fp pins) [] (none::Z1 caps σ) H { s with heap:=h1,toks:=t' }:=by
  refine⟨Zgj I hf hin hkind hcl hhas,rfl,I.bare,Un.kept hk,⟨m,hn,λ i y v e1 e2 e3=>?_⟩,λ y c e=>?_,I.hok.fresh (le_refl _),λ y c e=>I.freeC y c (hcl y c e),λ p hp=>?_,I.hok.kept hk,?_⟩
  . cases i with
    |zero=>cases e2
    |succ i=>
      have e1':(caps.map (·.1))[i]? = some y:=e1;have e2':(caps.map λ p=>(σ[p.2]?).join)[i]? = some (some v):=e2;rw[getElem?_map]at e1' e2';cases q:caps[i]? with
      |none=>rw[q]at e1';cases e1'
      |some p=>
        rw[q]at e1' e2';have hy:p.1=y:=Option.some.inj e1';have hv:(σ[p.2]?).join=some v:=Option.some.inj e2';obtain⟨c1,c2,c3⟩:=hcap p (mem_of_getElem? q);have hv':σ[p.2]? = some (some v):=by
          cases z:σ[p.2]? with
          |none=>rw[z]at hv;cases hv
          |some w=>rw[z]at hv;rw[<- hv];rfl
        obtain⟨m0,_,hl0⟩:=I.loc;obtain⟨u,ru,lk⟩:=hl0 p.2 p.1 v c1 hv' (.inr (.inl c2));subst hy;refine⟨u,ru, .inr ⟨c3,?_⟩⟩;obtain⟨c,hc⟩:=hhas p.1 c3;rcases lk with ⟨k,_⟩|⟨_,c',hc',z⟩
        . have k':X.env.scope.names.lookup p.1=some .local:=k;rw[c2]at k';cases k'
        . have:c=c':=Option.some.inj ((hcl p.1 c hc).symm.trans hc');subst this;obtain⟨o,ho,hd⟩:=z;exact⟨c,hc,o,hk _ _ ho,hd⟩
  . obtain⟨v,o,ho,hd⟩:=I.cell y c (hcl y c e);exact⟨v,o,hk _ _ ho,hd⟩
  . have hp':p∈X.pn++pins:=by simpa using hp
    obtain⟨a1,a2,a3,a4,a5⟩:=I.pin p hp';refine⟨hk _ _ a1,a2,ne_of_lt (Heap.lt_size a1),λ z=>?_,a5⟩;rcases List.mem_cons.mp (I.stkSub p.1 z) with e|e
    . exact a3 e
    . exact a4 e
  . show(none::Z1 caps σ).length=(x::caps.map (·.1)).length;simp[Z1]
theorem Zf0 {elt iter:Expr}{x:Str}{px:Pos}{ifs:List Expr}{scope:Scope}{cl:List (Str×Addr)}{pos:Pos}{caps:List (Str×Nat)}{wi:TI}{tt:TT}{te:TE}(hc:X.calm=true)(hi:PI X (.Name x px) iter wi)(ht:∀ C s₀ H₀ fp pins,PIfs (X.comp scope cl C (x::caps.map (·.1)) s₀ H₀ fp pins) ifs tt)(he:∀ C s₀ H₀ fp pins,PE (X.comp scope cl C (x::caps.map (·.1)) s₀ H₀ fp pins) elt te)(hclos:closureFor scope X.env=pure cl)(hcell:∀ y∈scope.names,y.2 ≠ .cell)(hkind:scope.kind = .function)(hnames:∀ y∈scope.names,y.2 = .local->scope.names.lookup y.1=some .local)(hx:scope.names.lookup x=some .local)(hcl:∀ x c,cl.lookup x=some c->X.env.cells.lookup x=some c)(hhas:∀ x,((relabel scope X.env).names.lookup x=some .cell\/(relabel scope X.env).names.lookup x=some .free)->∃ c,cl.lookup x=some c)(hcap:∀ p∈caps,X.N[p.2]? = some p.1/\X.env.scope.names.lookup p.1=some .cell/\((relabel scope X.env).names.lookup p.1=some .cell\/(relabel scope X.env).names.lookup p.1=some .free))(hnd:(x::caps.map (·.1)).Nodup)(hs:∀ x,foldedSetIterable iter X.env x=pure x){pins:List (Addr×Obj)}{s:Shared}{σ:St}{H:Hp}{Q:VK}{use:Option (Value->Sem Unit)}{QQ:Value->Shared->Prop}{pos2:Pos}(I:Inv X pins σ H s)(h:tLC caps wi tt te σ H Q)(fin:∀ D C H5 s6 r,Zag X pins H5 C->(∃ m,s6.heap.Ns C m)->Inv X pins σ H5 s6->Q (.ref D) H5->compPost (model X.prog X.w) X.A X.xe use QQ (.ref D) C (.ok r) s6) :
    wpAny (model X.prog X.w) X.A (comprehension (.ListComp elt [⟨.Name x px,iter,ifs,0⟩] scope pos) scope X.env pos2 (newList []) false (eval iter X.env) use) QQ X.xe s:=by
  refine wpAny_comprehension_free (use:=use) rfl hs hclos hkind hnames (thn (hi pins s σ H _ I h) λ v s1 h1=>thn h1 λ itv s2 h2=>?_);obtain⟨it,fp,tn,J,H2,e,I2,T,st2,f2,q2⟩:=h2;subst e;refine wpAny_newObj_type ?_ (by show 0<=sizeLine;exact zero_le _);have fD:H2 s2.heap.objs.size=none:=I2.fresh;obtain⟨W,⟨m0,w0⟩,turn⟩:=q2 s2.heap.objs.size fD;have I3:=I2.lnew (its:=[]) (ys:=[]) (t':=s2.toks) .nil (zero_le _);have lt2:∀ b∈fp,b<s2.heap.objs.size:=λ b hb=>by
    obtain⟨o,ho,_⟩:=T.obj 0 _ st2 b hb;exact Heap.lt_size ho
  have neD:∀ b∈fp,b≠s2.heap.objs.size:=λ b hb=>ne_of_lt (lt2 b hb);have st3:tn 0 (s2.heap.push { cls:=.type "list",data:=.seq ([]:List Value).toArray }):=T.keep 0 _ _ st2 λ b _ o e=>Heap.get?_push_of_some _ e;have f3:∀ b∈fp,Zag X pins (upd H2 s2.heap.objs.size (.lst [])) b:=λ b hb=>⟨by rw[Ze (neD b hb)];exact(f2 b hb).1,(f2 b hb).2⟩;generalize hs3:({ s2 with heap:=s2.heap.push { cls:=.type "list",data:=.seq ([]:List Value).toArray },toks:=s2.toks }:Shared)=s3 at I3;generalize hD:s2.heap.objs.size=D at *;have hs3h:s3.heap=s2.heap.push { cls:=.type "list",data:=.seq ([]:List Value).toArray }:=by rw[<- hs3]
  have goal3:wpAny (model X.prog X.w) X.A (newFunctionEnv scope X.env.globals cl [] X.env.qual none .none (some X.env)) (λ cenv s₄=>
      codeAny (model X.prog X.w) X.A (.compStart (.ListComp elt [⟨.Name x px,iter,ifs,0⟩] scope pos) 0 (.ref it) (.ref D) { cenv with scope:=relabel scope X.env })
        (compPost (model X.prog X.w) X.A X.xe use QQ (.ref D) cenv.locals) s₄) X.xe s3:=by
    have lt3:∀ b∈fp,b<s3.heap.objs.size:=λ b hb=>by
      rw[hs3h,Heap.size_push,hD];exact Nat.lt_succ_of_lt (lt2 b hb)
    refine wpAny_newFunctionEnv hcell (by intro y hy;simp at hy) (λ h₁ hns₁ hsb₁=>?_) hkind;have old:∀ b o,s3.heap.get? b=some o->h₁.get? b=some o:=λ b o e=>hsb₁.extBut b o (ne_of_lt (Heap.lt_size e)) (Heap.get?_push_of_some _ e);have I4:Inv (X.comp scope cl s3.heap.objs.size (x::caps.map (·.1)) s3 (upd H2 D (.lst [])) fp pins) [] (none::Z1 caps σ) (upd H2 D (.lst [])) { s3 with heap:=h₁,toks:=s3.toks+0 }:=
      Zh4 I3 f3 lt3 hkind hcl hhas hcap hns₁ old
    have st4:tn 0 h₁:=T.keep 0 _ _ (by rw[<- hs3h]at st3;exact st3) λ b hb o e=>old b o e;have stat:∀ {H':Hp},(∀ b∈fp,H' b=none)->∀ b∈fp,Zag (X.comp scope cl s3.heap.objs.size (x::caps.map (·.1)) s3 (upd H2 D (.lst [])) fp pins) [] H' b:=λ hn b hb=>
      ⟨hn b hb,ne_of_lt (lt3 b hb),I4.ok.exfs b hb, .inl hb,λ y c e=>(f3 b hb).2.2.2.2.1 y c (hcl y c e),λ p hp=>(f3 b hb).2.2.2.2.2 p (by simpa using hp)⟩
    have loop:codeAny (model X.prog X.w) X.A (.compLoop (.ListComp elt [⟨.Name x px,iter,ifs,0⟩] scope pos) 0 (.ref it) (.ref D) (compEnvC scope cl s3.heap.objs.size X.env))
        (compPost (model X.prog X.w) X.A X.xe use QQ (.ref D) s3.heap.objs.size) { s3 with heap:=h₁,toks:=s3.toks+0 }:=by
      refine codeAny_compLoop_tests (λ n s'=>∃ i v H',Inv (X.comp scope cl s3.heap.objs.size (x::caps.map (·.1)) s3 (upd H2 D (.lst [])) fp pins) [] (v::Z1 caps σ) H' s'/\tn i s'.heap/\(∀ b∈fp,H' b=none)/\W i n H') ?_ m0 ⟨0,none,_,I4,st4,λ b hb=>(f3 b hb).1,w0⟩;rintro n s5 ⟨i,v5,H5,I5,st5,fr5,w5⟩;rcases turn i n H5 w5 with ⟨stop,qn⟩|⟨go,step⟩
      . refine wpAny_noRaise (thn (T.done (X.comp scope cl s3.heap.objs.size (x::caps.map (·.1)) s3 (upd H2 D (.lst [])) fp pins) rfl rfl rfl hc i [] s5 _ H5 (λ _ _=>False) I5 (stat fr5) st5 stop) λ r s6 zz9=>?_);obtain⟨hr,I6⟩:=zz9;subst hr;obtain⟨m6,hn6,_⟩:=I6.loc;have fC:H5 s3.heap.objs.size=none:=I6.free;have u6:Un (frs X.stack) fp (upd H2 D (.lst [])) H5 s3.heap s6.heap:=I6.base;exact fin _ _ _ _ _ (I3.fpOk (le_refl _) fC) ⟨m6,hn6⟩ (I3.call' (ch:=fp) I6.os u6 I6.hok I6.bare λ b hb=>⟨(f3 b hb).2.2.2.1,(f3 b hb).2.1,(f3 b hb).2.2.2.2.1,(f3 b hb).2.2.2.2.2⟩) qn
      . refine wpAny_noRaise (thn (T.item (X.comp scope cl s3.heap.objs.size (x::caps.map (·.1)) s3 (upd H2 D (.lst [])) fp pins) rfl rfl rfl hc i [] s5 _ H5 (λ _ _=>False) I5 (stat fr5) st5 go) λ r s6 zz9=>?_);obtain⟨u,hr,h6⟩:=zz9;subst hr;show wpAny _ _ (letOwnedTupleGo (.Name x px) (.ref it) u >>= λ _=>assign (.Name x px) (compEnvC scope cl s3.heap.objs.size X.env) u) _ _ _;refine wpAny_bind (wpAny_noRaise (thn h6 λ _ s6 zz9=>?_));obtain⟨y,H6,I6,r6,y6,st6,fr6⟩:=zz9;have I6':=I6.pinned (stat fr6) (T.obj _ _ st6);refine wpAny_assign_Name (wpAny_noRaise (Jn (i:=0) I6' hnd rfl (.inl (lookup_relabel_local hx)) r6 (λ s7 I7=>?_) (.inr (lookup_relabel_local hx))));have again:∀ {v8:Option V} {H8:Hp} {s8:Shared} {m':Nat},Inv (X.comp scope cl s3.heap.objs.size (x::caps.map (·.1)) s3 (upd H2 D (.lst [])) fp pins) ([]++Zbp fp s6.heap) (v8::Z1 caps σ) H8 s8->W (i+1) m' H8 ->
            ∃ i v H',Inv (X.comp scope cl s3.heap.objs.size (x::caps.map (·.1)) s3 (upd H2 D (.lst [])) fp pins) [] (v::Z1 caps σ) H' s8/\tn i s8.heap/\(∀ b∈fp,H' b=none)/\W i m' H':=λ {v8 H8 s8 m'} I8 w8=>by
          refine⟨i+1,v8,H8,I8.unpinned,T.keep _ _ _ st6 λ b hb o e=>(I8.pin (b,o) (mem_append_right _ (mem_append_right _ (YS hb e)))).1,λ b hb=>?_,w8⟩;obtain⟨o,e,d⟩:=T.obj _ _ st6 b hb;exact(I8.pin (b,o) (mem_append_right _ (mem_append_right _ (YS hb e)))).2.1
        refine wpAny_noRaise (thn (ht _ _ _ _ _ _ s7 _ H6 _ I7 (step y H6 y6)) λ ok s8 zz9=>?_);obtain⟨H8,I8,q8⟩:=zz9;cases ok with
        |false=>
          rw[if_neg Bool.false_ne_true]at q8 ⊢;obtain⟨m',hm',w8⟩:=q8;exact⟨m',hm',again I8 w8⟩
        |true=>
          rw[if_pos rfl]at q8 ⊢;refine wpAny_noRaise (thn (he _ _ _ _ _ _ s8 _ H8 _ I8 q8) λ z s9 zz9=>?_);obtain⟨v9,H9,I9,r9,ys,m',hD9,hz9,hm9,w9⟩:=zz9;refine wpAny_noRaise (thn (XX _ s9 _ H9 (.ref D) [v9] (.ref D) [z] (λ v H'=>v = .non/\H'=upd H9 D (.lst (ys++[v9]))) I9 rfl (.cons r9 .nil) ⟨D,ys,v9,rfl,rfl,hD9,hz9,rfl,rfl⟩) λ _ s10 zz9=>?_);obtain⟨v10,H10,I10,_,_,eH⟩:=zz9;subst eH;exact⟨m',hm9,again I10 w9⟩
    exact codeAny_compStart_list loop (T.self _ 0 _ _ _ st4 loop)
  subst hs3;subst hD;exact goal3
theorem Zhj {elt iter:Expr}{x:Str}{px:Pos}{ifs:List Expr}{scope:Scope}{cl:List (Str×Addr)}{pos:Pos}{caps:List (Str×Nat)}{wi:TI}{tt:TT}{te:TE}(hc:X.calm=true)(hi:PI X (.Name x px) iter wi)(ht:∀ C s₀ H₀ fp pins,PIfs (X.comp scope cl C (x::caps.map (·.1)) s₀ H₀ fp pins) ifs tt)(he:∀ C s₀ H₀ fp pins,PE (X.comp scope cl C (x::caps.map (·.1)) s₀ H₀ fp pins) elt te)(hclos:closureFor scope X.env=pure cl)(hcell:∀ y∈scope.names,y.2 ≠ .cell)(hkind:scope.kind = .function)(hnames:∀ y∈scope.names,y.2 = .local->scope.names.lookup y.1=some .local)(hx:scope.names.lookup x=some .local)(hcl:∀ x c,cl.lookup x=some c->X.env.cells.lookup x=some c)(hhas:∀ x,((relabel scope X.env).names.lookup x=some .cell\/(relabel scope X.env).names.lookup x=some .free)->∃ c,cl.lookup x=some c)(hcap:∀ p∈caps,X.N[p.2]? = some p.1/\X.env.scope.names.lookup p.1=some .cell/\((relabel scope X.env).names.lookup p.1=some .cell\/(relabel scope X.env).names.lookup p.1=some .free))(hnd:(x::caps.map (·.1)).Nodup)(hs:∀ x,foldedSetIterable iter X.env x=pure x:=by intro _;rfl) :
    PE X (.ListComp elt [⟨.Name x px,iter,ifs,0⟩] scope pos) (tLC caps wi tt te):=by
  refine⟨?_⟩;intro pins s σ H Q I h;rw[eval_ListComp];refine Zf0 hc hi ht he hclos hcell hkind hnames hx hcl hhas hcap hnd hs I h ?_;intro D C H5 s6 r fC ⟨m6,hn6⟩ I6 q;exact⟨m6,hn6,λ h' hs'=>⟨.ref D,H5,I6.turned (λ b o n e=>(hs'.2 b n).trans e) fC.1 fC.2.1 fC.2.2.2.1 fC.2.2.2.2.1 fC.2.2.2.2.2,rfl,q⟩⟩
theorem ZcE {i:Nat}{y:Str}{py spos:Pos}{elt iter:Expr}{x:Str}{px:Pos}{ifs:List Expr}{scope:Scope}{cl:List (Str×Addr)}{pos:Pos}{caps:List (Str×Nat)}{wi:TI}{tt:TT}{te:TE}(hN:X.N.Nodup)(hi':X.N[i]? = some y)(hy:Loc X.env.scope y)(hc:X.calm=true)(hi:PI X (.Name x px) iter wi)(ht:∀ C s₀ H₀ fp pins,PIfs (X.comp scope cl C (x::caps.map (·.1)) s₀ H₀ fp pins) ifs tt)(he:∀ C s₀ H₀ fp pins,PE (X.comp scope cl C (x::caps.map (·.1)) s₀ H₀ fp pins) elt te)(hclos:closureFor scope X.env=pure cl)(hcell:∀ y∈scope.names,y.2 ≠ .cell)(hkind:scope.kind = .function)(hnames:∀ y∈scope.names,y.2 = .local->scope.names.lookup y.1=some .local)(hx:scope.names.lookup x=some .local)(hcl:∀ x c,cl.lookup x=some c->X.env.cells.lookup x=some c)(hhas:∀ x,((relabel scope X.env).names.lookup x=some .cell\/(relabel scope X.env).names.lookup x=some .free)->∃ c,cl.lookup x=some c)(hcap:∀ p∈caps,X.N[p.2]? = some p.1/\X.env.scope.names.lookup p.1=some .cell/\((relabel scope X.env).names.lookup p.1=some .cell\/(relabel scope X.env).names.lookup p.1=some .free))(hnd:(x::caps.map (·.1)).Nodup)(hs:∀ x,foldedSetIterable iter X.env x=pure x:=by intro _;rfl)(hsw:swapsWith (.ListComp elt [⟨.Name x px,iter,ifs,0⟩] scope pos) (some (.Name y py)) spos.line X.env=pure true:=by rfl)(hf:X.fn y=true\/X.env.scope.names.lookup y=some .local:=by first|exact .inl rfl|exact .inr rfl|assumption) :
    PS X (.Assign [.Name y py] (.ListComp elt [⟨.Name x px,iter,ifs,0⟩] scope pos) spos) (tAsg (tLC caps wi tt te) (Ze0 i)):=by
  refine⟨?_⟩;intro pins s σ H D I h;rw[exec_Assign_Name_used _ _ _ _ hsw];refine wpAny_bind (wpAny_standAt (wpAny_bind ?_));refine wpAny_bind (thn (Zf0 (use:=some (assign (.Name y py) X.env)) (QQ:=λ _ s'=>SP X pins D .next s') hc hi ht he hclos hcell hkind hnames hx hcl hhas hcap hnd hs I h ?_) λ _ s' hq=>wpAny_pure (wpAny_pure hq));intro D' C H5 s6 r fC ⟨m6,hn6⟩ I6 q;show wpAny _ X.A (assign (.Name y py) X.env (.ref D')) _ _ _;refine wpAny_assign_Name (Zdn I6 hN hi' hy (v:=.ref D') rfl (λ s7 I7 zz9=>?_) hf);obtain⟨a,sb,ha⟩:=zz9;have hne:C≠a:=by
    rcases ha with rfl|ha
    . exact fC.2.1
    . exact λ z=>fC.2.2.2.2.1 _ _ ha z.symm
  refine⟨m6,hn6.sameBut sb hne,λ h' hs'=>?_⟩;exact⟨_,H5,I7.turned (λ b o n e=>(hs'.2 b n).trans e) fC.1 fC.2.1 fC.2.2.2.1 fC.2.2.2.2.1 fC.2.2.2.2.2,q⟩
end
open PySem PySem.Spec PyProof.Rows
noncomputable def Fly (base:Heap)(l:List Env)(a T:Addr)(C:Value)(h:Heap):Prop:=
 base.StaysIn h/\base.get? a=none/\h.FunFrames base l/\∃ a0 oe vs oT ts,h.get? a=some oe/\(oe.cls=C/\vs[0]? = some a0)/\oe.data = .fields vs/\vs[1]? = some (.ref T)/\base.get? T=none/\T≠a/\h.get? T=some oT/\oT.data = .fields ts/\ts[3]? = some .none
noncomputable def CXR (P:Program)(w:World)(base:Heap):CXT:=λ outer H s E e s'=>∃(a T:Addr)(C:Value)(H':Hp),e = .ref a/\s'.os=s.os/\AllBare s'.gens/\Un (frs outer) [] H H' s.heap s'.heap/\HOk P w H' s'.heap /\
 Fly base outer a T C s'.heap/\H' a=none/\H' T=none/\s.heap.get? a=none/\s.heap.get? T=none/\E C none H'
theorem ZV.got {P:Program}{w:World}{H:Hp}{h:Heap}{a:Addr}{o:HO}(x:ZV P w H h a o):∃ ob,h.get? a=some ob:=by
  cases o with
  |lst xs=>obtain⟨_,_,_,_,e⟩:=x;exact⟨_,e⟩
  |tup xs=>obtain⟨_,_,_,o,e,_⟩:=x;exact⟨_,e⟩
  |dK kvs=>obtain⟨_,_,_,_,o,_,_,e,_⟩:=x;exact⟨_,e⟩
  |dT kvs=>obtain⟨_,_,_,_,o,_,_,e,_⟩:=x;exact⟨_,e⟩
  |set S n=>obtain⟨o,_,_,_,e,_⟩:=x;exact⟨_,e⟩
  |ins C dx fs=>obtain⟨_,_,_,e,_⟩:=x;exact⟨_,e⟩
  |own y=>obtain⟨_,e⟩:=x;exact⟨_,e⟩
  |xd fs=>obtain⟨_,⟨_,_,_,e,_⟩,_⟩:=x;exact⟨_,e⟩
  |rng lo hi=>obtain⟨_,_,_,e⟩:=x;exact⟨_,e⟩
  |frz ob u=>obtain⟨e,_⟩:=x;exact⟨_,e⟩
  |tbl ps=>exact⟨_,(show h.get? a=some _ from x)⟩
  |met f y=>exact⟨_,(show h.get? a=some _ from x)⟩
  |ext φ=>obtain⟨_,⟨_,e⟩,_⟩:=x;exact⟨_,e⟩
section
variable {X:Cx}{pins:List (Addr×Obj)}{σ:St}{H:Hp}{s:Shared}
theorem Inv.untr (I:Inv X pins σ H s){b:Addr}(e:s.heap.get? b=none):H b=none:=by
  cases q:H b with
  |none=>rfl
  |some o=>
    obtain⟨ob,z⟩:=(I.hok b o q).got;rw[e]at z;cases z
theorem Inv.stkNo (I:Inv X pins σ H s){b:Addr}(h1:b≠X.env.locals)(h2:b∉X.fs):b∉frs X.stack:=λ z=>(List.mem_cons.mp (I.stkSub b z)).elim h1 h2
end
abbrev bmV:List Value:=[.type "ValueError", .type "Exception", .type "BaseException", .type "object"]
noncomputable def XCls (K:Frag)(C:Addr):Prop:=excIn K C bmV "ValueError.__new__"=true
theorem ZgS {K:Frag}{h:Heap}{C:Addr}(X:K.In h)(q:XCls K C):∃ bm N nm q bs hdct sn sub ab col dd k0 k1 k2 k3 k5 mN,h.get? C=some (excClassObj nm q C N bs bm hdct sn sub ab col dd k0 k1 k2 k3 k5 "ValueError.__new__")/\h.Ns N mN/\mN "__init__"=none/\OwnTail h bmV bm:=by
  unfold XCls excIn at q;split at q
  . rename_i dd cd sl ho;split at q
    . rename_i C' bm k0 k1 k2 k3 n k5 hm hs;simp only[and_eq_true,beq_iff_eq,Bool.not_eq_true']at q;obtain⟨⟨⟨⟨⟨rfl,rfl⟩,hdel⟩,ht⟩,hok⟩,hni⟩:=q;obtain⟨nm,bs,mro,ns,qn,hd,sn,sub,ab,col,del⟩:=cd;dsimp only at hm hdel hok hni;subst hm hdel;have hsl:sl = #[k0,k1,k2,k3,some (.builtin "ValueError.__new__"),k5]:=by
        obtain⟨l⟩:=sl;simp only at hs;rw[hs]
      subst hsl;exact⟨bm,ns,nm,qn,bs,hd,sn,sub,ab,col,dd,k0,k1,k2,k3,k5,_,X _ _ ho, .of_isNs (PySem.W.isNs_of_in X hok),PySem.W.nsMap_none_of_in X hok hni,PySem.W.tail_of_in X ht⟩
    . cases q
  . cases q
section
variable {P:Program}{w:World}{K:Frag}{mg:Str->Option Value}{base:Heap}{N:List Str}{qual:Str}{scope:Scope}{f:Addr}{cd:Value}{A:Around}{outer:List Env}{s0:Shared}{H0:Hp}{E:XK}
theorem YE {x:Str}{C:Addr}{e:Expr}{te:TE}{np cpos pos:Pos}(hE:XCls K C)(hm:mg x=some (.ref C))(he:PE (YT (CXR P w base) P w K mg base N qual scope f cd A outer s0 H0 E) e te)(hg:Gl (YT (CXR P w base) P w K mg base N qual scope f cd A outer s0 H0 E) x:=by rfl)(hst:starEach [e] (YT (CXR P w base) P w K mg base N qual scope f cd A outer s0 H0 E).env=[(false,eval e (YT (CXR P w base) P w K mg base N qual scope f cd A outer s0 H0 E).env)]:=by rfl)(hd:(x == ("__debug__":Str))=false:=by decide) :
    PS (YT (CXR P w base) P w K mg base N qual scope f cd A outer s0 H0 E) (.Raise (some (.Call (.Name x np) [e] [] cpos)) none pos) (λ _ σ H=>te σ H λ v H1=>([v]:List V).length=1/\E (.ref C) none H1):=by
  refine⟨?_⟩;intro pins s σ H D I h;obtain⟨bm,Na,nm,q,bs,hdct,sn,sub,ab,col,dd,k0,k1,k2,k3,k5,mN,hC,hN,hni,T⟩:=ZgS I.ok.mod.kin hE;refine wpAny_Raise_call_subU (C:=C) (nm:=nm) (q:=q) (N:=Na) (bs:=bs) (bm:=bm) (hdct:=hdct) (sn:=sn) (sub:=sub) (ab:=ab) (col:=col) (dd:=dd) (k0:=k0) (k1:=k1) (k2:=k2) (k3:=k3) (k5:=k5)
    PySem.F.excBase_ValueError rfl PySem.F.excBase_ValueError (mN:=mN) (T.hasType rfl) (I.ok.hd rfl) (by rw[hst];rfl) hni (Zbc I hg hm ⟨rfl,?_⟩ hd)
  have ha:=Za (X:=YT (CXR P w base) P w K mg base N qual scope f cd A outer s0 H0 E) he Zc hst cpos pins s σ H (λ vs H1=>vs.length=1/\E (.ref C) none H1) I h;rw[hst]at ha ⊢;refine Calls.evalArgs_plain (wpAny_mono ha (λ us s2 ⟨vs,H2,I2,r2,hl2,q2⟩=>?_) λ _ _ z=>z);have hlu:us.length<=sizeLine:=by
    rw[<- r2.length,hl2]
    decide
  refine⟨rfl,hlu,I2.bk _ _ hC,hN.keeps I2.bk,T.keeps I2.bk,λ h' ex hx=>?_⟩;have hin:∀ env∈(envOfC qual scope s0.heap.objs.size f cd::outer),∀ b,env.frame=some b->b∈(envOfC qual scope s0.heap.objs.size f cd::outer).filterMap (·.frame):=λ env he b hb=>List.mem_filterMap.mpr ⟨env,he,hb⟩;have stk:s2.heap.FunFrames base (envOfC qual scope s0.heap.objs.size f cd::outer):=I2.stack;have notL:∀ b o,s0.heap.get? b=some o->b≠s0.heap.objs.size:=λ b o e=>ne_of_lt (Heap.lt_size e);have inB:∀ b o,s2.heap.get? b=some o->b∉frs (envOfC qual scope s0.heap.objs.size f cd::outer)->(hideAll s2.heap (frs (envOfC qual scope s0.heap.objs.size f cd::outer))).get? b=some o:=λ b o e n=>PySem.W.hideAll_get _ e n;show wpAny (model P w) (A.deeper (envOfC qual scope s0.heap.objs.size f cd)) (leaving (envOfC qual scope s0.heap.objs.size f cd) (.ref ex)) (λ _ s''=>CXR P w base outer H0 s0 E (.ref ex) s'') (λ e' s''=>CXR P w base outer H0 s0 E e' s'') { s2 with heap:=h' };refine wpAny_leaves_madeW (base:=hideAll s2.heap (frs (envOfC qual scope s0.heap.objs.size f cd::outer))) (h:=s2.heap) (L:=s0.heap.objs.size) I2.ok.frames rfl (λ b o z=>PySem.W.of_hideAll _ z) (PySem.W.funFrames_hide stk hin) hx λ h'' t fl tup ht U=>?_;obtain⟨f1,f2,f3,oe,vs,Tr,oT,ts,g1,g2,g3,g4,g5,g6,g7,g8,g9⟩:=fl;have baseB:base.StaysIn (hideAll s2.heap (frs (envOfC qual scope s0.heap.objs.size f cd::outer))):=λ b o z=>inB b o (I2.bk b o z) λ hb=>by rw[(stk.mem hb).1]at z;cases z
  have U2:∀ b o,s2.heap.get? b=some o->(∀ vs,o.data ≠ .fields vs)->∃ sl,h''.get? b=some { o with slots:=sl }:=λ b o z n=>U b o (hx.keeps b o z) n;have noT:s2.heap.get? Tr=none:=by
    cases z:s2.heap.get? Tr with
    |none=>rfl
    |some o=>
      by_cases hb:Tr∈frs (envOfC qual scope s0.heap.objs.size f cd::outer)
      . obtain⟨_,o',ho',d'⟩:=stk.mem hb;obtain⟨sl,z2⟩:=U2 Tr o' ho' d';rw[g7]at z2;have z3:=congrArg (λ q:Option Obj=>q.map (·.data)) z2;simp only[map_some,g8]at z3;exact absurd (Option.some.inj z3).symm (d' ts)
      . rw[inB Tr o z hb]at g5;cases g5
  have up:∀ b o,s0.heap.get? b=some o->s2.heap.get? b≠none:=λ b o z n=>by
    obtain⟨o',z'⟩:=I2.base.there b o z (λ q=>absurd (show b∈([]:List Addr) from q) (by simp));rw[n]at z';cases z'
  have no0:∀ b,s2.heap.get? b=none->s0.heap.get? b=none:=λ b n=>by
    cases z:s0.heap.get? b with
    |none=>rfl
    |some o=>exact absurd n (up b o z)
  have nex:∀ b,b∉(YT (CXR P w base) P w K mg base N qual scope f cd A outer s0 H0 E).ex:=λ b q=>absurd (show b∈([]:List Addr) from q) (by simp);have notIn:∀ b o,s0.heap.get? b=some o->b∉frs outer->b∉frs (envOfC qual scope s0.heap.objs.size f cd::outer):=λ b o z n=>I2.stkNo (notL b o z) n;refine⟨ex,Tr, .ref C,H2,rfl,I2.os,I2.bare,⟨λ b o z n hb _=>?_,λ b o z n hb _=>?_,λ b o z n _=>I2.base.free b o z n (nex b),λ b o z _=>?_,I2.base.tups,I2.base.frzs,I2.base.tbls⟩,λ b u z=>?_,⟨λ b o z=>f1 b o (baseB b o z),?_,PySem.W.funFrames_base baseB f3, .ref t,oe,vs,oT,ts,g1,g2,g3,g4,?_,g6,g7,g8,g9⟩,I2.untr hx.new,I2.untr noT,no0 _ hx.new,no0 _ noT,q2⟩
  . exact f1 b o (inB b o (I2.base.keep b o z n hb (nex b)) (notIn b o z hb))
  . obtain⟨sl,z1⟩:=I2.base.slot b o z n hb (nex b);obtain⟨_,o',ho',d'⟩:=I2.ok.funs.mem hb;have:o'=o:=by rw[show(YT (CXR P w base) P w K mg base N qual scope f cd A outer s0 H0 E).s₀.heap.get? b=some o from z]at ho';exact(Option.some.inj ho').symm
    subst this;obtain⟨sl',z2⟩:=U2 b _ z1 (λ vs=>d' vs);exact⟨sl',z2⟩
  . by_cases hb:b∈frs (envOfC qual scope s0.heap.objs.size f cd::outer)
    . obtain⟨_,o',ho',d'⟩:=stk.mem hb;obtain⟨sl,z2⟩:=U2 b o' ho' d';exact⟨_,z2⟩
    . obtain⟨o',z'⟩:=I2.base.there b o z (nex b);exact⟨o',f1 b o' (inB b o' z' hb)⟩
  . refine(I2.hok b u z).stay (λ c v hc q=>?_) (λ _ q=>q) λ _ _ q=>q;have tr:∀ c v,H2 c=some v->c∉frs (envOfC qual scope s0.heap.objs.size f cd::outer):=λ c v q n=>by rw[I2.stkFree c n]at q;cases q
    rcases hc with hc|hc
    . rw[hc]at q ⊢;exact f1 b v (inB b v q (tr b u z))
    . exact f1 c v (inB c v q (tr c _ hc))
  . cases z:base.get? ex with
    |none=>rfl
    |some o=>
      have:=I2.bk ex o z;rw[hx.new]at this;cases this
  . cases z:base.get? Tr with
    |none=>rfl
    |some o=>
      have:=I2.bk Tr o z;rw[noT]at this;cases this
end
open PySem PySem.Spec PyProof.Rows
noncomputable def XP (X:Cx)(pins:List (Addr×Obj))(σ:St)(R:Value->Hp->Prop)(e:Value)(s':Shared):Prop:=∃(a T:Addr)(C:Value)(H':Hp),e = .ref a/\Inv X pins σ H' s'/\Fly X.base X.stack a T C s'.heap/\H' a=none/\H' T=none /\
 X.s₀.heap.get? a=none/\X.s₀.heap.get? T=none/\(∀ p∈X.pn++pins,p.1≠a/\p.1≠T)/\a≠X.env.locals/\R C H'
structure Dx (P:Program)(w:World)(K:Frag)(mg:Str->Option Value)(base:Heap)(k:Nat)(x:Str)(ps:List Str)(sp:Sp):Prop where
  ex:∃ f fd,FnOk P w K mg base (CXR P w base) k f fd ps sp/\mg x=some (.ref f)/\keepIn K (.ref f)=true/\X2 K fd ps []
section
variable {X:Cx}{k:Nat}{ps:List Str}{sp:Sp}{x:Str}{p pos:Pos}{e:Expr}{es:List Expr}{t:TA}
end
section
variable {X:Cx}{pins:List (Addr×Obj)}{σ:St}{H:Hp}{s:Shared}
end
open PySem PySem.Spec PyProof.Rows PySem.W
structure XAt (K:Frag)(C:Addr):Prop where
  x:XCls K C
  ga:findIn K (.ref C) "__getattribute__"=some (some (.builtin "BaseException.__getattribute__"))
  hk:findIn K (.ref C) "__getattr__"=some none
  ca:findIn K (.ref C) "__class__"=some (some (.builtin "object.__class__"))
  mo:subIn K (.ref C) (.type "object")=some true
  sb:subIn K (.ref C) (.type "BaseException")=some true
section
variable {prog:Program}{w:World}{A:Around}{E:Value->Shared->Prop}{h:Heap}{g:Array GenState}{d:Drawn}{t:Nat}{os:OsState}{a C:Addr}{oe:Obj}{K:Frag}{vs:Array Value}
end
open PySem PySem.Spec PyProof.Rows PySem.W
section
variable {X:Cx}{pins:List (Addr×Obj)}{σ:St}{H:Hp}{s:Shared}
end
theorem Fun.okX {P:Program}{w:World}{K:Frag}{mg:Str->Option Value}{base:Heap}{x qual:Str}{st:Stmt}{f:Addr}{fd:FuncData}{N ps:List Str}{k:Nat}{sp:Sp}(F:Fun K x qual st f fd)(S:FnScope N ps (Zh st))(len:∀ vs H Q E,sp vs H Q E->vs.length=ps.length)(hbody:∀(cdv:Value)(A:Around)(outer:List Env)(s:Shared)(H:Hp)(vs:List V)(Q:VK)(E:XK),Room k (A.deeper (envOfC qual (Zh st) s.heap.objs.size f cdv))->sp vs H Q E ->
      ∃ t,PSs (YT (CXR P w base) P w K mg base N qual (Zh st) f cdv A outer s H E) (ZZ st) t/\t { nx:=λ _ H'=>Q .non H',rt:=Q } (ZaH N vs) H):FnOk P w K mg base (CXR P w base) (k+1) f fd ps sp:=by
  obtain⟨oc,od,kV,doc,pm,an,cdv,ct,osl,rfl,lk,hcd⟩:=F.ex;exact fn_of lk hcd S len λ A outer s H vs Q E hr hsp=>hbody cdv A outer s H vs Q E hr hsp
open PySem PySem.Spec PyProof.Rows
mutual
inductive Rds (K:Frag)(H:Hp):V->PyData->Prop
  | non:Rds K H .non .none
  | bl (b:Bool):Rds K H (.bl b) (.bool b)
  | int (i:Int):Rds K H (.int i) (.int i)
  | str (x:Str):Rds K H (.str x) (.str x)
  | list {a:Addr} {xs:List V} {ds:List PyData}:SqL K H a xs->RdsAll K H xs ds->Rds K H (.ref a) (.list ds)
  | tuple {a:Addr} {xs:List V} {ds:List PyData}:SqT K H a xs->RdsAll K H xs ds->Rds K H (.ref a) (.tuple ds)
inductive RdsAll (K:Frag)(H:Hp):List V->List PyData->Prop
  | nil:RdsAll K H [] []
  | cons {x:V} {xs:List V} {d:PyData} {ds:List PyData}:Rds K H x d->RdsAll K H xs ds->RdsAll K H (x::xs) (d::ds)
end
section
variable {X:Cx}{pins:List (Addr×Obj)}{σ:St}{H:Hp}{s:Shared}
mutual
theorem Rds.reads (I:Inv X pins σ H s):∀ {x:V} {d:PyData} {u:Value},Rds X.K H x d->Zx x u->∃ as,Reads s.heap u d as
  | _,_,_, .non,r=>by
    cases r;exact⟨[], .none⟩
  | _,_,_, .bl b,r=>by
    cases r;exact⟨[], .bool b⟩
  | _,_,_, .int i,r=>by
    obtain⟨t,rfl⟩:=r;exact⟨[], .int i t⟩
  | _,_,_, .str i,r=>by
    obtain⟨t,rfl⟩:=r;exact⟨[], .str i t⟩
  | _,_,_, .list (a:=a) h q,r=>by
    cases r;obtain⟨its,r',pl,_⟩:=I.list h;obtain⟨o,ho,hc,n,hd⟩:=pl.isList;obtain⟨as,z⟩:=RdsAll.reads I q r';exact⟨a::as, .list ho hc hd z⟩
  | _,_,_, .tuple (a:=a) h q,r=>by
    cases r;obtain⟨its,r',pl,_⟩:=I.tuple h;obtain⟨o,ho,hc,n,hd⟩:=pl;obtain⟨as,z⟩:=RdsAll.reads I q r';exact⟨as, .tuple ho hc hd z⟩
theorem RdsAll.reads (I:Inv X pins σ H s):∀ {xs:List V} {ds:List PyData} {us:List Value},RdsAll X.K H xs ds->ZG xs us->∃ as,ReadsAll s.heap us ds as
  |_,_,_, .nil, .nil=>⟨[], .nil⟩
  | _,_,_, .cons h t, .cons r rs=>by
    obtain⟨as,z⟩:=Rds.reads I h r;obtain⟨bs,y⟩:=RdsAll.reads I t rs;exact⟨as++bs, .cons z y⟩
end
noncomputable def rEqD (K:Frag)(ng:Bool):R2:=λ x y H Q=>∃ da db,Rds K H x da/\Rds K H y db/\SeqAt.shaped da=true/\SeqAt.shaped db=true/\Q (.bl (if ng then !PyData.eqv da db else PyData.eqv da db)) H
theorem op_eqD {X:Cx}(hu:X.A.units+64<cLine):OpR X (compareOp .Eq) (rEqD X.K false):=by
 intro pins s σ H x y v u Q I rx ry h;obtain⟨da,db,ha,hb,sa,sb,q⟩:=h;obtain⟨as,z⟩:=ha.reads I rx;obtain⟨bs,z'⟩:=hb.reads I ry;exact SeqAt.compareEq_shaped z z' sa sb hu ⟨.bl _,H,I,rfl,q⟩
theorem Zfs {X:Cx}(hu:X.A.units+64<cLine):OpR X (compareOp .NotEq) (rEqD X.K true):=by
 intro pins s σ H x y v u Q I rx ry h;obtain⟨da,db,ha,hb,sa,sb,q⟩:=h;obtain⟨as,z⟩:=ha.reads I rx;obtain⟨bs,z'⟩:=hb.reads I ry;exact SeqAt.compareNe_shaped z z' sa sb hu ⟨.bl _,H,I,rfl,q⟩
theorem Zfi {ss:List Str}{us:List Value}(h1:us.length=ss.length)(h2:∀(j:Nat)(u:Value),us[j]? = some u->∃ x t,ss[j]? = some x/\u = .str x t):StrsAre us ss:=by
  induction us generalizing ss with
  |nil=>
    cases ss with
    |nil=>exact .nil
    |cons _ _=>simp at h1
  |cons u us ih=>
    cases ss with
    |nil=>simp at h1
    |cons x ss=>
      obtain⟨y,t,e,rfl⟩:=h2 0 u rfl;cases e;exact .cons _ _ (ih (by simpa using h1) λ j u e=>h2 (j+1) u (by simpa using e))
theorem Zgo {us:List Value}{ss:List Str}(h:StrsAre us ss):ZG (ss.map V.str) us:=by
  induction h with
  |nil=>exact .nil
  |cons y t _ ih=>exact .cons ⟨t,rfl⟩ ih
theorem Zf1:∀ {kvs:List (Key×V)} {vs:List (Key×Value)} {i:Nat} {k:Key} {x:Value},KV kvs vs->vs[i]? = some (k,x)->∃ y,kvs[i]? = some (k,y)
  |_,_,_,_,_, .nil,e=>by simp at e
  | _,_,0,_,_, .cons (a:=p) r _,e=>by
    obtain⟨e1,_⟩:=r;simp only[List.getElem?_cons_zero,Option.some.injEq]at e ⊢;subst e;exact⟨p.2,Prod.ext e1 rfl⟩
  | _,_,i+1,_,_, .cons _ t,e=>by
    simp only[List.getElem?_cons_succ]at e ⊢;exact Zf1 t e
end
end L2
namespace L2
open PySem PySem.Spec PyProof.Rows
section
variable {X:Cx}{pins:List (Addr×Obj)}{σ:List (Option V)}{H H':Hp}{s:Shared}{h':Heap}
theorem Inv.turnedL {t':Nat}{ch:List Addr}(I:Inv X pins σ H s)(k:∀ b o,b∉ch->s.heap.get? b=some o->h'.get? b=some o)(f:∀ b∈ch,Zag X pins H b):Inv X pins σ H { s with heap:=h',toks:=t' }:=by
  have nit:∀ b u,H b=some u->b∉ch:=λ b u e z=>by rw[(f b z).1]at e;cases e
  refine I.step (g':=s.gens) (d':=s.drawn) (ch:=ch) (λ b hb=>⟨(f b hb).2.2.2.1,(f b hb).2.1,(f b hb).2.2.2.2.1,(f b hb).2.2.2.2.2⟩) (λ b o _ _ hc e _=>k b o hc e) (λ b o _ _ hc e _=>⟨o.slots,k b o hc e⟩) (λ _ _ _ _ n=>n)
    (λ b o hc e=>⟨o,k b o hc e⟩) (λ _ _ e=>e) (λ _ _ _ e=>e) (λ b ps e=>⟨#[],by rw[e];simp⟩) (λ m hm=>?_) (λ b u e=>?_) I.bare
  . obtain⟨o,es,ep,ho,r⟩:=hm;exact⟨o,es,ep,k _ o (λ z=>(f _ z).2.1 rfl) ho,r⟩
  . refine(I.hok b u e).stay (λ c v hc q=>k c v ?_ q) (λ _ q=>q) λ _ _ q=>q;rcases hc with z|z
    . rw[z];exact nit b u e
    . exact nit c _ z
end
noncomputable def Ite (K:Frag)(a:Addr):It:=
 ⟨λ i H=>∃ xs x,SqL K H a xs/\xs[i]? = some x,λ i H v H'=>∃ T x,H T=none/\v = .ref T/\(∀ xs,SqL K H a xs->xs[i]? = some x)/\H'=upd H T (.tup [.int i,x]),λ i H=>∃ xs,SqL K H a xs/\xs.length<=i⟩
theorem Zgq {P:Program}{w:World}{K:Frag}{elts:List Expr}{k:Nat}{pos:Pos}(a e it:Addr)(hne:e≠it):Turn P w K (.Tuple elts k pos) (Ite K a) [e,it] e (λ i h=>(∃ old,IsEnum h e it i old)/\h.IsListIter it a i) where
  mem:=by simp
  obj:=λ i h st b hb=>by
    obtain⟨⟨old,s1⟩,o,e2,c,d⟩:=st;rcases List.mem_cons.mp hb with rfl|hb
    . exact⟨_,s1,λ v z=>by
        have z':Data.fields _=Data.cell v:=z;cases z'⟩
    . have q:b=it:=by simpa using hb
      subst q;exact⟨o,e2,λ v z=>by rw[d]at z;cases z⟩
  keep:=λ i h h' st k=>by
    obtain⟨⟨old,s1⟩,s2⟩:=st;exact⟨⟨old,k e (by simp) _ s1⟩,s2.at λ o q=>k it (by simp) o q⟩
  item:=by
    intro X hP hw hK hc i pins s σ H E I hf st hg;subst hP hw hK;obtain⟨xs,x,hq,hx⟩:=hg;obtain⟨its,rv,p,hz⟩:=I.list hq;obtain⟨u,hu,ru⟩:=rv.get hx;obtain⟨⟨old,s1⟩,s2⟩:=st;have e1:e<s.heap.objs.size:=Heap.lt_size s1;have e2:it<s.heap.objs.size:=by obtain⟨_,y,_⟩:=s2;exact Heap.lt_size y
    refine wpAny_pyNext_enum_item s1 s2 p.isList (x:=u) (by simpa using hu) hne λ h' ho hit hT hsz kk=>⟨_,rfl,?_⟩;refine wpAny_letOwnedTupleGo_enum ho λ h2 he hs=>?_;have fr:H s.heap.objs.size=none:=I.fresh;have I1:Inv X pins σ (upd H s.heap.objs.size (.tup [.int i,x])) { s with heap:=s.heap.push { cls:=.type "tuple",data:=.seq #[.int i s.toks,u] } }:=
      I.laid (t':=s.toks) (λ b o q=>Heap.get?_push_of_some _ q) (le_refl _) (show ZV X.prog X.w _ _ _ (.tup [.int i,x]) from⟨by show 2<=sizeLine;decide,[.int i s.toks,u], .cons ⟨_,rfl⟩ (.cons ru .nil),IsTup.new _ _⟩)
    have ff:∀ b∈[e,it],Zag X pins (upd H s.heap.objs.size (.tup [.int i,x])) b:=λ b hb=>by
      refine⟨?_,(hf b hb).2⟩;rw[Ze]
      . exact(hf b hb).1
      . rcases List.mem_cons.mp hb with rfl|hb
        . exact ne_of_lt e1
        . rw[List.mem_singleton.mp hb];exact ne_of_lt e2
    have I2:Inv X pins σ (upd H s.heap.objs.size (.tup [.int i,x])) { s with heap:=h2,toks:=s.toks+1 }:=by
      have z:=Inv.turnedL (s:={ s with heap:=s.heap.push { cls:=.type "tuple",data:=.seq #[.int i s.toks,u] } }) (h':=h2) (t':=s.toks+1) (ch:=[e,it]) I1 (λ b o hb q=>?_) ff;exact z;have n1:b≠e:=λ z=>hb (by simp[z]);have n2:b≠it:=λ z=>hb (by simp[z]);refine(hs.2 b n1).trans ?_
      by_cases z:b=s.heap.objs.size
      . subst z;have q':(s.heap.push { cls:=.type "tuple",data:=.seq #[.int i s.toks,u] }).get? s.heap.objs.size=some o:=q;rw[Heap.get?_push_size _ rfl]at q';cases q';exact hT
      . have q':(s.heap.push { cls:=.type "tuple",data:=.seq #[.int i s.toks,u] }).get? b=some o:=q;rw[Heap.get?_push_ne _ _ _ z]at q';exact kk b o n1 n2 q'
    refine⟨.ref s.heap.objs.size,_,I2,rfl,⟨s.heap.objs.size,x,fr,rfl,λ ys hy=>by rw[I.list_inj hy hq];exact hx,rfl⟩,⟨⟨u,?_⟩,hit.at λ o q=>(hs.2 it (Ne.symm hne)).trans q⟩,λ b hb=>(ff b hb).1⟩;exact he
  done:=by
    intro X hP hw hK hc i pins s σ H E I hf st hg;subst hP hw hK;obtain⟨xs,hq,hx⟩:=hg;obtain⟨its,rv,p,hz⟩:=I.list hq;obtain⟨⟨old,s1⟩,s2⟩:=st;have hl:=rv.length;obtain⟨f0,f1,f2,f3,f4,f5⟩:=hf it (by simp);exact wpAny_pyNext_enum_end (I.ok.hd hc) s1 s2 p.isList (by simp;omega) λ h' eb=>⟨rfl,I.turned (t':=s.toks) (λ b o hb e=>eb b o hb e) f0 f1 f3 f4 f5⟩
  self:=λ _ _ _ _ _ st h=>by
    obtain⟨⟨old,s1⟩,_⟩:=st;exact wpAny_pyIter_enum s1 h
section
variable {X:Cx}
noncomputable def iEnum (K:Frag)(ta:TA):TI:=λ σ H R=>ta σ H λ vs H1=>∃ a,vs=[.ref a]/\(∃ xs,SqL K H1 a xs)/\R (Ite K a) H1
theorem Zis {a:Expr}{ta:TA}{p pos:Pos}{elts:List Expr}{k:Nat}{tp:Pos}(hg:Gl X "enumerate")(hm:X.mg "enumerate"=none)(ha:PA X [a] ta)(hs:starEach [a] X.env=[(false,eval a X.env)]:=by rfl) :
    PI X (.Tuple elts k tp) (.Call (.Name "enumerate" p) [a] [] pos) (iEnum X.K ta):=by
  refine⟨?_⟩;intro pins s σ H R I h;refine Call_ (ZcZ I hg hm boot_enumerate (PyProof.Rows.callWith_type1 (thn (ha pos pins s σ H _ I h) λ us s1 zz9=>?_) hs rfl));obtain⟨vs,H1,I1,r1,q1⟩:=zz9;obtain⟨b,e,⟨xs,hq⟩,q⟩:=q1;subst e;obtain⟨u,rfl,rx⟩:=Zah r1;cases rx;obtain⟨its,rv,pl,hz⟩:=I1.list hq;refine call_enumerate_list pl.isList λ h' he hit hsz kk=>?_;refine wpAny_pyIter_enum he ?_;refine⟨s1.heap.objs.size+1,[s1.heap.objs.size+1,s1.heap.objs.size],_,_,H1,rfl,I1.kept (t':=s1.toks) kk,Zgq b _ _ (Nat.succ_ne_self _),⟨⟨_,he⟩,hit⟩,λ c hc=>?_,q⟩;rcases List.mem_cons.mp hc with rfl|hc
  . exact I1.fpOk (le_succ _) (I1.hok.fresh (le_succ _))
  . rw[List.mem_singleton.mp hc];exact I1.fpOk (le_refl _) (I1.hok.fresh (le_refl _))
end
end L2
namespace L2
open PySem PySem.Spec PyProof.Rows
theorem loopD {prog:Program}{w:World}{A:Around}{R:Result->Shared->Prop}{s:Shared}{kx vx tg iter:Expr}{scope:Scope}{pos:Pos}{it:Value}{D:Addr}{env:Env}(J:Nat->Shared->Prop)(turn:∀ n s,J n s->wpAny (model prog w) A (pyNext it) (λ r s1=>match r with
      |none=>R (.ok .next) s1
      |some v=>wpAny (model prog w) A (letOwnedTupleGo tg it v) (λ _ s2=>wpAny (model prog w) A (assign tg env v) (λ _ s3=>wpAny (model prog w) A (eval kx env) (λ kv s4=>wpAny (model prog w) A (eval vx env) (λ vv s5=>
          wpAny (model prog w) A (dictSet D kv vv) (λ _ s6=>∃ m,m<n/\J m s6) (λ _ _=>False) s5) (λ _ _=>False) s4) (λ _ _=>False) s3) (λ _ _=>False) s2) (λ _ _=>False) s1) (λ _ _=>False) s)(n:Nat)(h:J n s):codeAny (model prog w) A (.compLoop (.DictComp kx vx [⟨tg,iter,[],0⟩] scope pos) 0 it (.ref D) env) R s:=by
  refine codeAny_loop rfl J (λ n s hJ=>?_) n h;show wpAny _ A ((compTurn (.DictComp kx vx [⟨tg,iter,[],0⟩] scope pos) 0 it (.ref D) env).onRaise (λ x=>do noteFrame x env;theTreesLotGoes x)) _ _ s;refine wpAny_noted (wpAny_noRaise ?_);rw[compTurn_dict];refine wpAny_bind (wpAny_standAt (wpAny_bind (thn (turn n s hJ) λ r s1 h1=>?_)));cases r with
  |none=>exact wpAny_pure h1
  |some v=>
    refine wpAny_bind (thn h1 λ _ s2 h2=>wpAny_bind (thn h2 λ _ s3 h3=>wpAny_bind (wpAny_tests_nil ?_)));exact wpAny_bind (wpAny_bind (thn h3 λ kv s4 h4=>wpAny_bind (wpAny_holding (thn h4 λ vv s5 h5=>wpAny_bind (wpAny_standAt (wpAny_holding (thn h5 λ _ s6 h6=>wpAny_pure ⟨rfl,h6⟩)))))))
noncomputable def tDC (n:Nat)(caps:List (Str×Nat))(wi:TI)(g:TG)(tk tv:TE):TE:=λ σ H Q=>wi σ H λ J H1=>∀ D,H1 D=none ->
  ∃ W:Nat->Nat->Hp->Prop,(∃ m,W 0 m (upd H1 D (.dK [])))/\∀ i m H2,W i m H2 ->
    (J.stop i H2/\Q (.ref D) H2)\/(J.go i H2/\∀ x H',J.yld i H2 x H'->∀ vals:St,vals.length=n->g x (vals++Z1 caps σ) H' λ σ2 H3=>∃ vals':St,vals'.length=n/\σ2=vals'++Z1 caps σ /\
      tk σ2 H3 λ k H4=>tv σ2 H4 λ v H5=>∃(kvs:List (Key×V))(k':Key)(m':Nat),k=kV k'/\H5 D=some (.dK kvs)/\kvs.length<sizeLine/\m'<m/\W (i+1) m' (upd H5 D (.dK (X8 kvs k' v))))
section
variable {X:Cx}
theorem ZgQ {scope:Scope}{cl:List (Str×Addr)}{xs:List Str}{caps:List (Str×Nat)}{fp:List Addr}{pins:List (Addr×Obj)}{σ:St}{H:Hp}{s:Shared}{h1:Heap}{t':Nat}{m:Str->Option Value}(I:Inv X pins σ H s)(hf:∀ b∈fp,Zag X pins H b)(hin:∀ b∈fp,b<s.heap.objs.size)(hkind:scope.kind = .function)(hcl:∀ x c,cl.lookup x=some c->X.env.cells.lookup x=some c)(hhas:∀ x,((relabel scope X.env).names.lookup x=some .cell\/(relabel scope X.env).names.lookup x=some .free)->∃ c,cl.lookup x=some c)(hcap:∀ p∈caps,X.N[p.2]? = some p.1/\X.env.scope.names.lookup p.1=some .cell/\((relabel scope X.env).names.lookup p.1=some .cell\/(relabel scope X.env).names.lookup p.1=some .free))(hn:h1.Ns s.heap.objs.size m)(hk:∀ b o,s.heap.get? b=some o->h1.get? b=some o) :
    Inv (X.comp scope cl s.heap.objs.size (xs++caps.map (·.1)) s H fp pins) [] (List.replicate xs.length none++Z1 caps σ) H { s with heap:=h1,toks:=t' }:=by
  refine⟨Zgj I hf hin hkind hcl hhas,rfl,I.bare,Un.kept hk,⟨m,hn,λ i y v e1 e2 e3=>?_⟩,λ y c e=>?_,I.hok.fresh (le_refl _),λ y c e=>I.freeC y c (hcl y c e),λ p hp=>?_,I.hok.kept hk,?_⟩
  . have e1':(xs++caps.map (·.1))[i]? = some y:=e1
    by_cases hi:i<xs.length
    . rw[getElem?_append_left (by simpa using hi),List.getElem?_replicate,if_pos hi]at e2;cases e2
    . rw[getElem?_append_right (by simpa using hi),List.length_replicate]at e2;rw[getElem?_append_right (by simpa using hi)]at e1';generalize i - xs.length=j at e1' e2;have e2':(caps.map λ p=>(σ[p.2]?).join)[j]? = some (some v):=e2;rw[getElem?_map]at e1' e2';cases q:caps[j]? with
      |none=>rw[q]at e1';cases e1'
      |some p=>
        rw[q]at e1' e2';have hy:p.1=y:=Option.some.inj e1';have hv:(σ[p.2]?).join=some v:=Option.some.inj e2';obtain⟨c1,c2,c3⟩:=hcap p (mem_of_getElem? q);have hv':σ[p.2]? = some (some v):=by
          cases z:σ[p.2]? with
          |none=>rw[z]at hv;cases hv
          |some w=>rw[z]at hv;rw[<- hv];rfl
        obtain⟨m0,_,hl0⟩:=I.loc;obtain⟨u,ru,lk⟩:=hl0 p.2 p.1 v c1 hv' (.inr (.inl c2));subst hy;refine⟨u,ru, .inr ⟨c3,?_⟩⟩;obtain⟨c,hc⟩:=hhas p.1 c3;rcases lk with ⟨k,_⟩|⟨_,c',hc',z⟩
        . have k':X.env.scope.names.lookup p.1=some .local:=k;rw[c2]at k';cases k'
        . have:c=c':=Option.some.inj ((hcl p.1 c hc).symm.trans hc');subst this;obtain⟨o,ho,hd⟩:=z;exact⟨c,hc,o,hk _ _ ho,hd⟩
  . obtain⟨v,o,ho,hd⟩:=I.cell y c (hcl y c e);exact⟨v,o,hk _ _ ho,hd⟩
  . have hp':p∈X.pn++pins:=by simpa using hp
    obtain⟨a1,a2,a3,a4,a5⟩:=I.pin p hp';refine⟨hk _ _ a1,a2,ne_of_lt (Heap.lt_size a1),λ z=>?_,a5⟩;rcases List.mem_cons.mp (I.stkSub p.1 z) with e|e
    . exact a3 e
    . exact a4 e
  . show(List.replicate xs.length none++Z1 caps σ).length=(xs++caps.map (·.1)).length;simp[Z1]
theorem d_set {pins:List (Addr×Obj)}{σ:St}{H H':Hp}{s:Shared}{a:Addr}{y v:V}{u r:Value}{kvs:List (Key×V)}{A:Around}{E:Value->Shared->Prop}{Q:Unit->Shared->Prop}(I:Inv X pins σ H s)(hd:H a=some (.dK kvs))(g:Jm H a y v H')(ry:Zx y u)(rv:Zx v r)(h:∀ s',Inv X pins σ H' s'->Q () s') :
    wpAny (model X.prog X.w) A (dictSet a u r) Q E s:=by
  rcases g with ⟨kvs',k,e,ey,l,eH⟩|⟨kvs',k,b,e,ey,eb,l,eH⟩
  . subst ey eH;obtain⟨z,hd,vs,rel,dd⟩:=ZhY I.hok e;have hz:vs.length<=sizeLine:=by rw[<- rel.length];exact z
    have hl:(X8 kvs' k v).length<=sizeLine:=by have:=JN kvs' k v;omega
    refine wpAny_dictSet_pairs (hsz:=hz) (Zc0 ry) dd λ h' dd' hs=>h _ ?_;have he:∃ q,h'.get? a=some q:=let ⟨q,_,_,hq,_⟩:=dd';⟨q,hq⟩;exact Zeu I (by rw[e];exact True.intro) hs he (ZhZ hl hd (rel.put k rv) dd')
  . rw[hd]at e;cases e
theorem pe_dc {kx vx iter tg:Expr}{xs:List Str}{scope:Scope}{cl:List (Str×Addr)}{pos:Pos}{caps:List (Str×Nat)}{wi:TI}{g:TG}{tk tv:TE}(hc:X.calm=true)(hi:PI X tg iter wi)(hg:∀ C s₀ H₀ fp pins,PG (X.comp scope cl C (xs++caps.map (·.1)) s₀ H₀ fp pins) tg g)(hkx:∀ C s₀ H₀ fp pins,PE (X.comp scope cl C (xs++caps.map (·.1)) s₀ H₀ fp pins) kx tk)(hvx:∀ C s₀ H₀ fp pins,PE (X.comp scope cl C (xs++caps.map (·.1)) s₀ H₀ fp pins) vx tv)(hclos:closureFor scope X.env=pure cl)(hcell:∀ y∈scope.names,y.2 ≠ .cell)(hkind:scope.kind = .function)(hnames:∀ y∈scope.names,y.2 = .local->scope.names.lookup y.1=some .local)(hcl:∀ x c,cl.lookup x=some c->X.env.cells.lookup x=some c)(hhas:∀ x,((relabel scope X.env).names.lookup x=some .cell\/(relabel scope X.env).names.lookup x=some .free)->∃ c,cl.lookup x=some c)(hcap:∀ p∈caps,X.N[p.2]? = some p.1/\X.env.scope.names.lookup p.1=some .cell/\((relabel scope X.env).names.lookup p.1=some .cell\/(relabel scope X.env).names.lookup p.1=some .free))(hs:∀ x,foldedSetIterable iter X.env x=pure x:=by intro _;rfl) :
    PE X (.DictComp kx vx [⟨tg,iter,[],0⟩] scope pos) (tDC xs.length caps wi g tk tv):=by
  refine⟨?_⟩;intro pins s σ H Q I h;rw[arm_eval_DictComp];refine wpAny_comprehension_free (use:=none) rfl hs hclos hkind hnames (thn (hi pins s σ H _ I h) λ v s1 h1=>thn h1 λ itv s2 h2=>?_);obtain⟨it,fp,tn,J,H2,e,I2,T,st2,f2,q2⟩:=h2;subst e;refine wpAny_newObj_type ?_;have fD:H2 s2.heap.objs.size=none:=I2.fresh;obtain⟨W,⟨m0,w0⟩,turn⟩:=q2 s2.heap.objs.size fD;have I3:=I2.laid (a:=s2.heap.objs.size) (o:=.dK []) (h':=s2.heap.push { cls:=.type "dict",data:=.dict #[] }) (t':=s2.toks) (λ _ _ q=>Heap.get?_push_of_some _ q) (le_refl _) (Ze1 s2.heap I2.big);have lt2:∀ b∈fp,b<s2.heap.objs.size:=λ b hb=>by
    obtain⟨o,ho,_⟩:=T.obj 0 _ st2 b hb;exact Heap.lt_size ho
  have neD:∀ b∈fp,b≠s2.heap.objs.size:=λ b hb=>ne_of_lt (lt2 b hb);have st3:tn 0 (s2.heap.push { cls:=.type "dict",data:=.dict #[] }):=T.keep 0 _ _ st2 λ b _ o e=>Heap.get?_push_of_some _ e;have f3:∀ b∈fp,Zag X pins (upd H2 s2.heap.objs.size (.dK [])) b:=λ b hb=>⟨by rw[Ze (neD b hb)];exact(f2 b hb).1,(f2 b hb).2⟩;generalize hs3:({ s2 with heap:=s2.heap.push { cls:=.type "dict",data:=.dict #[] },toks:=s2.toks }:Shared)=s3 at I3;generalize hD:s2.heap.objs.size=D at *;have hs3h:s3.heap=s2.heap.push { cls:=.type "dict",data:=.dict #[] }:=by rw[<- hs3]
  have goal3:wpAny (model X.prog X.w) X.A (newFunctionEnv scope X.env.globals cl [] X.env.qual none .none (some X.env)) (λ cenv s₄=>
      codeAny (model X.prog X.w) X.A (.compStart (.DictComp kx vx [⟨tg,iter,[],0⟩] scope pos) 0 (.ref it) (.ref D) { cenv with scope:=relabel scope X.env })
        (compPost (model X.prog X.w) X.A X.xe none (EP X pins σ Q) (.ref D) cenv.locals) s₄) X.xe s3:=by
    have lt3:∀ b∈fp,b<s3.heap.objs.size:=λ b hb=>by
      rw[hs3h,Heap.size_push,hD];exact Nat.lt_succ_of_lt (lt2 b hb)
    refine wpAny_newFunctionEnv hcell (by intro y hy;simp at hy) (λ h₁ hns₁ hsb₁=>?_) hkind;have old:∀ b o,s3.heap.get? b=some o->h₁.get? b=some o:=λ b o e=>hsb₁.extBut b o (ne_of_lt (Heap.lt_size e)) (Heap.get?_push_of_some _ e);have I4:Inv (X.comp scope cl s3.heap.objs.size (xs++caps.map (·.1)) s3 (upd H2 D (.dK [])) fp pins) [] (List.replicate xs.length none++Z1 caps σ) (upd H2 D (.dK [])) { s3 with heap:=h₁,toks:=s3.toks+0 }:=
      ZgQ I3 f3 lt3 hkind hcl hhas hcap hns₁ old
    have st4:tn 0 h₁:=T.keep 0 _ _ (by rw[<- hs3h]at st3;exact st3) λ b hb o e=>old b o e;have stat:∀ {H':Hp},(∀ b∈fp,H' b=none)->∀ b∈fp,Zag (X.comp scope cl s3.heap.objs.size (xs++caps.map (·.1)) s3 (upd H2 D (.dK [])) fp pins) [] H' b:=λ hn b hb=>
      ⟨hn b hb,ne_of_lt (lt3 b hb),I4.ok.exfs b hb, .inl hb,λ y c e=>(f3 b hb).2.2.2.2.1 y c (hcl y c e),λ p hp=>(f3 b hb).2.2.2.2.2 p (by simpa using hp)⟩
    have loop:codeAny (model X.prog X.w) X.A (.compLoop (.DictComp kx vx [⟨tg,iter,[],0⟩] scope pos) 0 (.ref it) (.ref D) (compEnvC scope cl s3.heap.objs.size X.env))
        (compPost (model X.prog X.w) X.A X.xe none (EP X pins σ Q) (.ref D) s3.heap.objs.size) { s3 with heap:=h₁,toks:=s3.toks+0 }:=by
      refine loopD (λ n s'=>∃ i vals H',vals.length=xs.length/\Inv (X.comp scope cl s3.heap.objs.size (xs++caps.map (·.1)) s3 (upd H2 D (.dK [])) fp pins) [] (vals++Z1 caps σ) H' s'/\tn i s'.heap/\(∀ b∈fp,H' b=none)/\W i n H') ?_ m0 ⟨0,List.replicate xs.length none,_,by simp,I4,st4,λ b hb=>(f3 b hb).1,w0⟩;rintro n s5 ⟨i,vals,H5,hv5,I5,st5,fr5,w5⟩;rcases turn i n H5 w5 with ⟨stop,qn⟩|⟨go,step⟩
      . refine wpAny_noRaise (thn (T.done (X.comp scope cl s3.heap.objs.size (xs++caps.map (·.1)) s3 (upd H2 D (.dK [])) fp pins) rfl rfl rfl hc i [] s5 _ H5 (λ _ _=>False) I5 (stat fr5) st5 stop) λ r s6 zz9=>?_);obtain⟨hr,I6⟩:=zz9;subst hr;obtain⟨m6,hn6,_⟩:=I6.loc;have fC:H5 s3.heap.objs.size=none:=I6.free;have u6:Un (frs X.stack) fp (upd H2 D (.dK [])) H5 s3.heap s6.heap:=I6.base;have ff:=I3.fpOk (le_refl _) fC;have I7:Inv X pins σ H5 s6:=I3.call' (ch:=fp) I6.os u6 I6.hok I6.bare λ b hb=>⟨(f3 b hb).2.2.2.1,(f3 b hb).2.1,(f3 b hb).2.2.2.2.1,(f3 b hb).2.2.2.2.2⟩;exact⟨m6,hn6,λ h' hs'=>⟨.ref D,H5,I7.turned (λ b o n e=>(hs'.2 b n).trans e) ff.1 ff.2.1 ff.2.2.2.1 ff.2.2.2.2.1 ff.2.2.2.2.2,rfl,qn⟩⟩
      . refine wpAny_noRaise (thn (T.item (X.comp scope cl s3.heap.objs.size (xs++caps.map (·.1)) s3 (upd H2 D (.dK [])) fp pins) rfl rfl rfl hc i [] s5 _ H5 (λ _ _=>False) I5 (stat fr5) st5 go) λ r s6 zz9=>?_);obtain⟨u,hr,h6⟩:=zz9;subst hr;refine wpAny_noRaise (thn h6 λ _ s6 zz9=>?_);obtain⟨y,H6,I6,r6,y6,st6,fr6⟩:=zz9;have I6':=I6.pinned (stat fr6) (T.obj _ _ st6);have again:∀ {v8:St} {H8:Hp} {s8:Shared} {m':Nat},v8.length=xs.length->Inv (X.comp scope cl s3.heap.objs.size (xs++caps.map (·.1)) s3 (upd H2 D (.dK [])) fp pins) ([]++Zbp fp s6.heap) (v8++Z1 caps σ) H8 s8->W (i+1) m' H8 ->
            ∃ i vals H',vals.length=xs.length/\Inv (X.comp scope cl s3.heap.objs.size (xs++caps.map (·.1)) s3 (upd H2 D (.dK [])) fp pins) [] (vals++Z1 caps σ) H' s8/\tn i s8.heap/\(∀ b∈fp,H' b=none)/\W i m' H':=λ {v8 H8 s8 m'} hv8 I8 w8=>by
          refine⟨i+1,v8,H8,hv8,I8.unpinned,T.keep _ _ _ st6 λ b hb o e=>(I8.pin (b,o) (mem_append_right _ (mem_append_right _ (YS hb e)))).1,λ b hb=>?_,w8⟩;obtain⟨o,e,d⟩:=T.obj _ _ st6 b hb;exact(I8.pin (b,o) (mem_append_right _ (mem_append_right _ (YS hb e)))).2.1
        refine wpAny_noRaise (thn (hg _ _ _ _ _ _ s6 _ H6 _ _ _ I6' r6 (step y H6 y6 vals hv5)) λ _ s7 zz9=>?_);obtain⟨σ7,H7,I7,vals7,hv7,es7,q7⟩:=zz9;subst es7;refine wpAny_noRaise (thn (hkx _ _ _ _ _ _ s7 _ H7 _ I7 q7) λ ku s8 zz9=>?_);obtain⟨k8,H8,I8,r8,q8⟩:=zz9;refine wpAny_noRaise (thn (hvx _ _ _ _ _ _ s8 _ H8 _ I8 q8) λ vu s9 zz9=>?_);obtain⟨v9,H9,I9,r9,kvs9,k',m',ek9,hd9,hl9,hm9,w9⟩:=zz9;subst ek9;exact d_set (X:=X.comp scope cl s3.heap.objs.size (xs++caps.map (·.1)) s3 (upd H2 D (.dK [])) fp pins) I9 hd9 (Jm.k hd9 hl9) r8 r9 λ s10 I10=>⟨m',hm9,again hv7 I10 w9⟩
    exact codeAny_compStart_dict loop (T.self _ 0 _ _ _ st4 loop)
  subst hs3;subst hD;exact goal3
end
end L2
namespace L2
open PySem PySem.Spec PyProof.Rows
theorem kit_ll {K:Frag}:PySem.W.kitOne K (.type "list") (.type "list")=some true:=by rfl
theorem kit_ss {K:Frag}:PySem.W.kitOne K (.type "str") (.type "str")=some true:=by rfl
section
variable {X:Cx}
theorem Zgx:OpR X (compareOp .LtE) (λ x y H Q=>∃ i j,x = .str i/\y = .str j/\Q (.bl (!decide (j.cps.toList<i.cps.toList))) H):=by
 intro pins s σ H x y v u Q I rx ry h;obtain⟨i,j,rfl,rfl,q⟩:=h;obtain⟨t,rfl⟩:=rx;obtain⟨t',rfl⟩:=ry;exact PySem.P.le_str (ZE I q rfl)
theorem Zg9:SlR X (λ x lo hi H Q=>∃ z,x = .str z/\z.length<=sizeLine/\Q (.str (Txt.slice z lo hi)) H):=by
  intro pins s σ H x v vl vu lo hi sl Q I rx hs pl pu h;obtain⟨z,rfl,hz,q⟩:=h;obtain⟨t,rfl⟩:=rx;refine⟨"str",_,F.slot_str_getitem.lookup,typeIs_str _ _ _,?_⟩;cases pl with
  |none=>
    cases pu with
    |none=>exact wpAny_getItem_str_slice (l:=none) (u:=none) (st:=none) hs rfl (post_val_or_str ⟨le_trans (Txt.slice_le z _ _) hz,λ t' k=>⟨.str _,H,I.tok _,⟨t',rfl⟩,q⟩⟩)
    |int j uj=>exact wpAny_getItem_str_slice (l:=none) (u:=some (j,uj)) (st:=none) hs rfl (post_val_or_str ⟨le_trans (Txt.slice_le z _ _) hz,λ t' k=>⟨.str _,H,I.tok _,⟨t',rfl⟩,q⟩⟩)
  |int i ui=>
    cases pu with
    |none=>exact wpAny_getItem_str_slice (l:=some (i,ui)) (u:=none) (st:=none) hs rfl (post_val_or_str ⟨le_trans (Txt.slice_le z _ _) hz,λ t' k=>⟨.str _,H,I.tok _,⟨t',rfl⟩,q⟩⟩)
    |int j uj=>exact wpAny_getItem_str_slice (l:=some (i,ui)) (u:=some (j,uj)) (st:=none) hs rfl (post_val_or_str ⟨le_trans (Txt.slice_le z _ _) hz,λ t' k=>⟨.str _,H,I.tok _,⟨t',rfl⟩,q⟩⟩)
end
end L2
namespace Sh
noncomputable def G (a b:Int):Int:=(Nat.gcd a.toNat b.toNat:Int)
theorem G_zero {a b:Int}(ha:0<=a)(hb:0<=b)(h:¬ 0<b):a=G a b:=by
 have:b=0:=by omega
 subst this;unfold G;simp;omega
theorem G_step {a b:Int}(ha:0<=a)(hb:0<b):G b (a % b)=G a b:=by
  unfold G;have e:(a % b).toNat=a.toNat % b.toNat:=by
    have h1:a=(a.toNat:Int):=by omega
    have h2:b=(b.toNat:Int):=by omega
    rw[h1,h2];exact toNat_natCast _
  rw[e,Nat.gcd_comm a.toNat b.toNat,Nat.gcd_rec b.toNat a.toNat,Nat.gcd_comm]
structure Low (n d q r:Int):Prop where
  q0:0<=q
  r0:0<r
  g:G q r=1
  eq:q * d=n * r
theorem G_pos {a b:Int}(hb:0<b):0<G a b:=by
 unfold G;have:=Nat.gcd_pos_of_pos_right a.toNat (show 0<b.toNat by omega);omega
theorem G_le {a b:Int}(hb:0<b):G a b<=b:=by
 unfold G;have:=Nat.le_of_dvd (show 0<b.toNat by omega) (Nat.gcd_dvd_right a.toNat b.toNat);omega
theorem low {n d:Int}(hn:0<=n)(hd:0<d):Low n d (n / G n d) (d / G n d):=by
  have g0:=G_pos (a:=n) hd;have e1:n / G n d=((n.toNat / Nat.gcd n.toNat d.toNat:Nat):Int):=by
    conv=>lhs;rw[show n=(n.toNat:Int) by omega]
    unfold G;rw[toNat_natCast];rfl
  have e2:d / G n d=((d.toNat / Nat.gcd n.toNat d.toNat:Nat):Int):=by
    conv=>lhs;lhs;rw[show d=(d.toNat:Int) by omega]
    unfold G;rfl
  have p:0<Nat.gcd n.toNat d.toNat:=Nat.gcd_pos_of_pos_right n.toNat (show 0<d.toNat by omega);have dv1:=Nat.gcd_dvd_left n.toNat d.toNat;have dv2:=Nat.gcd_dvd_right n.toNat d.toNat;rw[e1,e2];refine⟨Int.natCast_nonneg _,?_,?_,?_⟩
  . have:=Nat.div_pos (Nat.le_of_dvd (show 0<d.toNat by omega) dv2) p;omega
  . unfold G;rw[toNat_natCast,toNat_natCast,Nat.gcd_div dv1 dv2,Nat.div_self p];rfl
  . have:n.toNat / Nat.gcd n.toNat d.toNat * d.toNat=n.toNat * (d.toNat / Nat.gcd n.toNat d.toNat):=by
      obtain⟨x,hx⟩:=dv1;obtain⟨y,hy⟩:=dv2;have x1:n.toNat / Nat.gcd n.toNat d.toNat=x:=by
        conv=>lhs;lhs;rw[hx]
        exact Nat.mul_div_cancel_left x p
      have y1:d.toNat / Nat.gcd n.toNat d.toNat=y:=by
        conv=>lhs;lhs;rw[hy]
        exact Nat.mul_div_cancel_left y p
      rw[x1,y1]
      conv=>lhs;rw[hy]
      conv=>rhs;rw[hx]
      rw[Nat.mul_left_comm,Nat.mul_assoc]
    have h:=congrArg (λ z:Nat=>(z:Int)) this;have h1:(n.toNat:Int)=n:=by omega
    have h2:(d.toNat:Int)=d:=by omega
    simp only[Int.natCast_mul,h1,h2]at h;exact h
end Sh
namespace Sh
theorem G_mul {k a b:Int}(hk:0<k)(ha:0<=a)(hb:0<=b):G (k * a) (k * b)=k * G a b:=by
  unfold G;have e1:(k * a).toNat=k.toNat * a.toNat:=by
    conv=>lhs;rw[show k=(k.toNat:Int) by omega,show a=(a.toNat:Int) by omega]
    exact toNat_natCast (k.toNat * a.toNat)
  have e2:(k * b).toNat=k.toNat * b.toNat:=by
    conv=>lhs;rw[show k=(k.toNat:Int) by omega,show b=(b.toNat:Int) by omega]
    exact toNat_natCast (k.toNat * b.toNat)
  rw[e1,e2,Nat.gcd_mul_left,Int.natCast_mul,show((k.toNat:Nat):Int)=k by omega]
theorem lq_mul {k a b:Int}(hk:0<k)(ha:0<=a)(hb:0<b):k * a / G (k * a) (k * b)=a / G a b/\k * b / G (k * a) (k * b)=b / G a b:=by
 rw[G_mul hk ha (Int.le_of_lt hb)];exact⟨Int.mul_ediv_mul_of_pos _ _ hk,Int.mul_ediv_mul_of_pos _ _ hk⟩
theorem G_zero1 {d:Int}(hd:0<d)(h:G 0 d=1):d=1:=by
 unfold G at h;simp at h;omega
end Sh
namespace L2
open PySem PySem.Spec PyProof.Rows
noncomputable def ltS (a b:Str):Prop:=a.cps.toList<b.cps.toList
instance (a b:Str):Decidable (ltS a b):=inferInstanceAs (Decidable (a.cps.toList<b.cps.toList))
theorem X9 (a:Str):¬ ltS a a:=List.lt_irrefl _
theorem ZgE {a b c:Str}(h:ltS a b)(h':ltS b c):ltS a c:=List.lt_trans h h'
theorem YW {a b:Str}(h:a.cps.toList=b.cps.toList):a=b:=by
 cases a;cases b;simp at h;rw[h]
theorem ZgH {a b c:Str}(h:¬ ltS b a)(h':¬ ltS c b):¬ ltS c a:=by
 have q:a.cps.toList<=b.cps.toList:=h;have q':b.cps.toList<=c.cps.toList:=h';exact List.le_trans q q'
theorem ltS_of {a b:Str}(h:¬ ltS b a)(hne:a≠b):ltS a b:=by
  by_cases z:ltS a b
  . exact z
  . have q:a.cps.toList<=b.cps.toList:=h;have q':b.cps.toList<=a.cps.toList:=z;exact absurd (YW (List.le_antisymm q q')) hne
theorem rise {p:Str}{l:List Str}(h:risingS p l=true):(p::l).Pairwise (λ a b=>¬ ltS b a):=by
  induction l generalizing p with
  |nil=>simp
  |cons x r ih=>
    have h':(!ltCps x.cps.toList p.cps.toList && risingS x r)=true:=h;rw[and_eq_true]at h';have h1:¬ ltS x p:=by
      have:=h'.1;rw[ltCps_eq]at this;simpa [ltS] using this
    have q:=ih h'.2;refine List.pairwise_cons.mpr ⟨λ y hy=>?_,q⟩;rcases List.mem_cons.mp hy with rfl|hy
    . exact h1
    . exact ZgH h1 ((List.pairwise_cons.mp q).1 y hy)
theorem Zhd {l:List Str}(h:sortedS l=true)(nd:l.Nodup):l.Pairwise ltS:=by
  have q:l.Pairwise (λ a b=>¬ ltS b a):=by
    cases l with
    |nil=>exact .nil
    |cons x r=>exact rise h
  exact(q.and nd).imp λ z=>ltS_of z.1 z.2
noncomputable abbrev En:=Str×Int×Int
noncomputable abbrev Ws:=List (En×Addr)
noncomputable def Zdf (e:En):Prop:=0<=e.2.1/\0<e.2.2/\Sh.G e.2.1 e.2.2=1
noncomputable def Yk (es:List En):List Str:=es.map (·.1)
noncomputable def LedW (H:Hp)(l:Addr)(ws:Ws):Prop:=H l=some (.lst (ws.map λ w=>V.ref w.2))/\∀ w∈ws,H w.2=some (.tup [.str w.1.1, .int w.1.2.1, .int w.1.2.2])
noncomputable def Led (H:Hp)(l:Addr)(es:List En):Prop:=∃ ws:Ws,ws.map (·.1)=es/\LedW H l ws
noncomputable def ZfG (K:Frag)(H:Hp)(d:Addr)(ws:Ws):Prop:=H d=some (.dK (ws.map λ w=>((Sum.inr w.1.1:Key),V.ref w.2)))/\∀ w∈ws,SqT K H w.2 [.int w.1.2.1, .int w.1.2.2]
noncomputable def Dic (K:Frag)(H:Hp)(d:Addr)(es:List En):Prop:=∃ ws:Ws,ws.map (·.1)=es/\ZfG K H d ws
theorem Led.same {H H':Hp}{l:Addr}{es:List En}(h:Led H l es)(e:Zp H H'):Led H' l es:=by
 obtain⟨ws,h1,h2,h3⟩:=h;exact⟨ws,h1,e _ _ h2,λ w hw=>e _ _ (h3 w hw)⟩
theorem Dic.same {K:Frag}{H H':Hp}{l:Addr}{es:List En}(h:Dic K H l es)(e:Zp H H'):Dic K H' l es:=by
 obtain⟨ws,h1,h2,h3⟩:=h;exact⟨ws,h1,e _ _ h2,λ w hw=>e.tupq (h3 w hw)⟩
theorem Led.at1 {H:Hp}{l f:Addr}{es:List En}{o u:HO}(h:Led H l es)(hf:H f=some o)(hn:l≠f)(ho:∀ xs,o ≠ .tup xs):Led (upd H f u) l es:=by
 obtain⟨ws,h1,h2,h3⟩:=h;refine⟨ws,h1,by rw[Ze hn];exact h2,λ w hw=>?_⟩;rw[Ze (ZcU (h3 w hw) hf (λ z=>ho _ z.symm))];exact h3 w hw
theorem tupU {K:Frag}{H:Hp}{p f:Addr}{xs:List V}{kvs:List (Key×V)}{u:HO}(h:SqT K H p xs)(hf:H f=some (.dK kvs)):SqT K (upd H f u) p xs:=by
  rcases h with (h|⟨o,h⟩)|h
  . exact .inl (.inl (by rw[Ze (ZcU h hf (by intro z;cases z))];exact h))
  . exact .inl (.inr ⟨o,by rw[Ze (ZcU h hf (by intro z;cases z))];exact h⟩)
  . exact .inr h
noncomputable def fnd (es:List En)(k:Str):Option En:=es.find? λ e=>decide (e.1=k)
noncomputable def look (es:List En)(k:Str):Int×Int:=match fnd es k with|some e=>e.2|none=>(0,1)
noncomputable def Zfp (es:List En)(k:Str)(n d:Int):List En:=if (es.any λ e=>decide (e.1=k))=true then es.map (λ e=>if e.1=k then (k,n,d) else e) else es++[(k,n,d)]
noncomputable def Zfo (ws:Ws)(k:Str)(w':En×Addr):Ws:=if (ws.any λ w=>decide (w.1.1=k))=true then ws.map (λ w=>if w.1.1=k then w' else w) else ws++[w']
theorem val_ws (ws:Ws)(k:Str):Z7 (ws.map λ w=>((Sum.inr w.1.1:Key),V.ref w.2)) (Sum.inr k)=(ws.find? λ w=>decide (w.1.1=k)).map λ w=>V.ref w.2:=by
  induction ws with
  |nil=>rfl
  |cons w r ih=>
    by_cases h:w.1.1=k
    . rw[map_cons,XS (by rw[h]),find?_cons,decide_eq_true h];rfl
    . rw[map_cons,XT (λ z=>h (Sum.inr.inj z)),ih,find?_cons,decide_eq_false h]
theorem fnd_ws (ws:Ws)(k:Str):fnd (ws.map (·.1)) k=(ws.find? λ w=>decide (w.1.1=k)).map (·.1):=by
 unfold fnd;rw[List.find?_map];rfl
theorem put_ws (ws:Ws)(k:Str)(n d:Int)(q:Addr):X8 (ws.map λ w=>((Sum.inr w.1.1:Key),V.ref w.2)) (Sum.inr k) (V.ref q)=(Zfo ws k ((k,n,d),q)).map λ w=>((Sum.inr w.1.1:Key),V.ref w.2):=by
  unfold X8 Zfo;have e:((ws.map λ w=>((Sum.inr w.1.1:Key),V.ref w.2)).any λ kv=>decide (kv.1=Sum.inr k))=ws.any λ w=>decide (w.1.1=k):=by
    rw[List.any_map];congr 1;funext w;simp
  rw[e];split
  . rw[map_map,map_map];refine map_congr_left λ w _=>?_
    by_cases h:w.1.1=k
    . simp[h]
    . simp[h]
  . rw[map_append];rfl
theorem Zio (ws:Ws)(k:Str)(n d:Int)(q:Addr):(Zfo ws k ((k,n,d),q)).map (·.1)=Zfp (ws.map (·.1)) k n d:=by
  unfold Zfp Zfo;rw[List.any_map];show _=if (ws.any λ w=>decide (w.1.1=k))=true then _ else _
  split
  . rw[map_map,map_map];refine map_congr_left λ w _=>?_
    by_cases h:w.1.1=k
    . simp[h]
    . simp[h]
  . rw[map_append];rfl
theorem Zhv {ws:Ws}{k:Str}{w' w:En×Addr}(h:w∈Zfo ws k w'):w=w'\/w∈ws:=by
  unfold Zfo at h;split at h
  . obtain⟨x,hx,e⟩:=List.mem_map.mp h
    by_cases z:x.1.1=k
    . rw[if_pos z]at e;exact .inl e.symm
    . rw[if_neg z]at e;exact .inr (e▸hx)
  . rcases List.mem_append.mp h with h|h
    . exact .inr h
    . exact .inl (List.mem_singleton.mp h)
theorem Dic.put {K:Frag}{H:Hp}{d q:Addr}{ws:Ws}{es:List En}{k:Str}{n m:Int}(e:ws.map (·.1)=es)(h:ZfG K H d ws)(hq:SqT K H q [.int n, .int m]) :
    Dic K (upd H d (.dK (X8 (ws.map λ w=>((Sum.inr w.1.1:Key),V.ref w.2)) (Sum.inr k) (V.ref q)))) d (Zfp es k n m):=by
  subst e;refine⟨Zfo ws k ((k,n,m),q),Zio ws k n m q,by rw[Zb,put_ws ws k n m q],λ w hw=>?_⟩;refine tupU ?_ h.1;rcases Zhv hw with rfl|hw
  . exact hq
  . exact h.2 w hw
theorem Dic.get {K:Frag}{H:Hp}{d:Addr}{ws:Ws}{es:List En}{k:Str}(e:ws.map (·.1)=es)(h:ZfG K H d ws) :
    (∃ p,Z7 (ws.map λ w=>((Sum.inr w.1.1:Key),V.ref w.2)) (Sum.inr k)=some (V.ref p)/\SqT K H p [.int (look es k).1, .int (look es k).2]/\k∈Yk es) \/
    (Z7 (ws.map λ w=>((Sum.inr w.1.1:Key),V.ref w.2)) (Sum.inr k)=none/\look es k=(0,1)/\k∉Yk es):=by
  subst e;rw[val_ws];have q:=fnd_ws ws k;unfold look;rw[q];cases z:ws.find? λ w=>decide (w.1.1=k) with
  |none=>
    refine .inr ⟨rfl,rfl,λ hk=>?_⟩;obtain⟨x,hx,ex⟩:=List.mem_map.mp hk;obtain⟨w,hw,ew⟩:=List.mem_map.mp hx;have:=List.find?_eq_none.mp z w hw;subst ew;simp[ex]at this
  |some w=>
    have hw:=List.mem_of_find?_eq_some z;have hk:w.1.1=k:=by simpa using List.find?_some z
    exact .inl ⟨w.2,rfl,h.2 w hw,List.mem_map.mpr ⟨w.1,List.mem_map.mpr ⟨w,hw,rfl⟩,hk⟩⟩
theorem ZiW {es:List En}{k:Str}:(es.any λ e=>decide (e.1=k))=true↔k∈Yk es:=by
  unfold Yk;rw[List.any_eq_true,mem_map];constructor
  . rintro⟨e,h1,h2⟩;exact⟨e,h1,of_decide_eq_true h2⟩
  . rintro⟨e,h1,h2⟩;exact⟨e,h1,decide_eq_true h2⟩
theorem ZcX {es:List En}{k:Str}(h:k∈Yk es):(k,look es k)∈es:=by
  unfold look fnd;cases z:es.find? λ e=>decide (e.1=k) with
  |none=>
    obtain⟨x,hx,ex⟩:=List.mem_map.mp h;have:=List.find?_eq_none.mp z x hx;simp[ex]at this
  |some w=>
    have hw:=List.mem_of_find?_eq_some z;have hk:w.1=k:=by simpa using List.find?_some z
    subst hk;exact hw
theorem ZfX {es:List En}(nd:(Yk es).Nodup){e:En}(h:e∈es):look es e.1=e.2:=by
  induction es with
  |nil=>cases h
  |cons x r ih=>
    have nd':x.1∉Yk r/\(Yk r).Nodup:=by simpa [Yk] using nd
    rcases List.mem_cons.mp h with rfl|h
    . simp[look,fnd]
    . have hne:x.1≠e.1:=λ z=>nd'.1 (z▸List.mem_map.mpr ⟨e,h,rfl⟩);have:=ih nd'.2 h;unfold look fnd at this ⊢;rw[find?_cons,decide_eq_false hne];exact this
noncomputable def Can (es es':List En):Prop:=es'.Pairwise (λ a b=>ltS a.1 b.1)/\(∀ e,e∈es'↔e∈es/\e.2.1≠0)/\es'.length<=es.length
theorem Zik {l l':List En}(h:l.Pairwise (λ a b=>ltS a.1 b.1))(h':l'.Pairwise (λ a b=>ltS a.1 b.1))(e:∀ x,x∈l↔x∈l'):l=l':=by
  induction l generalizing l' with
  |nil=>
    cases l' with
    |nil=>rfl
    |cons y r=>exact absurd ((e y).mpr (mem_cons_self ..)) (by simp)
  |cons x r ih=>
    cases l' with
    |nil=>exact absurd ((e x).mp (mem_cons_self ..)) (by simp)
    |cons y r'=>
      have p:=List.pairwise_cons.mp h;have p':=List.pairwise_cons.mp h';have hxy:x=y:=by
        rcases List.mem_cons.mp ((e x).mp (mem_cons_self ..)) with z|z
        . exact z
        . rcases List.mem_cons.mp ((e y).mpr (mem_cons_self ..)) with z'|z'
          . exact z'.symm
          . exact absurd (ZgE (p.1 y z') (p'.1 x z)) (X9 _)
      subst hxy;have:r=r':=ih p.2 p'.2 λ z=>by
        have q:=e z;simp only[mem_cons]at q;constructor
        . intro hz;rcases q.mp (.inr hz) with w|w
          . subst w;exact absurd (p.1 z hz) (X9 _)
          . exact w
        . intro hz;rcases q.mpr (.inr hz) with w|w
          . subst w;exact absurd (p'.1 z hz) (X9 _)
          . exact w
      rw[this]
theorem Can.uniq {es a b:List En}(h:Can es a)(h':Can es b):a=b:=Zik h.1 h'.1 λ x=>(h.2.1 x).trans (h'.2.1 x).symm
noncomputable def ZcG (es:List En)(ss:List Str):List En:=(ss.filter λ s=>decide ((look es s).1≠0)).map λ s=>(s,look es s)
theorem Zfa {es:List En}{ss:List Str}(nd:(Yk es).Nodup)(hp:ss.Perm (Yk es))(hs:sortedS ss=true):Can es (ZcG es ss):=by
  have r:=Zhd hs (hp.nodup_iff.mpr nd);refine⟨List.pairwise_map.mpr ((r.sublist List.filter_sublist).imp λ z=>z),λ e=>?_,?_⟩
  rotate_left
  . unfold ZcG;rw[length_map];refine le_trans (length_filter_le _ _) ?_;rw[hp.length_eq];unfold Yk;rw[length_map];exact le_refl _
  unfold ZcG;rw[mem_map];constructor
  . rintro⟨s,h1,rfl⟩;obtain⟨h2,h3⟩:=List.mem_filter.mp h1;exact⟨ZcX (hp.mem_iff.mp h2),of_decide_eq_true h3⟩
  . rintro⟨h1,h2⟩;have hk:e.1∈ss:=hp.mem_iff.mpr (List.mem_map.mpr ⟨e,h1,rfl⟩);have he:=ZfX nd h1;refine⟨e.1,List.mem_filter.mpr ⟨hk,decide_eq_true (by rw[he];exact h2)⟩,by rw[he]⟩
noncomputable def enD (e:En):PyData:=.tuple [.str e.1, .int e.2.1, .int e.2.2]
noncomputable def Zb3 (es:List En):PyData:=.list (es.map enD)
theorem Zil {K:Frag}{H:Hp}{ws:Ws}(h:∀ w∈ws,H w.2=some (.tup [.str w.1.1, .int w.1.2.1, .int w.1.2.2])):RdsAll K H (ws.map λ w=>V.ref w.2) ((ws.map (·.1)).map enD):=by
  induction ws with
  |nil=>exact .nil
  |cons w r ih=>exact .cons (.tuple (SqT.of (h w (mem_cons_self ..))) (.cons (.str _) (.cons (.int _) (.cons (.int _) .nil)))) (ih λ x hx=>h x (mem_cons_of_mem _ hx))
theorem Led.rds {K:Frag}{H:Hp}{l:Addr}{es:List En}(h:Led H l es):Rds K H (.ref l) (Zb3 es):=by
 obtain⟨ws,rfl,h2,h3⟩:=h;exact .list (SqL.of h2) (Zil h3)
theorem ZiG {es:List En}(h:∀ e∈es,PyData.strOk e.1=true):PyData.canLayAll0 (es.map enD)=true/\PyData.depthAll (es.map enD)<=1:=by
  induction es with
  |nil=>exact⟨rfl,by decide⟩
  |cons e r ih=>
    have h1:=h e (mem_cons_self ..);obtain⟨i1,i2⟩:=ih λ x hx=>h x (mem_cons_of_mem _ hx);refine⟨?_,?_⟩
    . simp only[map_cons,PyData.canLayAll0,enD,PyData.canLay0,h1,Bool.and_true,Bool.true_and];exact i1
    . simp only[map_cons,PyData.depthAll,enD,PyData.depth];omega
theorem Xf {es:List En}(h:∀ e∈es,PyData.strOk e.1=true):SeqAt.shaped (Zb3 es)=true:=by
  obtain⟨h1,h2⟩:=ZiG h;unfold SeqAt.shaped;rw[and_eq_true];refine⟨?_,decide_eq_true ?_⟩
  . show PyData.canLayAll0 (es.map enD)=true;exact h1
  . show PyData.depthAll (es.map enD)+1<=64;omega
theorem Zga {es:List En}(h:∀ e∈es,PyData.strOk e.1=true):PyData.eqv (Zb3 es) (Zb3 es)=true:=SeqAt.eqv_refl _ (SeqAt.canLay_of_shaped (Xf h))
noncomputable def shD (n d:Int):PyData:=.tuple [.int n, .int d]
theorem Zd1 {K:Frag}{H:Hp}{p:Addr}{n d:Int}(h:SqT K H p [.int n, .int d]):Rds K H (.ref p) (shD n d):=.tuple h (.cons (.int _) (.cons (.int _) .nil))
theorem Zds (n d:Int):SeqAt.shaped (shD n d)=true:=rfl
theorem eqv_sh (a b c d:Int):PyData.eqv (shD a b) (shD c d)=(a == c && (b == d && true)):=rfl
end L2
namespace L2
open PySem PySem.Spec PyProof.Rows
theorem ZhT {K:Frag}{a:Addr}{xs:List V}{g:TG}{tb:TS}{D:Ends}{σ:St}{H:Hp}(Pv:Nat->St->Hp->Prop)(h0:Pv 0 σ H)(hl:∀ i σ H,i<=xs.length->Pv i σ H->SqL K H a xs)(hs:∀ i x σ H T,xs[i]? = some x->Pv i σ H->H T=none->g (.ref T) σ (upd H T (.tup [.int i,x])) λ σ2 H2=>tb { D with nx:=Pv (i+1),ct:=Pv (i+1),bk:=D.nx } σ2 H2)(hd:∀ σ H,Pv xs.length σ H->D.nx σ H) :
    ∃ W:Nat->Nat->St->Hp->Prop,(∃ m,W 0 m σ H)/\∀ i m σ H,W i m σ H ->
      ((Ite K a).stop i H/\D.nx σ H)\/((Ite K a).go i H/\∃ N:St->Hp->Prop,(∀ σ' H',N σ' H'->∃ m',m'<m/\W (i+1) m' σ' H')/\∀ x H',(Ite K a).yld i H x H'->g x σ H' λ σ2 H2=>tb { D with nx:=N,ct:=N,bk:=D.nx } σ2 H2):=by
  refine⟨λ i m σ H=>m=xs.length - i/\i<=xs.length/\Pv i σ H,⟨xs.length,by simp,zero_le _,h0⟩,?_⟩;rintro i m σ H ⟨rfl,hi,p⟩;have q:=hl i σ H hi p
  by_cases hlt:i<xs.length
  . refine .inr ⟨⟨xs,xs[i],q,by simp[hlt]⟩,Pv (i+1),λ σ' H' p'=>⟨xs.length - (i+1),by omega,rfl,hlt,p'⟩,λ x H' y=>?_⟩;obtain⟨T,z,hT,rfl,hz,rfl⟩:=y;exact hs i z σ H T (hz xs q) p hT
  . have e:i=xs.length:=by omega
    subst e;exact .inl ⟨⟨xs,q,le_refl _⟩,hd σ H p⟩
theorem Zin {es:List En}{k:Str}{n d:Int}(h:k∉Yk es):Zfp es k n d=es++[(k,n,d)]:=by
 unfold Zfp;rw[if_neg λ z=>h (ZiW.mp z)]
theorem JZ {α:Type}{l:List α}{i:Nat}(hi:i<l.length):l.take i++[l[i]]=l.take (i+1):=by
 rw[take_succ,getElem?_eq_getElem hi];rfl
theorem Zcy {G H:Hp}{p D:Addr}{o u:HO}(sm:Zp G H)(hD:G D=none)(hp:H p=none):Zp G (upd (upd H p o) D u):=λ b x e=>by
 rw[Ze (Zm e hD),Ze (Zm (sm b x e) hp)];exact sm b x e
theorem Z6 {G H:Hp}{D:Addr}{u:HO}(sm:Zp G H)(hD:G D=none):Zp G (upd H D u):=λ b x e=>by
 rw[Ze (Zm e hD)];exact sm b x e
theorem Dic.step {K:Frag}{H:Hp}{D p:Addr}{es:List En}{i:Nat}(hD:Dic K H D (es.take i))(hi:i<es.length)(nd:(Yk es).Nodup)(hp:H p=none) :
    ∃ kvs:List (Key×V),kvs.length<=i/\upd H p (.tup [.int es[i].2.1, .int es[i].2.2]) D=some (.dK kvs)/\Dic K (upd (upd H p (.tup [.int es[i].2.1, .int es[i].2.2])) D (.dK (X8 kvs (Sum.inr es[i].1) (V.ref p)))) D (es.take (i+1)):=by
  obtain⟨ws,e,hw⟩:=hD;have dW:ZfG K (upd H p (.tup [.int es[i].2.1, .int es[i].2.2])) D ws:=⟨by rw[Ze (Zm hw.1 hp)];exact hw.1,λ w hx=>(Zi hp _).tupq (hw.2 w hx)⟩;have q:=Dic.put (k:=es[i].1) e dW (SqT.of (Zb (H:=H) (a:=p) (o:=.tup [.int es[i].2.1, .int es[i].2.2])));refine⟨_,?_,dW.1,?_⟩
  . rw[length_map,<- length_map (f:=(·.1)) (as:=ws),e,length_take];omega
  . have nk:es[i].1∉Yk (es.take i):=λ z=>by
      unfold Yk at z nd;rw[List.map_take]at z;have hi':i<(es.map (·.1)).length:=by simpa using hi
      have d1:((es.map (·.1)).take i++(es.map (·.1)).drop i).Nodup:=by rw[List.take_append_drop];exact nd
      rw[nodup_append]at d1;refine d1.2.2 _ z _ ?_ rfl;rw[List.drop_eq_getElem_cons hi'];simp
    rw[Zin nk,JZ hi]at q;exact q
theorem Led.push {H:Hp}{D p:Addr}{es:List En}{e:En}(h:Led H D es)(hp:H p=none) :
    ∃ ys:List V,ys.length=es.length/\upd H p (.tup [.str e.1, .int e.2.1, .int e.2.2]) D=some (.lst ys)/\Led (upd (upd H p (.tup [.str e.1, .int e.2.1, .int e.2.2])) D (.lst (ys++[V.ref p]))) D (es++[e]):=by
  obtain⟨ws,rfl,h1,h2⟩:=h;have e0:D≠p:=Zm h1 hp;refine⟨ws.map λ w=>V.ref w.2,by simp,by rw[Ze e0];exact h1,ws++[(e,p)],by simp,by rw[Zb];simp,λ w hw=>?_⟩;rcases List.mem_append.mp hw with hw|hw
  . have z:=h2 w hw;rw[Ze (ZcU z h1 (by intro y;cases y)),Ze (Zm z hp)];exact z
  . rw[List.mem_singleton.mp hw];have n:p≠D:=Ne.symm e0;rw[Ze n,Zb]
theorem J1 {es:List En}{ss:List Str}{i:Nat}(hi:i<ss.length):ZcG es (ss.take (i+1))=if (look es ss[i]).1≠0 then ZcG es (ss.take i)++[(ss[i],look es ss[i])] else ZcG es (ss.take i):=by
  rw[<- JZ hi];unfold ZcG;rw[filter_append,map_append];split
  . rename_i h;simp[h]
  . rename_i h;simp only[ne_eq,Decidable.not_not]at h;simp[h]
theorem Led.len {H:Hp}{l:Addr}{es:List En}(h:Led H l es):∃ xs,H l=some (.lst xs)/\xs.length=es.length:=by
 obtain⟨ws,rfl,h1,_⟩:=h;exact⟨_,h1,by simp⟩
theorem Led.at {H:Hp}{l:Addr}{es:List En}{xs:List V}{i:Nat}{x:V}(h:Led H l es)(hl:H l=some (.lst xs))(hx:xs[i]? = some x):∃(p:Addr)(e:En),x = .ref p/\es[i]? = some e/\H p=some (.tup [.str e.1, .int e.2.1, .int e.2.2]):=by
  obtain⟨ws,rfl,h1,h2⟩:=h;rw[h1]at hl;cases hl;rw[getElem?_map]at hx;cases z:ws[i]? with
  |none=>rw[z]at hx;cases hx
  |some w=>
    rw[z]at hx;refine⟨w.2,w.1,(Option.some.inj hx).symm,by rw[getElem?_map,z];rfl,h2 w (mem_of_getElem? z)⟩
end L2
namespace L2
open PySem PySem.Spec PyProof.Rows
section
variable {P:Program}{w:World}{K:Frag}{mg:Str->Option Value}{base:Heap}{N:List Str}{qual:Str}{scope:Scope}{f:Addr}{cd:Value}{A:Around}{outer:List Env}{s0:Shared}{H0:Hp}{E:XK}
theorem Xp:YU (CXR P w base) (YT (CXR P w base) P w K mg base N qual scope f cd A outer s0 H0 E) E:=by
  intro pins σ H s e s2 I h;obtain⟨ex,T0,C,H2,rfl,os,bare,un,hok,fly,Ha,HT,ha,hT,q2⟩:=h;have I2:Inv (YT (CXR P w base) P w K mg base N qual scope f cd A outer s0 H0 E) pins σ H2 s2:=I.call' (ch:=[]) os un hok bare λ b z=>absurd z (by simp);obtain⟨y1,y2,y3,a0,oe0,vs0,oT0,ts0,z1,z2,z3,z4,z5,z6,z7,z8,z9⟩:=fly
  let fr:=frs (envOfC qual scope s0.heap.objs.size f cd::outer)
  let B:=hideAll s2.heap (ex::T0::fr)
  have hin:∀ env∈(envOfC qual scope s0.heap.objs.size f cd::outer),∀ b,env.frame=some b->b∈ex::T0::fr:=λ env he b hb=>mem_cons_of_mem _ (mem_cons_of_mem _ (List.mem_filterMap.mpr ⟨env,he,hb⟩));have stk:s2.heap.FunFrames base (envOfC qual scope s0.heap.objs.size f cd::outer):=I2.stack;have notL:∀ b o,s0.heap.get? b=some o->b≠s0.heap.objs.size:=λ b o e=>ne_of_lt (Heap.lt_size e);have inB:∀ b o,s2.heap.get? b=some o->b∉ex::T0::fr->B.get? b=some o:=λ b o e n=>PySem.W.hideAll_get _ e n;have hid:∀ b,b∈ex::T0::fr->B.get? b=none:=λ b hb=>PySem.W.hideAll_none _ hb;have up:∀ b o,s0.heap.get? b=some o->∃ o',s.heap.get? b=some o':=λ b o z=>I.base.there b o z (λ q=>absurd (show b∈([]:List Addr) from q) (by simp));have no0:∀ b,s.heap.get? b=none->s0.heap.get? b=none:=λ b n=>by
    cases z:s0.heap.get? b with
    |none=>rfl
    |some o=>
      obtain⟨o',z'⟩:=up b o z;rw[n]at z';cases z'
  have no2:∀ b,s2.heap.get? b=none->s0.heap.get? b=none:=λ b n=>by
    cases z:s0.heap.get? b with
    |none=>rfl
    |some o=>
      obtain⟨o',z'⟩:=I2.base.there b o z (λ q=>absurd (show b∈([]:List Addr) from q) (by simp));rw[n]at z';cases z'
  have nex:∀ b,b∉(YT (CXR P w base) P w K mg base N qual scope f cd A outer s0 H0 E).ex:=λ b q=>absurd (show b∈([]:List Addr) from q) (by simp);have notIn:∀ b o,s0.heap.get? b=some o->b∉frs outer->b∉ex::T0::fr:=λ b o z n hb=>by
    rcases List.mem_cons.mp hb with r|hb
    . rw[r,no0 _ ha]at z;cases z
    . rcases List.mem_cons.mp hb with r|hb
      . rw[r,no0 _ hT]at z;cases z
      . exact I2.stkNo (notL b o z) n hb
  show wpAny (model P w) (A.deeper (envOfC qual scope s0.heap.objs.size f cd)) (leaving (envOfC qual scope s0.heap.objs.size f cd) (.ref ex)) (λ _ s''=>CXR P w base outer H0 s0 E (.ref ex) s'') (λ e' s''=>CXR P w base outer H0 s0 E e' s'') s2;refine wpAny_leaves_onW (base:=B) (L:=s0.heap.objs.size) (cls:=C) (a0:=a0) I2.ok.frames rfl ⟨λ b o z=>PySem.W.of_hideAll _ z,hid ex (mem_cons_self ..),PySem.W.funFrames_hide stk hin,oe0,vs0,T0,oT0,ts0,z1,z2,z3,z4,hid T0 (mem_cons_of_mem _ (mem_cons_self ..)),z6,z7,z8,z9⟩ λ h'' fl U=>?_;obtain⟨f1,f2,f3,oe,vs,Tr,oT,ts,g1,g2,g3,g4,g5,g6,g7,g8,g9⟩:=fl;have U2:∀ b o,s2.heap.get? b=some o->(∀ vs,o.data ≠ .fields vs)->∃ sl,h''.get? b=some { o with slots:=sl }:=λ b o z n=>U b o z n;have baseB:base.StaysIn B:=λ b o z=>inB b o (I2.bk b o z) λ hb=>by
    rcases List.mem_cons.mp hb with r|hb
    . rw[r,y2]at z;cases z
    . rcases List.mem_cons.mp hb with r|hb
      . rw[r,z5]at z;cases z
      . rw[(stk.mem hb).1]at z;cases z
  have trN:H2 Tr=none/\s0.heap.get? Tr=none:=by
    cases z:s2.heap.get? Tr with
    |none=>exact⟨I2.untr z,no2 _ z⟩
    |some o=>
      by_cases hb:Tr∈ex::T0::fr
      . rcases List.mem_cons.mp hb with r|hb
        . exact absurd r g6
        . rcases List.mem_cons.mp hb with r|hb
          . rw[r];exact⟨HT,no0 _ hT⟩
          . obtain⟨_,o',ho',d'⟩:=stk.mem hb;obtain⟨sl,z2'⟩:=U2 Tr o' ho' d';rw[g7]at z2';have z3':=congrArg (λ q:Option Obj=>q.map (·.data)) z2';simp only[map_some,g8]at z3';exact absurd (Option.some.inj z3').symm (d' ts)
      . rw[inB Tr o z hb]at g5;cases g5
  refine⟨ex,Tr,C,H2,rfl,I2.os,I2.bare,⟨λ b o z n hb _=>?_,λ b o z n hb _=>?_,λ b o z n _=>I2.base.free b o z n (nex b),λ b o z _=>?_,I2.base.tups,I2.base.frzs,I2.base.tbls⟩,λ b u z=>?_,⟨λ b o z=>f1 b o (baseB b o z),y2,PySem.W.funFrames_base baseB f3,a0,oe,vs,oT,ts,g1,g2,g3,g4,?_,g6,g7,g8,g9⟩,Ha,trN.1,no0 _ ha,trN.2,q2⟩
  . exact f1 b o (inB b o (I2.base.keep b o z n hb (nex b)) (notIn b o z hb))
  . obtain⟨sl,w1⟩:=I2.base.slot b o z n hb (nex b);obtain⟨_,o',ho',d'⟩:=I2.ok.funs.mem hb;have:o'=o:=by rw[show(YT (CXR P w base) P w K mg base N qual scope f cd A outer s0 H0 E).s₀.heap.get? b=some o from z]at ho';exact(Option.some.inj ho').symm
    subst this;obtain⟨sl',w2⟩:=U2 b _ w1 (λ vs=>d' vs);exact⟨sl',w2⟩
  . by_cases hb:b∈fr
    . obtain⟨_,o',ho',d'⟩:=stk.mem hb;obtain⟨sl,w2⟩:=U2 b o' ho' d';exact⟨_,w2⟩
    . obtain⟨o',z'⟩:=I2.base.there b o z (nex b);refine⟨o',f1 b o' (inB b o' z' λ hb'=>?_)⟩;rcases List.mem_cons.mp hb' with r|hb'
      . rw[r,no0 _ ha]at z;cases z
      . rcases List.mem_cons.mp hb' with r|hb'
        . rw[r,no0 _ hT]at z;cases z
        . exact hb hb'
  . refine(I2.hok b u z).stay (λ c v hc q=>?_) (λ _ q=>q) λ _ _ q=>q;have tr:∀ c v,H2 c=some v->c∉ex::T0::fr:=λ c v q n=>by
      rcases List.mem_cons.mp n with r|n
      . rw[r,Ha]at q;cases q
      . rcases List.mem_cons.mp n with r|n
        . rw[r,HT]at q;cases q
        . rw[I2.stkFree c n]at q;cases q
    rcases hc with hc|hc
    . rw[hc]at q ⊢;exact f1 b v (inB b v q (tr b u z))
    . exact f1 c v (inB c v q (tr c _ hc))
  . cases z:base.get? Tr with
    |none=>rfl
    |some o=>
      rw[baseB Tr o z]at g5;cases g5
end
noncomputable def tFnX (sp:Sp)(E:XK)(t:TA):TE:=λ σ H Q=>t σ H λ vs H1=>sp vs H1 Q E
theorem XN {X:Cx}{k:Nat}{x:Str}{ps:List Str}{sp:Sp}{E:XK}{p pos:Pos}{e:Expr}{es:List Expr}{t:TA}(hx:YU (CXR X.prog X.w X.base) X E)(D:Dx X.prog X.w X.K X.mg X.base k x ps sp)(hr:Room k X.A)(ha:PA X (e::es) t)(hg:Gl X x:=by rfl)(hdb:(x == ("__debug__":Str))=false:=by decide)(he:starEach (e::es) X.env=(false,eval e X.env)::starEach es X.env:=by rfl)(hpl:(backTo pos (starEach es X.env)).any (·.1)=false:=by rfl) :
    PE X (.Call (.Name x p) (e::es) [] pos) (tFnX sp E t):=by
  obtain⟨f,fd,F,hm,hk,hb⟩:=D.ex;have q:=ZfR (p:=p) (pos:=pos) F hr hg hm hk hb .nil hx ha hdb he hpl;have e:Zg3 sp [] E t=tFnX sp E t:=by
    funext σ H Q;show t σ H (λ vs H1=>sp (vs++[]) H1 Q E)=t σ H λ vs H1=>sp vs H1 Q E;simp only[append_nil]
  rw[<- e];exact q
end L2
namespace L2
open PySem PySem.Spec PyProof.Rows
theorem relK {k:Key}{u:Value}(h:ZbJ k u=true):Zx (kV k) u:=by
  rcases ZP h with ⟨i,t,e,rfl⟩|⟨x,t,e,rfl⟩
  . subst e;exact⟨t,rfl⟩
  . subst e;exact⟨t,rfl⟩
theorem ZhS {X:Cx}{pins:List (Addr×Obj)}{σ:St}{H:Hp}{s:Shared}{d:Addr}{o:Obj}{kvs:List (Key×V)}{es:Array DictEntry}{ep:Nat}(I:Inv X pins σ H s)(h:H d=some (.frz o (.dK kvs)))(ho:o.data = .dict es ep) :
    ∃ vs,KV kvs vs/\s.heap.DictAt (ZT X.prog X.w) d vs ep:=by
  obtain⟨g,_,_,vs,rel,dd⟩:=(show ZV X.prog X.w H s.heap d (.frz o (.dK kvs)) from I.hok d _ h);obtain⟨ep',hat⟩:=dd.dictAt;obtain⟨o',es',h1,h2,h3,h4⟩:=id hat;rw[g]at h1;cases h1;rw[ho]at h3;cases h3;exact⟨vs,rel,hat⟩
noncomputable def Itd (d:Addr)(o:Obj)(kvs:List (Key×V)):It:=
 ⟨λ i H=>H d=some (.frz o (.dK kvs))/\i<kvs.length,λ i H x H'=>H'=H/\∃ k v,kvs[i]? = some (k,v)/\x=kV k,λ i H=>H d=some (.frz o (.dK kvs))/\kvs.length<=i⟩
theorem Zgr {P:Program}{w:World}{K:Frag}{tg:Expr}(d it:Addr)(o:Obj)(kvs:List (Key×V))(es:Array DictEntry)(ep:Nat)(ho:o.data = .dict es ep):Turn P w K tg (Itd d o kvs) [it] it (λ i h=>h.IsKeyIter it d i kvs.length ep) where
  mem:=by simp
  obj:=λ i h st b hb=>by
    have e:b=it:=by simpa using hb
    subst e;obtain⟨o,e,c,d⟩:=st;exact⟨o,e,λ v z=>by rw[d]at z;cases z⟩
  keep:=λ i h h' st k=>st.at λ o e=>k it (by simp) o e
  item:=by
    intro X hP hw hK hc i pins s σ H E I hf st hg;subst hP hw hK;obtain⟨hfr,hi⟩:=hg;obtain⟨vs,rel,hat⟩:=ZhS I hfr ho;have hl:kvs.length=vs.length:=rel.length;obtain⟨⟨k,x⟩,hx⟩:∃ p,vs[i]? = some p:=⟨vs[i]'(by omega),getElem?_eq_getElem (by omega)⟩;obtain⟨y,hy⟩:=Zf1 rel hx;obtain⟨f0,f1,f2,f3,f4,f5⟩:=hf it (by simp);rw[hl]at st;refine wpAny_pyNext_dict_item st hat hx λ key h' hkey st' sb=>?_;have I1:Inv X pins σ H { s with heap:=h' }:=I.turned (t':=s.toks) (λ b o hb e=>(sb.2 b hb).trans e) f0 f1 f3 f4 f5;rw[<- hl]at st';obtain⟨o2,e,c,d2⟩:=id st';exact⟨key,rfl,Zf6 (s:={ s with heap:=h' }) e c d2 (by decide) ⟨kV k,H,I1,relK hkey,⟨rfl,k,y,hy,rfl⟩,st',λ b hb=>(hf b hb).1⟩⟩
  done:=by
    intro X hP hw hK hc i pins s σ H E I hf st hg;subst hP hw hK;obtain⟨hfr,hi⟩:=hg;obtain⟨vs,rel,hat⟩:=ZhS I hfr ho;have hl:kvs.length=vs.length:=rel.length;obtain⟨f0,f1,f2,f3,f4,f5⟩:=hf it (by simp);rw[hl]at st;exact wpAny_pyNext_dict_end (I.ok.hd hc) st hat (by simp;omega) λ h' eb=>⟨rfl,I.turned (t':=s.toks) (λ b o hb e=>eb b o hb e) f0 f1 f3 f4 f5⟩
  self:=λ _ _ _ _ _ st h=>wpAny_pyIter_keyiter st h
noncomputable def iDict (tl:TE):TI:=λ σ H R=>tl σ H λ x H1=>∃ d kvs,x = .ref d/\H1 d=some (.dK kvs)/\∀ o,R (Itd d o kvs) (upd H1 d (.frz o (.dK kvs)))
theorem Zd2 {X:Cx}{tg l:Expr}{tl:TE}(hl:PE X l tl):PI X tg l (iDict tl):=by
 refine⟨?_⟩;intro pins s σ H R I h;refine thn (hl pins s σ H _ I h) λ v s1 zz9=>?_;obtain⟨x,H1,I1,r1,q1⟩:=zz9;obtain⟨d,kvs,e,hd,q⟩:=q1;subst e;cases r1;obtain⟨z,lo,vs,rel,dd⟩:=ZhY I1.hok hd;obtain⟨ep,hat⟩:=dd.dictAt;obtain⟨o,es,h1,h2,h3,h4⟩:=id hat;have hl:kvs.length=vs.length:=rel.length;have I2:Inv X pins σ (upd H1 d (.frz o (.dK kvs))) s1:=I1.write (t':=s1.toks) (h':=s1.heap) (x:=d) (e:=d) (by rw[hd];exact True.intro) (.inl rfl) (λ b u _ q=>q) ⟨o,h1⟩ ⟨h1,z,lo,vs,rel,dd⟩;refine wpAny_pyIter_dict lo hat ?_;refine⟨s1.heap.objs.size,[s1.heap.objs.size],_,_,_,rfl,I2.kept (t':=s1.toks) λ b o e=>Heap.get?_push_of_some _ e,Zgr d _ o kvs es ep h3,⟨_,Heap.get?_push_size _ rfl,rfl,by rw[hl];rfl⟩,λ b hb=>?_,q o⟩;have e:b=s1.heap.objs.size:=by simpa using hb
 subst e;exact I2.fpOk (le_refl _) (I2.hok.fresh (le_refl _))
end L2
namespace L2
open PySem PySem.Spec PyProof.Rows
noncomputable def rSortR:List V->Hp->VK->Prop:=λ xs H Q=>∃(d:Addr)(kvs:List (Key×V))(ss:List Str),xs=[.ref d]/\Rd H d (.dK kvs)/\kvs.map (·.1)=ss.map Sum.inr/\kvs.length<64 /\
 ∀(ss':List Str)(l:Addr),ss'.Perm ss->sortedS ss'=true->H l=none->Q (.ref l) (upd H l (.lst (ss'.map V.str)))
theorem Zbi {X:Cx}(hc:X.calm=true):X1 X (.builtin "sorted") rSortR:=by
  intro pins s σ H xs us Q I r h;obtain⟨d,kvs,ss,rfl,hd,hk,h64,q⟩:=h;obtain⟨u,rfl,rx⟩:=Zah r;cases rx;obtain⟨z,lo,vs,rel,dd⟩:=Zbf I.hok hd;obtain⟨ep,hat⟩:=dd.dictAt;have hln:kvs.length=vs.length:=rel.length;refine Calls.call_function_entry kind_sorted plain_sorted entry_sorted (args_sorted1 _) ?_;unfold Builtin.«sorted»;refine wpAny_bind (m:=checkCount "sorted" 1 1 _) (wpAny_pure ?_);refine wpAny_bind (PySem.W.kdu_collect (A:=X.A.in1) (PySem.W.kdl_dict (knd:=ZT X.prog X.w) (kvs:=vs) (ep:=ep) lo) (I.ok.hd hc) hat (by omega) λ h' tk acc hkp hacc=>?_);have I1:=I.kept (h':=h') (t':=tk) hkp;have hl:acc.toList.length=vs.length:=by rw[length_toList];exact hacc.1
  refine wpAny_bind (wpAny_newList ?_ (by rw[hl];omega));have hS:StrsAre acc.toList ss:=Zfi (by rw[hl,<- hln,<- length_map (f:=(·.1)) (as:=kvs),hk,length_map]) λ j u e=>by
    obtain⟨k,x,e1,e2⟩:=hacc.2 j u (by rw[<- getElem?_toList];exact e);obtain⟨y,e3⟩:=Zf1 rel e1;have e4:(kvs.map (·.1))[j]? = some k:=by rw[getElem?_map,e3];rfl
    rw[hk,getElem?_map]at e4;cases e5:ss[j]? with
    |none=>rw[e5]at e4;cases e4
    |some x'=>
      rw[e5]at e4;have e6:Sum.inr x'=k:=Option.some.inj e4;subst e6;rcases ZP (show ZbJ (Sum.inr x') u=true from e2) with ⟨i,t,e7,rfl⟩|⟨y',t,e7,rfl⟩
      . cases e7
      . cases e7;exact⟨_,t,rfl,rfl⟩
  have hoL:(h'.push { cls:=.type "list",data:=.seq acc.toList.toArray }).get? h'.objs.size=some (seqObj "list" acc.toList.toArray 0):=Heap.get?_push_size _ rfl;refine wpAny_bind (wpAny_holding (wpAny_call_entry slot_list_sort ⟨_,hoL,rfl⟩ entry_list_sort (list_sort_treeK strKind_oneLt hoL hS.keysOf (λ v₁ v₂ Zbn e=>keyKind_strs (by rw[<- e];exact hS)) (by rw[hl,<- hln];exact h64) λ st' a1 a2=>⟨_,rfl,?_⟩) (args_list_sort _)));obtain⟨ss',b1,b2,b3⟩:=sorted_out_str hS a1 a2;refine wpAny_pure ⟨_,rfl,?_⟩;have fr:H h'.objs.size=none:=I1.fresh;refine⟨.ref h'.objs.size,upd H h'.objs.size (.lst (ss'.map V.str)),?_,rfl,q ss' _ b2 b3 fr⟩;obtain⟨en,hen⟩:=sortedHeap_at (a:=h'.objs.size) (vs:=acc.toList) (out:=(arrOf st').map (·.2)) hoL;refine I1.laid (t':=tk) (λ b u e=>?_) (le_refl _) ⟨?_,_,en,Zgo b1,?_⟩
  . have hlt:b<h'.objs.size:=Heap.lt_size e;exact(sortedHeap_old (ne_of_lt hlt) (by rw[Heap.size_push];exact Nat.lt_succ_of_lt hlt)).trans (Heap.get?_push_of_some _ e)
  . rw[length_map,b2.length_eq,<- length_map (f:=(Sum.inr:Str->Key)) (as:=ss),<- hk,length_map];exact z
  . rw[Array.toArray_toList];exact hen
end L2
namespace L2
open PySem PySem.Spec PyProof.Rows
noncomputable def vl (n d:Int):Rat:=(n:Rat) / (d:Rat)
end L2
namespace L2
open PySem PySem.Spec PyProof.Rows
theorem ZfH:∀(l:List (Str×Tok)),ZG ((l.map (·.1)).map V.str) (strValues l)
  |[] => .nil
  |(x,t)::r => .cons ⟨t,rfl⟩ (ZfH r)
section
variable {X:Cx}
theorem Zgy:OpR X (compareOp .Gt) (λ x y H Q=>∃ i j,x = .str i/\y = .str j/\Q (.bl (decide (j.cps.toList<i.cps.toList))) H):=by
 intro pins s σ H x y v u Q I rx ry h;obtain⟨i,j,rfl,rfl,q⟩:=h;obtain⟨t,rfl⟩:=rx;obtain⟨t',rfl⟩:=ry;exact PySem.P.gt_str (ZE I q rfl)
theorem Zdl:X1 X (.type "int") (λ xs H Q=>∃ z n,xs=[.str z]/\PySem.intText? z=some n/\z.length<=640/\Q (.int n) H):=by
 intro pins s σ H xs us Q I r h;obtain⟨z,n,rfl,hn,hl,q⟩:=h;obtain⟨u,rfl,t,rfl⟩:=Zah r;exact PySem.W.KIN.call_text hn hl ⟨.int n,H,I.tok _,⟨_,rfl⟩,q⟩
noncomputable def rSplit:V->List V->Hp->VK->Prop:=λ x xs H Q=>∃ z y,x = .str z/\xs=[.str y]/\(y.length == 0)=false/\z.length<=sizeLine/\(Builtin.Str.partsBetween z (Builtin.Str.occurrences z y 0 z.length (z.length+1)) y.length).length<=sizeLine /\
 ∀ l,H l=none->Q (.ref l) (upd H l (.lst ((Txt.split z y).map V.str)))
theorem ZcV:MtR X "str.split" rSplit:=by
  intro pins s σ H x xs v us Q I rx rv h;obtain⟨z,y,rfl,rfl,hy,hz,hz2,q⟩:=h;obtain⟨t,rfl⟩:=rx;obtain⟨u,rfl,t',rfl⟩:=Zah rv;have fin:∀(l:List (Str×Tok))(tk:Nat),l.map (·.1)=Txt.split z y->l.length<=sizeLine->EP X pins σ Q (.ref s.heap.objs.size) { s with heap:=s.heap.push { cls:=.type "list",data:=.seq (strValues l).toArray },toks:=tk }:=λ l tk e hl=>
    ⟨.ref s.heap.objs.size,_,I.laid (t':=tk) (o:=.lst ((Txt.split z y).map V.str)) (λ _ _ w=>Heap.get?_push_of_some _ w) (le_refl _) ⟨by rw[length_map,<- e,length_map];exact hl,strValues l,0,by rw[<- e];exact ZfH l,Heap.get?_push_size _ rfl⟩,rfl,q _ I.fresh⟩
  cases h1:(decide (z.length<y.length) || decide (Builtin.Str.strKind z<Builtin.Str.strKind y))
  . cases hf:(Builtin.Str.occurrences z y 0 z.length (z.length+1)).isEmpty
    . refine call_meets F.slot_str_split (typeIs_str _ _ _) F.entry_str_split (F.args_str_split_2 _ _) (meets_str_split_sep z y t t' h1 hy hf hz hz2) ?_;have w:=fin (numbered s.toks (Builtin.Str.partsBetween z (Builtin.Str.occurrences z y 0 z.length (z.length+1)) y.length)) (s.toks+(Builtin.Str.partsBetween z (Builtin.Str.occurrences z y 0 z.length (z.length+1)) y.length).length) ((numbered_texts _ _).trans (by unfold Txt.split;rw[h1,hf];rfl)) (by rw[<- length_map (f:=(·.1)),numbered_texts];exact hz2);rw[<- strsFrom_eq]at w;exact w
    . exact call_meets F.slot_str_split (typeIs_str _ _ _) F.entry_str_split (F.args_str_split_2 _ _) (meets_str_split_not_found z y t t' h1 hy hf) (fin [(z,t)] s.toks (by unfold Txt.split;rw[h1,hf];rfl) (by show 1<=sizeLine;decide))
  . exact call_meets F.slot_str_split (typeIs_str _ _ _) F.entry_str_split (F.args_str_split_2 _ _) (meets_str_split_cannot_occur z y t t' h1) (fin [(z,t)] s.toks (by unfold Txt.split;rw[h1];rfl) (by show 1<=sizeLine;decide))
noncomputable def rRpart:V->List V->Hp->VK->Prop:=λ x xs H Q=>∃ z y,x = .str z/\xs=[.str y]/\(y.length == 0)=false/\z.length<=sizeLine /\
 ∀ l,H l=none->Q (.ref l) (upd H l (.tup (match Builtin.Str.lastOccurrence z y 0 z.length with|some i=>[V.str (Builtin.Str.strSub z 0 i),V.str y,V.str (Builtin.Str.strSub z (i+y.length) z.length)]|none=>[V.str Str.empty,V.str Str.empty,V.str z])))
theorem Zhu:MtR X "str.rpartition" rRpart:=by
  intro pins s σ H x xs v us Q I rx rv h;obtain⟨z,y,rfl,rfl,hy,hz,q⟩:=h;obtain⟨t,rfl⟩:=rx;obtain⟨u,rfl,t',rfl⟩:=Zah rv;refine call_meets F.slot_str_rpartition (typeIs_str _ _ _) F.entry_str_rpartition (F.args_str_rpartition_2 _ _) (meets_str_rpartition z y t t' hy hz) ?_;revert q;cases Builtin.Str.lastOccurrence z y 0 z.length with
  |some i=>
    intro q;exact⟨.ref s.heap.objs.size,_,I.laid (t':=s.toks+1+1) (o:=.tup [V.str (Builtin.Str.strSub z 0 i),V.str y,V.str (Builtin.Str.strSub z (i+y.length) z.length)]) (λ _ _ w=>Heap.get?_push_of_some _ w) (le_refl _) ⟨by show 3<=sizeLine;decide,_, .cons ⟨_,rfl⟩ (.cons ⟨_,rfl⟩ (.cons ⟨_,rfl⟩ .nil)),IsTup.new _ _⟩,rfl,q _ I.fresh⟩
  |none=>
    intro q;exact⟨.ref s.heap.objs.size,_,I.laid (t':=s.toks+1) (o:=.tup [V.str Str.empty,V.str Str.empty,V.str z]) (λ _ _ w=>Heap.get?_push_of_some _ w) (le_refl _) ⟨by show 3<=sizeLine;decide,_, .cons ⟨_,rfl⟩ (.cons ⟨_,rfl⟩ (.cons ⟨_,rfl⟩ .nil)),IsTup.new _ _⟩,rfl,q _ I.fresh⟩
noncomputable def Its (x:Str):It:=⟨λ i _=>i<x.cps.size,λ i H v H'=>H'=H/\∃ c,x.cps[i]? = some c/\v = .str ⟨#[c]⟩,λ i _=>x.cps.size<=i⟩
theorem ZgV {prog:Program}{w:World}{A:Around}(hh:A.handled=none)(it:Addr)(x:Str)(t:Tok):Walks prog w A it [it] [it] x.cps.size (SignAt x) (λ i h=>h.IsStrIter it (strIterType x) x t i):=by
  cases ha:x.cps.all (· < 128) with
  |true=>
    have e:strIterType x="str_ascii_iterator":=by unfold strIterType;rw[ha];rfl
    rw[e];exact Walks.strAscii hh it x t
  |false=>
    have e:strIterType x="str_iterator":=by unfold strIterType;rw[ha];rfl
    rw[e];exact Walks.strWide hh it x t
theorem ZgY {P:Program}{w:World}{K:Frag}{tg:Expr}(it:Addr)(x:Str)(t:Tok):Turn P w K tg (Its x) [it] it (λ i h=>h.IsStrIter it (strIterType x) x t i) where
  mem:=by simp
  obj:=λ i h st b hb=>by
    have e:b=it:=by simpa using hb
    subst e;obtain⟨o,e,c,d⟩:=st;exact⟨o,e,λ v z=>by rw[d]at z;cases z⟩
  keep:=λ i h h' st k=>by
    obtain⟨o,e,r⟩:=st;exact⟨o,k it (by simp) o e,r⟩
  item:=by
    intro X hP hw hK hc i pins s σ H E I hf st hg;subst hP hw hK;obtain⟨f0,f1,f2,f3,f4,f5⟩:=hf it (by simp);refine(ZgV (prog:=X.prog) (w:=X.w) (I.ok.hd hc) it x t).item i s _ _ hg st λ v h' tk hv st' kk=>?_;obtain⟨c,u,hc',rfl⟩:=hv;have I1:Inv X pins σ H { s with heap:=h',toks:=tk }:=I.turned (λ b o hb e=>kk b o (by simpa using hb) e) f0 f1 f3 f4 f5;obtain⟨o2,e,cl,d2⟩:=id st';refine⟨_,rfl,Zf6 (s:={ s with heap:=h',toks:=tk }) e cl d2 ?_ ⟨.str ⟨#[c]⟩,H,I1,⟨u,rfl⟩,⟨rfl,c,hc',rfl⟩,st',λ b hb=>(hf b hb).1⟩⟩;unfold strIterType;cases x.cps.all (· < 128) <;> decide
  done:=by
    intro X hP hw hK hc i pins s σ H E I hf st hg;subst hP hw hK;obtain⟨f0,f1,f2,f3,f4,f5⟩:=hf it (by simp);have hn:x.cps[i]? = none:=Array.getElem?_eq_none hg;have fin:∀ h',Heap.ExtBut it s.heap h'->(none:Option Value)=none/\Inv X pins σ H { s with heap:=h' }:=λ h' eb=>⟨rfl,I.turned (t':=s.toks) (λ b o hb e=>eb b o hb e) f0 f1 f3 f4 f5⟩;cases ha:x.cps.all (· < 128) with
    |true=>
      rw[show strIterType x="str_ascii_iterator" by unfold strIterType;rw[ha];rfl]at st;exact wpAny_pyNext_ascii_end (I.ok.hd hc) st hn fin
    |false=>
      rw[show strIterType x="str_iterator" by unfold strIterType;rw[ha];rfl]at st;exact wpAny_pyNext_wide_end (I.ok.hd hc) st hn fin
  self:=λ _ i s _ _ st h=>by
    cases ha:x.cps.all (· < 128) with
    |true=>
      rw[show strIterType x="str_ascii_iterator" by unfold strIterType;rw[ha];rfl]at st;exact wpAny_pyIter_striter_ascii st h
    |false=>
      rw[show strIterType x="str_iterator" by unfold strIterType;rw[ha];rfl]at st;exact wpAny_pyIter_striter_wide st h
noncomputable def iStr (tl:TE):TI:=λ σ H R=>tl σ H λ x H1=>∃ z,x = .str z/\R (Its z) H1
theorem pi_str {tg l:Expr}{tl:TE}(hl:PE X l tl):PI X tg l (iStr tl):=by
 refine⟨?_⟩;intro pins s σ H R I h;refine thn (hl pins s σ H _ I h) λ v s1 zz9=>?_;obtain⟨x,H1,I1,r1,q1⟩:=zz9;obtain⟨z,e,q⟩:=q1;subst e;obtain⟨t,rfl⟩:=r1;refine wpAny_pyIter_strU ?_;refine⟨s1.heap.objs.size,[s1.heap.objs.size],_,_,H1,rfl,I1.kept (t':=s1.toks) λ b o e=>Heap.get?_push_of_some _ e,ZgY _ z t,⟨_,Heap.get?_push_size _ rfl,rfl,rfl⟩,λ b hb=>?_,q⟩;have e:b=s1.heap.objs.size:=by simpa using hb
 subst e;exact I1.fpOk (le_refl _) (I1.hok.fresh (le_refl _))
noncomputable def gStar (K:Frag)(t:TGs):TG:=λ v σ H Q=>∃ l x xs,v = .ref l/\SqL K H l (x::xs)/\xs.length<=10000/\∀ D,H D=none->t [x, .ref D] σ (upd H D (.lst xs)) Q
theorem Zit {a b:Expr}{k:Nat}{sp pos:Pos}{t:TGs}(hc:X.calm=true)(h:PGs X [a,b] t)(hn:(assignEach [a, .Starred b sp] X.env).length=2:=by rfl)(hst:(assignEach [a, .Starred b sp] X.env).findIdx? (·.1)=some 1:=by rfl)(hm:(assignEach [a, .Starred b sp] X.env).map (·.2)=(assignEach [a,b] X.env).map (·.2):=by rfl):PG X (.Tuple [a, .Starred b sp] k pos) (gStar X.K t):=by
  refine⟨?_⟩;intro pins s σ H v u Q I r hw;obtain⟨l,x,xs,e1,hq,hl,hw⟩:=hw;subst e1;cases r;obtain⟨its,rv,pl,hz⟩:=I.list hq;have hL:=pl.isList;obtain⟨vx,its',rfl,rx,rr⟩:∃ vx its',its=vx::its'/\Zx x vx/\ZG xs its':=by
    cases rv with
    |cons p q=>exact⟨_,_,rfl,p,q⟩
  have hll:l<s.heap.objs.size:=by obtain⟨_,z,_⟩:=hL;exact Heap.lt_size z
  have hne:l≠s.heap.objs.size:=ne_of_lt hll;have hsz:(vx::its').toArray.size=its'.length+1:=by simp
  have hil:its'.length=xs.length:=rr.length.symm;rw[assign_Tuple];refine wpAny_bind (wpAny_standAt ?_);unfold unpack;rw[hn,hst,hm];refine wpAny_bind (wpAny_holding ?_);unfold unpackItems notIterableAtAll;refine wpAny_bind (wpAny_bind (wpAny_specialOf hL.typeIs slot_list_iter.lookup (wpAny_pure ?_)));simp only[Bool.false_eq_true,if_false];refine wpAny_bind (wpAny_holding (wpAny_pyIter_list hL ?_));refine wpAny_bind (wpAny_holding (PySem.W.kun_draw hne 1 0 _ _ ⟨_,Heap.get?_push_size _ rfl,rfl,rfl⟩ (hL.push _) (by rw[hsz];omega) λ g1 hit1 sb1=>?_));have hL1:g1.IsList l (vx::its').toArray:=(hL.push _).extBut sb1.extBut hne;obtain⟨oi,hoi,_⟩:=id hit1;obtain⟨ol,hol,_⟩:=id hL1;have tk1:(((vx::its').toArray.toList.drop 0).take 1)=[vx]:=rfl;rw[tk1];rw[if_neg (show ¬ ([vx].length<1) by simp)];refine wpAny_bind (wpAny_holding (PySem.W.kun_collect (s:={ s with heap:=g1 }) (T:="list_iterator") (.inr (.inr (.inl rfl))) (Walks.list (A:=X.A.in1) (I.ok.hd hc) s.heap.objs.size l hne (vx::its').toArray) (λ j w st=>st.1.typeIs) (k:=1) (by rw[hsz];omega) ⟨hit1,hL1⟩ (Heap.lt_size hoi) (Heap.lt_size hol) (λ g2 tk kp=>?_) (by rw[hsz,sizeLine_eq];omega)));have dr:(vx::its').toArray.toList.drop 1=its':=rfl;rw[dr];show wpAny _ _ (if its'.length<2 - 1 - 1 then _ else _) _ _ _;rw[if_neg (by omega)];show wpAny _ _ (newList (its'.take (its'.length - (2 - 1 - 1))) >>= λ d=>pure ([vx]++[d]++its'.drop (its'.length - (2 - 1 - 1)))) _ _ _;rw[show its'.length - (2 - 1 - 1)=its'.length by omega,take_length,List.drop_length];have keep:∀ b o,s.heap.get? b=some o->g2.get? b=some o:=λ b o e=>kp b o (ne_of_lt (Heap.lt_size e)) (sb1.extBut b o (ne_of_lt (Heap.lt_size e)) (Heap.get?_push_of_some _ e));have I1:Inv X pins σ H { s with heap:=g2,toks:=tk }:=I.kept keep;refine wpAny_bind (wpAny_newList ?_ (by rw[sizeLine_eq];omega));refine wpAny_pure ?_;have I2:=Inv.laid (s:={ s with heap:=g2,toks:=tk }) (h':=g2.push { cls:=.type "list",data:=.seq its'.toArray }) (t':=tk) (o:=.lst xs) I1 (λ _ _ w=>Heap.get?_push_of_some _ w) (le_refl _) ⟨by rw[sizeLine_eq];omega,its',0,rr,Heap.get?_push_size _ rfl⟩;exact h pins _ σ _ [x, .ref g2.objs.size] [vx, .ref g2.objs.size] Q I2 (.cons rx (.cons rfl .nil)) (hw _ I1.fresh)
end
end L2
namespace L2
open PySem PySem.Spec PyProof.Rows PySem.StrLaws
noncomputable def dot:Str:="."
noncomputable def inR (a b c:Nat):Bool:=decide (a<=c) && decide (c<=b)
noncomputable def gw (x:Str):Bool:=decide (1<=x.length) && decide (x.length<=8) && x.cps.toList.all (inR 97 122) && !(decide (x="crown") || decide (x="kids"))
noncomputable def gn (x:Str):Bool:=decide (1<=x.length) && decide (x.length<=2) && x.cps.toList.all (inR 48 57) && !decide (x.cps.toList.head? = some 48)
noncomputable def iv (x:Str):Int:=(PySem.intText? x).getD 0
theorem ZhM:(∀ c∈List.range 9,PySem.intText? ⟨#[49+c]⟩=some (iv ⟨#[49+c]⟩)/\1<=iv ⟨#[49+c]⟩)/\∀ c∈List.range 9,∀ d∈List.range 10,PySem.intText? ⟨#[49+c,48+d]⟩=some (iv ⟨#[49+c,48+d]⟩)/\1<=iv ⟨#[49+c,48+d]⟩:=by decide +kernel
theorem iv_gn {x:Str}(h:gn x=true):PySem.intText? x=some (iv x)/\1<=iv x:=by
  unfold gn at h;simp only[and_eq_true,decide_eq_true_eq,Bool.not_eq_true',decide_eq_false_iff_not]at h;obtain⟨⟨⟨h1,h2⟩,h3⟩,h4⟩:=h;obtain⟨⟨l⟩⟩:=x;have h1':1<=l.length:=h1;have h2':l.length<=2:=h2
  match l,h1',h2',h3,h4 with
  |[c],_,_,h3,h4=>
    simp[inR]at h3 h4;have e:c=49+(c - 49):=by omega
    rw[e];exact ZhM.1 (c - 49) (List.mem_range.mpr (by omega))
  |[c,d],_,_,h3,h4=>
    simp[inR]at h3 h4;have e:c=49+(c - 49):=by omega
    have e':d=48+(d - 48):=by omega
    rw[e,e'];exact ZhM.2 (c - 49) (List.mem_range.mpr (by omega)) (d - 48) (List.mem_range.mpr (by omega))
noncomputable def pcs (x:Str):List Str:=Txt.split x dot
noncomputable def wd (x:Str):Str:=(pcs x).headD ""
noncomputable def nms (x:Str):List Str:=(pcs x).tail
theorem YQ (x:Str):pcs x=wd x::nms x:=by
  have h:1<=(pcs x).length:=split_pos x dot;unfold wd nms;cases e:pcs x with
  |nil=>rw[e]at h;simp at h
  |cons a r=>rfl
theorem ZiC (x:Str):(nms x).length<=x.length+1:=by
 have h:(pcs x).length<=x.length+2:=split_le x dot;rw[YQ,length_cons]at h;omega
theorem Zhl {x p:Str}(h:p∈pcs x):p.length<=x.length:=by
  unfold pcs Txt.split at h;split at h
  . rw[List.mem_singleton.mp h];exact le_refl _
  . split at h
    . rw[List.mem_singleton.mp h];exact le_refl _
    . unfold Builtin.Str.partsBetween at h;obtain⟨q,_,rfl⟩:=List.mem_map.mp h;exact le_strSub x q.1 q.2
noncomputable def pok (x:Str):Bool:=gw (wd x) && decide ((nms x).length<=5) && (nms x).all gn
noncomputable def pvl (x:Str):List V:=.str (wd x)::(nms x).map λ p=>V.int (iv p)
theorem gw_ok {x:Str}(h:gw x=true):PyData.strOk x=true:=by
 unfold gw at h;simp only[and_eq_true]at h;unfold PyData.strOk;rw[Array.all_eq_true_iff_forall_mem];intro c hc;have z:=List.all_eq_true.mp h.1.2 c (by simpa using hc);simp[inR]at z;simp;omega
noncomputable def up (x:Str):Str:=match Builtin.Str.lastOccurrence x dot 0 x.length with|some i=>Builtin.Str.strSub x 0 i|none=>Str.empty
theorem Zc6:dot=⟨#[46]⟩:=by decide +kernel
theorem at_iff (x:Str)(i:Nat):At x dot x.length i↔x.cps.toList[i]? = some 46:=by
 rw[Zc6];exact subAt_one x 46 i
theorem Zel (c a:Nat):((⟨#[c]⟩:Str).cps.toList<(⟨#[a]⟩:Str).cps.toList)↔c<a:=by
 show [c]<[a]↔c<a;have:=StrLaws.lt_cons_cons c a [] [];rw[StrLaws.lt_nil_nil,Bool.and_false,Bool.or_false]at this;simpa using this
theorem ZiP {x:Str}{g:TG}{tb:TS}{D:Ends}{σ:St}{H:Hp}(Pv:Nat->St->Hp->Prop)(h0:Pv 0 σ H)(hs:∀ i c σ H,x.cps.toList[i]? = some c->Pv i σ H->g (.str ⟨#[c]⟩) σ H λ σ2 H2=>tb { D with nx:=Pv (i+1),ct:=Pv (i+1),bk:=D.nx } σ2 H2)(hd:∀ σ H,Pv x.cps.toList.length σ H->D.nx σ H) :
    ∃ W:Nat->Nat->St->Hp->Prop,(∃ m,W 0 m σ H)/\∀ i m σ H,W i m σ H ->
      ((Its x).stop i H/\D.nx σ H)\/((Its x).go i H/\∃ N:St->Hp->Prop,(∀ σ' H',N σ' H'->∃ m',m'<m/\W (i+1) m' σ' H')/\∀ v H',(Its x).yld i H v H'->g v σ H' λ σ2 H2=>tb { D with nx:=N,ct:=N,bk:=D.nx } σ2 H2):=by
  have hl:x.cps.toList.length=x.cps.size:=length_toList;refine⟨λ i m σ H=>m=x.cps.size - i/\i<=x.cps.size/\Pv i σ H,⟨x.cps.size,by simp,zero_le _,h0⟩,?_⟩;rintro i m σ H ⟨rfl,hi,p⟩
  by_cases hlt:i<x.cps.size
  . refine .inr ⟨hlt,Pv (i+1),λ σ' H' p'=>⟨x.cps.size - (i+1),by omega,rfl,hlt,p'⟩,λ v H' y=>?_⟩;obtain⟨rfl,c,hc,rfl⟩:=y;exact hs i c σ _ (by rw[getElem?_toList];exact hc) p
  . have e:i=x.cps.toList.length:=by omega
    subst e;exact .inl ⟨by show x.cps.size<=_;omega,hd σ H p⟩
theorem Zh7 {l:List Nat}{f:Nat->Bool}{i c:Nat}(h:(l.take i).all f=true)(hc:l[i]? = some c)(hf:f c=true):(l.take (i+1)).all f=true:=by
 rw[take_succ,hc,all_append,h];simp[hf]
theorem Zgn {l:List Nat}{f:Nat->Bool}{i c:Nat}(hc:l[i]? = some c)(hf:f c=false):l.all f=false:=by
  cases e:l.all f with
  |false=>rfl
  |true=>
    have:=List.all_eq_true.mp e c (mem_of_getElem? hc);rw[hf]at this;cases this
end L2
namespace L2
open PySem PySem.Spec PyProof.Rows
section
variable {X:Cx}
noncomputable def rCount:V->List V->Hp->VK->Prop:=λ x xs H Q=>∃ z y,x = .str z/\xs=[.str y]/\Q (.int (Builtin.Str.occurrences z y 0 z.length (z.length+1)).length) H
theorem ZeW:MtR X "str.count" rCount:=by
 intro pins s σ H x xs v us Q I rx rv h;obtain⟨z,y,rfl,rfl,q⟩:=h;obtain⟨t,rfl⟩:=rx;obtain⟨u,rfl,t',rfl⟩:=Zah rv;refine call_meets F.slot_str_count (typeIs_str _ _ _) F.entry_str_count (F.args_str_count_2 _ _) (gives_str_count z y t t').meets ?_;exact⟨.int _,H,I.tok _,⟨_,rfl⟩,q⟩
theorem ZfI:∀ {xs:List V} {us:List Value},xs.length=us.length->(∀(j:Nat)(x:V)(u:Value),xs[j]? = some x->us[j]? = some u->Zx x u)->ZG xs us
  |[],[],_,_ => .nil
  |x::xs,u::us,h,k => .cons (k 0 x u rfl rfl) (ZfI (Nat.succ.inj h) λ j y w e1 e2=>k (j+1) y w e1 e2)
noncomputable def rListD:List V->Hp->VK->Prop:=λ xs H Q=>∃(d:Addr)(kvs:List (Key×V)),xs=[.ref d]/\Rd H d (.dK kvs)/\∀ l,H l=none->Q (.ref l) (upd H l (.lst (kvs.map λ p=>kV p.1)))
theorem Zde {X:Cx}(hc:X.calm=true):X1 X (.type "list") rListD:=by
  intro pins s σ H xs us Q I r h;obtain⟨d,kvs,rfl,hd,q⟩:=h;obtain⟨u,rfl,rx⟩:=Zah r;cases rx;obtain⟨z,lo,vs,rel,dd⟩:=Zbf I.hok hd;obtain⟨ep,hat⟩:=dd.dictAt;have hln:kvs.length=vs.length:=rel.length;refine PySem.W.kdl_call (PySem.W.kdl_dict (knd:=ZT X.prog X.w) (kvs:=vs) (ep:=ep) lo) (I.ok.hd hc) hat (by omega) λ h' tk acc c' hk hS hacc=>?_;have hl:acc.toList.length=vs.length:=by rw[length_toList];exact hacc.1
  have hV:ZG (kvs.map λ p=>kV p.1) acc.toList:=by
    refine ZfI (by rw[length_map,hln,hl]) λ j x u e1 e2=>?_;obtain⟨k,w,e3,e4⟩:=hacc.2 j u (by rw[<- getElem?_toList];exact e2);obtain⟨y,e5⟩:=Zf1 rel e3;rw[getElem?_map,e5]at e1;cases e1;exact relK e4
  refine⟨.ref s.heap.objs.size,_,I.laid (t':=tk) hk (le_refl _) (show ZV X.prog X.w _ h' _ (.lst _) from⟨by rw[length_map];exact z,acc.toList,c',hV,by rw[Array.toArray_toList];exact hS⟩),rfl,q _ (I.hok.fresh (le_refl _))⟩
theorem Zgb (z:Str):Str.empty++z=z:=by
 refine YW ?_;show(Str.empty.cps++z.cps).toList=z.cps.toList;simp[Str.empty]
noncomputable def tFs (ta tb:TE)(sep:Str):TE:=λ σ H Q=>ta σ H λ x H1=>∃ z:Str,x = .str z/\z.length<=sizeLine/\(z++sep).length<=sizeLine/\tb σ H1 λ y H2=>∃ n:Int,y = .int n/\n.natAbs.log2<1920/\(z++sep++toString n:Str).length<=sizeLine/\Q (.str (z++sep++toString n)) H2
theorem pe_fs {X:Cx}{a b:Expr}{ta tb:TE}{sep:Str}{j}{p1 p2 p3 p4:Pos}(ha:PE X a ta)(hb:PE X b tb):PE X (.JoinedStr [.FormattedValue a (-1) none p1, .Constant (.str sep) j p2, .FormattedValue b (-1) none p3] p4) (tFs ta tb sep):=by
 refine⟨?_⟩;intro pins s σ H Q I h;refine JoinedStr_many (joinParts_cons (FormattedValue_plain (thn (ha pins s σ H _ I h) λ u s1 zz9=>?_)));obtain⟨x,H1,I1,rx,z,ex,h1,h2,q1⟩:=zz9;subst ex;obtain⟨t,rfl⟩:=rx;refine formatField_str (λ t' tk=>?_) h1;refine⟨by rw[Zgb];exact h1,?_⟩;rw[Zgb];refine joinParts_cons (Calls.Constant_str ⟨h2,?_⟩);have I2:Inv X pins σ H1 { s1 with toks:=tk+1 }:=I1.tok _;refine joinParts_cons (FormattedValue_plain (thn (hb pins _ σ H1 _ I2 q1) λ u s2 zz9=>?_));obtain⟨y,H2,I3,ry,n,ey,h3,h4,q2⟩:=zz9;subst ey;obtain⟨t2,rfl⟩:=ry;refine formatField_int_small h3 ⟨h4,joinParts_nil ?_ h4⟩;exact⟨.str _,H2,I3.tok _,⟨_,rfl⟩,q2⟩
structure Dm (P:Program)(w:World)(K:Frag)(mg:Str->Option Value)(base:Heap)(CX:CXT)(C:Addr)(k:Nat)(m:Str)(ps:List Str)(sp:Sp):Prop where
  cls:Cls K C
  ex:∃ f fd,FnOk P w K mg base CX k f fd ps sp/\Meth K C m f/\X2 K fd ps []
noncomputable def tMt (C:Addr)(m:Str)(sp:Sp)(E:XK)(ta:TE)(t:TA):TE:=λ σ H Q=>ta σ H λ x H1=>∃ a dx fs,x = .ref a/\H1 a=some (.ins C dx fs)/\fs.lookup m=none/\t σ H1 λ vs H2=>sp (x::vs) H2 Q E
theorem tMt_eq {C:Addr}{m:Str}{sp:Sp}{E:XK}{ta:TE}{t:TA}:Zg2 C m sp [] E ta t=tMt C m sp E ta t:=by
 funext σ H Q;unfold Zg2 tMt;simp only[append_nil]
theorem Yn {X:Cx}{CX:CXT}{k:Nat}{C:Addr}{m:Str}{ps:List Str}{sp:Sp}{E:XK}{o e:Expr}{es:List Expr}{apos pos:Pos}{ta:TE}{t:TA}{pl:Sem Bool}(hx:YU CX X E)(D:Dm X.prog X.w X.K X.mg X.base CX C k m ps sp)(hr:Room k X.A)(he:PE X o ta)(ha:PA X (e::es) t)(hst:starEach (e::es) X.env=(false,eval e X.env)::starEach es X.env:=by rfl)(hpl:(backTo pos (starEach es X.env)).any (·.1)=false:=by rfl)(ht:eval (.Call (.Attribute o m apos) (e::es) [] pos) X.env=(do
      let ov <- eval o X.env
      standAt apos.atName
      let (f,first) <- holding [ov] (getMethod ov m pl)
      callWith pos f first (backTo pos (starEach (e::es) X.env)) (backToKw pos (keywordEach [] X.env))):=by rfl) :
    PE X (.Call (.Attribute o m apos) (e::es) [] pos) (tMt C m sp E ta t):=by
  obtain⟨f,fd,F,hm,hb⟩:=D.ex;rw[<- tMt_eq];exact Ziv (pl:=pl) he D.cls hm F hr hb .nil hx ha hst hpl ht
end
end L2
namespace L2
open PySem PySem.Spec
noncomputable def yrs (bs:List (Str×Int)):List (Key×V):=bs.map λ p=>((Sum.inr p.1:Key),V.int p.2)
noncomputable def yr (bs:List (Str×Int))(n:Str):Option Int:=(bs.find? λ p=>decide (p.1=n)).map (·.2)
noncomputable def has (bs:List (Str×Int))(n:Str):Bool:=(yr bs n).isSome
noncomputable def kid (n:Str)(i:Nat):Str:=n++dot++(toString ((i:Int)+1):Str)
noncomputable def Y2 (n:Str)(c:Nat):List V:=(List.range c).map λ i=>V.str (kid n i)
noncomputable def brs (ws:List (Str×Addr×Nat)):List (Key×V):=ws.map λ p=>((Sum.inr p.1:Key),V.ref p.2.1)
structure Book (C:Addr)(H:Hp)(b d1 d2 d3:Addr)(bs ds:List (Str×Int))(ws:List (Str×Addr×Nat)):Prop where
  obj:∃ dx,H b=some (.ins C dx [("births", .ref d1),("deaths", .ref d2),("broods", .ref d3)])
  h1:H d1=some (.dK (yrs bs))
  h2:H d2=some (.dK (yrs ds))
  h3:H d3=some (.dK (brs ws))
  n12:d1≠d2
  n13:d1≠d3
  n23:d2≠d3
  kids:∀ p∈ws,H p.2.1=some (.lst (Y2 p.1 p.2.2))
  nod:(ws.map λ p=>p.2.1).Nodup
theorem Zce (bs:List (Str×Int))(n:Str):Z7 (yrs bs) (Sum.inr n:Key)=(yr bs n).map V.int:=by
  induction bs with
  |nil=>rfl
  |cons p r ih=>
    by_cases h:p.1=n
    . rw[show yrs (p::r)=((Sum.inr p.1:Key),V.int p.2)::yrs r from rfl,XS (by rw[h])];unfold yr;simp[find?_cons,h]
    . rw[show yrs (p::r)=((Sum.inr p.1:Key),V.int p.2)::yrs r from rfl,XT (by simpa using h),ih];unfold yr;simp[find?_cons,h]
theorem ZW (bs:List (Str×Int))(n:Str):(Z7 (yrs bs) (Sum.inr n:Key)).isSome=has bs n:=by
 rw[Zce];unfold has;cases yr bs n <;> rfl
theorem Book.births {C:Addr}{H:Hp}{b d1 d2 d3:Addr}{bs ds:List (Str×Int)}{ws:List (Str×Addr×Nat)}(B:Book C H b d1 d2 d3 bs ds ws)(n:Str):ZU H d1 (.str n) (Z7 (yrs bs) (Sum.inr n:Key)):=ZU.k (k:=Sum.inr n) B.h1
theorem Book.deaths {C:Addr}{H:Hp}{b d1 d2 d3:Addr}{bs ds:List (Str×Int)}{ws:List (Str×Addr×Nat)}(B:Book C H b d1 d2 d3 bs ds ws)(n:Str):ZU H d2 (.str n) (Z7 (yrs ds) (Sum.inr n:Key)):=ZU.k (k:=Sum.inr n) B.h2
noncomputable def ZS (xs:List Addr)(H H':Hp):Prop:=(∀ a o,a∉xs->H a=some o->H' a=some o)/\∀ a,H' a=none->H a=none
theorem ZB {H:Hp}{a b:Addr}{o u:HO}(h:H a=some o)(h':H b=some u)(n:o≠u):a≠b:=λ e=>by
 subst e;rw[h]at h';exact n (Option.some.inj h')
theorem Book.bne {C:Addr}{H:Hp}{b d1 d2 d3:Addr}{bs ds:List (Str×Int)}{ws:List (Str×Addr×Nat)}(B:Book C H b d1 d2 d3 bs ds ws):b≠d1/\b≠d2/\b≠d3:=by
 obtain⟨dx,hb⟩:=B.obj;exact⟨ZB hb B.h1 (λ z=>by cases z),ZB hb B.h2 (λ z=>by cases z),ZB hb B.h3 (λ z=>by cases z)⟩
theorem Book.entered {C:Addr}{H:Hp}{b d1 d2 d3 l:Addr}{bs ds:List (Str×Int)}{ws:List (Str×Addr×Nat)}{n:Str}{y:Int}{o1 o3:HO}(B:Book C H b d1 d2 d3 bs ds ws)(hl:upd H d1 o1 l=none)(e1:o1 = .dK (yrs (bs++[(n,y)])))(e3:o3 = .dK (brs (ws++[(n,l,0)]))) :
    Book C (upd (upd (upd H d1 o1) l (.lst [])) d3 o3) b d1 d2 d3 (bs++[(n,y)]) ds (ws++[(n,l,0)])/\ZS [d1,d3] H (upd (upd (upd H d1 o1) l (.lst [])) d3 o3):=by
  obtain⟨nb1,nb2,nb3⟩:=B.bne;have l1:d1≠l:=λ e=>by rw[<- e,Zb]at hl;cases hl
  have hl0:H l=none:=by rw[<- hl,Ze (Ne.symm l1)]
  have l3:d3≠l:=λ e=>by rw[<- e,B.h3]at hl0;cases hl0
  have kp:∀ a o,a≠d1->a≠d3->H a=some o->upd (upd (upd H d1 o1) l (.lst [])) d3 o3 a=some o:=λ a o n1 n3 e=>by
    have nl:a≠l:=λ z=>by rw[z,hl0]at e;cases e
    rw[Ze n3,Ze nl,Ze n1];exact e
  obtain⟨dx,hb⟩:=B.obj;refine⟨⟨⟨dx,kp _ _ nb1 nb3 hb⟩,?_,kp _ _ (Ne.symm B.n12) B.n23 B.h2,?_,B.n12,B.n13,B.n23,?_,?_⟩,λ a o hn e=>kp a o (λ z=>hn (by simp[z])) (λ z=>hn (by simp[z])) e,λ a e=>?_⟩
  . rw[Ze B.n13,Ze l1,Zb,e1]
  . rw[Zb,e3]
  . intro p hp;rcases List.mem_append.mp hp with hp|hp
    . have hk:=B.kids p hp;exact kp _ _ (ZB hk B.h1 (λ z=>by cases z)) (ZB hk B.h3 (λ z=>by cases z)) hk
    . rw[List.mem_singleton.mp hp];show upd (upd (upd H d1 o1) l (.lst [])) d3 o3 l=some (.lst (Y2 n 0));rw[Ze (Ne.symm l3),Zb];rfl
  . rw[map_append,nodup_append];refine⟨B.nod,by simp,λ a ha c hc e=>?_⟩;rw[map_cons,map_nil,List.mem_singleton]at hc;obtain⟨p,hp,rfl⟩:=List.mem_map.mp ha;have hk:=B.kids p hp;rw[show p.2.1=l from e.trans hc]at hk;rw[hl0]at hk;cases hk
  . by_cases h3:a=d3
    . rw[h3,Zb]at e;cases e
    . rw[Ze h3]at e
      by_cases hL:a=l
      . rw[hL,Zb]at e;cases e
      . rw[Ze hL]at e
        by_cases h1:a=d1
        . rw[h1,Zb]at e;cases e
        . rw[Ze h1]at e;exact e
theorem Book.died {C:Addr}{H:Hp}{b d1 d2 d3:Addr}{bs ds ds':List (Str×Int)}{ws:List (Str×Addr×Nat)}(B:Book C H b d1 d2 d3 bs ds ws):Book C (upd H d2 (.dK (yrs ds'))) b d1 d2 d3 bs ds' ws/\ZS [d2] H (upd H d2 (.dK (yrs ds'))):=by
  obtain⟨nb1,nb2,nb3⟩:=B.bne;obtain⟨dx,hb⟩:=B.obj;refine⟨⟨⟨dx,by rw[Ze nb2];exact hb⟩,by rw[Ze B.n12];exact B.h1,Zb,by rw[Ze (Ne.symm B.n23)];exact B.h3,B.n12,B.n13,B.n23,λ p hp=>?_,B.nod⟩,λ a o hn e=>?_,λ a e=>?_⟩
  . have hk:=B.kids p hp;rw[Ze (ZB hk B.h2 (λ z=>by cases z))];exact hk
  . rw[Ze (λ z=>hn (by simp[z]))];exact e
  . by_cases h2:a=d2
    . rw[h2,Zb]at e;cases e
    . rw[Ze h2]at e;exact e
theorem J4 {bs:List (Str×Int)}{n:Str}(h:has bs n=false):Z7 (yrs bs) (Sum.inr n:Key)=none:=by
  have z:=ZW bs n;rw[h]at z;cases e:Z7 (yrs bs) (Sum.inr n:Key) with
  |none=>rfl
  |some v=>rw[e]at z;cases z
theorem JY (bs:List (Str×Int))(n:Str)(y:Int):yrs bs++[((Sum.inr n:Key),V.int y)]=yrs (bs++[(n,y)]):=by unfold yrs;rw[map_append];rfl
noncomputable def bro (ws:List (Str×Addr×Nat))(n:Str):Option (Addr×Nat):=(ws.find? λ p=>decide (p.1=n)).map (·.2)
theorem Zcf (ws:List (Str×Addr×Nat))(n:Str):Z7 (brs ws) (Sum.inr n:Key)=(bro ws n).map λ p=>V.ref p.1:=by
  induction ws with
  |nil=>rfl
  |cons p r ih=>
    by_cases h:p.1=n
    . rw[show brs (p::r)=((Sum.inr p.1:Key),V.ref p.2.1)::brs r from rfl,XS (by rw[h])];unfold bro;simp[find?_cons,h]
    . rw[show brs (p::r)=((Sum.inr p.1:Key),V.ref p.2.1)::brs r from rfl,XT (by simpa using h),ih];unfold bro;simp[find?_cons,h]
theorem Zcc {ws:List (Str×Addr×Nat)}{n:Str}{a:Addr}{c:Nat}(h:bro ws n=some (a,c)):(n,a,c)∈ws:=by
 unfold bro at h;obtain⟨p,hp,e⟩:=Option.map_eq_some_iff.mp h;have h1:=List.mem_of_find?_eq_some hp;have h2:=List.find?_some hp;rw[<- of_decide_eq_true h2,<- e];exact h1
noncomputable def bump (ws:List (Str×Addr×Nat))(n:Str):List (Str×Addr×Nat):=ws.map λ p=>if p.1=n then (p.1,p.2.1,p.2.2+1) else p
theorem ZdB (n:Str)(c:Nat):Y2 n c++[V.str (kid n c)]=Y2 n (c+1):=by
 unfold Y2;rw[List.range_succ,map_append];rfl
theorem Zfc (ws:List (Str×Addr×Nat))(n:Str):brs (bump ws n)=brs ws:=by
 unfold brs bump;rw[map_map];refine map_congr_left λ p _=>?_;show((Sum.inr (if p.1=n then (p.1,p.2.1,p.2.2+1) else p).1:Key),V.ref (if p.1=n then (p.1,p.2.1,p.2.2+1) else p).2.1)=_;split <;> rfl
theorem Zfe (ws:List (Str×Addr×Nat))(n:Str):(bump ws n).map (λ p=>p.2.1)=ws.map λ p=>p.2.1:=by
 unfold bump;rw[map_map];refine map_congr_left λ p _=>?_;show(if p.1=n then (p.1,p.2.1,p.2.2+1) else p).2.1=_;split <;> rfl
theorem ZdF {ws:List (Str×Addr×Nat)}{α:Type}{f:Str×Addr×Nat->α}(h:(ws.map f).Nodup){p q:Str×Addr×Nat}(hp:p∈ws)(hq:q∈ws)(e:f p=f q):p=q:=by
  induction ws with
  |nil=>cases hp
  |cons x r ih=>
    rw[map_cons,List.nodup_cons]at h;rcases List.mem_cons.mp hp with rfl|hp' <;> rcases List.mem_cons.mp hq with rfl|hq'
    . rfl
    . exact absurd (List.mem_map.mpr ⟨q,hq',e.symm⟩) h.1
    . exact absurd (List.mem_map.mpr ⟨p,hp',e⟩) h.1
    . exact ih h.2 hp' hq'
theorem Book.grown {C:Addr}{H:Hp}{b d1 d2 d3 a:Addr}{bs ds:List (Str×Int)}{ws:List (Str×Addr×Nat)}{n:Str}{c:Nat}(B:Book C H b d1 d2 d3 bs ds ws)(hk:(ws.map λ p=>p.1).Nodup)(hw:(n,a,c)∈ws) :
    Book C (upd H a (.lst (Y2 n (c+1)))) b d1 d2 d3 bs ds (bump ws n):=by
  obtain⟨dx,hb⟩:=B.obj;have ha:H a=some (.lst (Y2 n c)):=B.kids _ hw;refine⟨⟨dx,by rw[Ze (ZB hb ha (λ z=>by cases z))];exact hb⟩,by rw[Ze (ZB B.h1 ha (λ z=>by cases z))];exact B.h1,by rw[Ze (ZB B.h2 ha (λ z=>by cases z))];exact B.h2,by rw[Ze (ZB B.h3 ha (λ z=>by cases z)),Zfc];exact B.h3,B.n12,B.n13,B.n23,λ p hp=>?_,by rw[Zfe];exact B.nod⟩;obtain⟨q,hq,rfl⟩:=List.mem_map.mp hp
  by_cases e:q.1=n
  . have z:q=(n,a,c):=ZdF hk hq hw e;subst z;rw[if_pos rfl];exact Zb
  . rw[if_neg e];have na:q.2.1≠a:=λ z=>e (by rw[ZdF B.nod hq hw z]);rw[Ze na];exact B.kids q hq
end L2
namespace L2
open PySem PySem.Spec
theorem Inv.thaw {X:Cx}{pins:List (Addr×Obj)}{σ:St}{H:Hp}{s:Shared}{d:Addr}{o:Obj}{u:HO}(I:Inv X pins σ H s)(h:H d=some (.frz o u))(hn:∀ o' u',X.H₀ d≠some (.frz o' u')):Inv X pins σ (upd H d u) s:=by
  have nn:∀ b,H b=none->b≠d:=λ b e z=>by rw[z,h]at e;cases e
  have kp:∀ b,b≠d->upd H d u b=H b:=λ b z=>Ze z;have nt:∀ b xs,H b=some (.tup xs)->b≠d:=λ b xs e z=>by rw[z,h]at e;cases e
  have no:∀ b a,H b=some (.own a)->b≠d:=λ b a e z=>by rw[z,h]at e;cases e
  refine⟨I.ok,I.os,I.bare,⟨I.base.keep,I.base.slot,λ b ob q n hx=>?_,I.base.there,λ b xs q=>?_,λ b ob v q=>?_,λ b ps q=>?_⟩,I.loc,I.cell,?_,λ x c e=>?_,λ p hp=>?_,λ a ob e=>?_,I.len⟩
  . have z:=I.base.free b ob q n hx;rw[kp b (nn b z)];exact z
  . have z:=I.base.tups b xs q;rw[kp b (nt b xs z)];exact z
  . have z:=I.base.frzs b ob v q;rw[kp b (λ e=>hn ob v (by rw[<- e];exact q))];exact z
  . obtain⟨more,z⟩:=I.base.tbls b ps q;exact⟨more,by rw[kp b (λ e=>by rw[e,h]at z;cases z)];exact z⟩
  . rw[kp _ (nn _ I.free)];exact I.free
  . have z:=I.freeC x c e;rw[kp _ (nn _ z)];exact z
  . obtain⟨z1,z2,z3⟩:=I.pin p hp;exact⟨z1,by rw[kp _ (nn _ z2)];exact z2,z3⟩
  . by_cases ha:a=d
    . subst ha;rw[Zb]at e;cases e;obtain⟨_,q⟩:=(show ZV X.prog X.w H s.heap a (.frz o u) from I.hok a _ h);exact q.stay (λ _ _ _ q=>q) (λ b e=>by rw[kp b (no b _ e)];exact e) λ b xs e=>by rw[kp b (nt b xs e)];exact e
    . rw[kp a ha]at e;exact(I.hok a ob e).stay (λ _ _ _ q=>q) (λ b e=>by rw[kp b (no b _ e)];exact e) λ b xs e=>by rw[kp b (nt b xs e)];exact e
noncomputable def tThaw (d:Addr)(kvs:List (Key×V))(t:TE):TE:=λ σ H Q=>H d=some (.dK kvs)/\t σ H λ v H2=>∃ o,H2 d=some (.frz o (.dK kvs))/\Q v (upd H2 d (.dK kvs))
theorem Ziu {X:Cx}{e:Expr}{t:TE}{d:Addr}{kvs:List (Key×V)}(he:PE X e t):PE X e (tThaw d kvs t):=by
  refine⟨?_⟩;rintro pins s σ H Q I ⟨hd,h⟩;have hn:∀ o' u',X.H₀ d≠some (.frz o' u'):=λ o' u' z=>by
    have q:=I.base.frzs d o' u' z;rw[hd]at q;cases q
  exact thn (he pins s σ H _ I h) λ u s' ⟨v,H2,I2,r,o,h2,q⟩=>⟨v,_,I2.thaw h2 hn,r,q⟩
end L2
namespace L2
open PySem PySem.Spec
structure Mdl (H:Hp)(m c e1 e2 e3:Addr)(y:Int)(bs ds cs:List (Str×Int)):Prop where
  tup:H m=some (.tup [.ref c, .ref e1, .ref e2, .ref e3])
  clk:H c=some (.lst [.int y])
  h1:H e1=some (.dK (yrs bs))
  h2:H e2=some (.dK (yrs ds))
  h3:H e3=some (.dK (yrs cs))
  n12:e1≠e2
  n13:e1≠e3
  n23:e2≠e3
theorem Mdl.keep {H H':Hp}{m c e1 e2 e3:Addr}{y:Int}{bs ds cs:List (Str×Int)}(M:Mdl H m c e1 e2 e3 y bs ds cs)(s:Zp H H'):Mdl H' m c e1 e2 e3 y bs ds cs:=
 ⟨s _ _ M.tup,s _ _ M.clk,s _ _ M.h1,s _ _ M.h2,s _ _ M.h3,M.n12,M.n13,M.n23⟩
end L2
namespace L2
open PySem PySem.Spec PyProof.Rows PySem.StrLaws
theorem Zh3 {a b s t:List Nat}(h:a++46::s=b++46::t)(hs:46∉s)(ht:46∉t):a=b/\s=t:=by
  rcases List.append_eq_append_iff.mp h with ⟨c,e1,e2⟩|⟨c,e1,e2⟩
  . cases c with
    |nil=>simp at e1 e2;exact⟨e1.symm,e2⟩
    |cons x r=>
      simp at e2;exact absurd (show 46∈s by rw[e2.2];simp) hs
  . cases c with
    |nil=>simp at e1 e2;exact⟨e1,e2.symm⟩
    |cons x r=>
      simp at e2;exact absurd (show 46∈t by rw[e2.2];simp) ht
theorem ZbL:dot.cps.toList=[46]:=by rw[Zc6]
theorem Ym (a b:Str):(a++b).cps.toList=a.cps.toList++b.cps.toList:=cps_toList_append a b
theorem Y0 (a b:Str):(a++b).length=a.length+b.length:=by
 show(a.cps++b.cps).size=_;rw[Array.size_append];rfl
theorem Zew {a b s t:Str}(h:a++dot++s=b++dot++t)(hs:46∉s.cps.toList)(ht:46∉t.cps.toList):a=b/\s=t:=by
 have z:=congrArg (λ x:Str=>x.cps.toList) h;simp only[Ym,ZbL]at z;rw[append_assoc,append_assoc]at z;obtain⟨e1,e2⟩:=Zh3 z hs ht;exact⟨YW e1,YW e2⟩
noncomputable abbrev ts (i:Nat):Str:=(toString ((i:Nat):Int):Str)
theorem X4 (i:Int):46∉(toString i:Str).cps.toList:=int_text_free' 46 ⟨by decide,by decide⟩ i
theorem ts_inj {i j:Int}(h0:0<=i)(h1:i<10 ^ 10)(g0:0<=j)(g1:j<10 ^ 10)(h:(toString i:Str)=(toString j:Str)):i=j:=by
 have a:=PySem.W.KIN.num_reads h0 h1;have b:=PySem.W.KIN.num_reads g0 g1;rw[show PySem.Str.ofString (toString i)=PySem.Str.ofString (toString j) from h,b]at a;exact(Option.some.inj a).symm
theorem Zeo {n m:Str}{i j:Nat}(hi:i<10 ^ 9)(hj:j<10 ^ 9)(h:kid n i=kid m j):n=m/\i=j:=by
 obtain⟨e1,e2⟩:=Zew h (X4 _) (X4 _);exact⟨e1,by have:=ts_inj (by omega) (by omega) (by omega) (by omega) e2;omega⟩
theorem ZhG {n m:Str}{i j:Nat}(h:kid n i=kid m j):n=m:=(Zew h (X4 _) (X4 _)).1
theorem Xd (s:Str):∀(l:List Str)(_:l≠[]),Str.join dot (l++[s])=Str.join dot l++dot++s
  |[a],_=>rfl
  | a::b::r,_=>by
    show a++dot++Str.join dot ((b::r)++[s])=(a++dot++Str.join dot (b::r))++dot++s;rw[Xd s (b::r) (by simp)];refine YW ?_;simp only[Ym,append_assoc]
theorem Zc1:∀(l m:List Str),l≠[]->m≠[]->(∀ p∈l,46∉p.cps.toList)->(∀ p∈m,46∉p.cps.toList)->Str.join dot l=Str.join dot m->l=m:=by
  have key:∀(n:Nat)(l m:List Str),l.length=n->l≠[]->m≠[]->(∀ p∈l,46∉p.cps.toList)->(∀ p∈m,46∉p.cps.toList)->Str.join dot l=Str.join dot m->l=m:=by
    intro n
    induction n with
    |zero=>intro l m h hl;exact absurd (List.length_eq_zero_iff.mp h) hl
    |succ n ih=>
      intro l m h hl hm fl fm e;rcases eq_nil_or_concat l with rfl|⟨l',a,rfl⟩
      . exact absurd rfl hl
      rcases eq_nil_or_concat m with rfl|⟨m',b,rfl⟩
      . exact absurd rfl hm
      simp only[List.concat_eq_append]at h hl hm fl fm e ⊢;have noDot:∀ x:Str,46∉x.cps.toList->∀(k:List Str)(y:Str),k≠[]->x≠Str.join dot (k++[y]):=λ x hx k y hk z=>by
        apply hx;rw[z,Xd y k hk,Ym,Ym,ZbL];simp
      by_cases h1:l'=[]
      . subst h1
        by_cases h2:m'=[]
        . subst h2;have:a=b:=e;rw[this]
        . exact absurd e (noDot a (fl a (by simp)) m' b h2)
      . by_cases h2:m'=[]
        . subst h2;exact absurd e.symm (noDot b (fm b (by simp)) l' a h1)
        . rw[Xd a l' h1,Xd b m' h2]at e;obtain⟨e1,e2⟩:=Zew e (fl a (by simp)) (fm b (by simp));rw[e2,ih l' m' (by simp at h;omega) h1 h2 (λ p hp=>fl p (by simp[hp])) (λ p hp=>fm p (by simp[hp])) e1]
  exact λ l m=>key l.length l m rfl
theorem XW {x p:Str}(h:p∈pcs x):46∉p.cps.toList:=split_free x 46 p (by have z:p∈Txt.split x dot:=h;rw[Zc6]at z;exact z)
theorem Ys (x:Str):Str.join dot (pcs x)=x:=join_split x dot
theorem ZaC (x:Str):pcs x≠[]:=by rw[YQ];simp
theorem Zd4 (n:Str)(i:Nat):pcs (kid n i)=pcs n++[(toString ((i:Int)+1):Str)]:=by
  refine Zc1 _ _ (ZaC _) (by simp) (λ p hp=>XW hp) (λ p hp=>?_) ?_
  . rcases List.mem_append.mp hp with h|h
    . exact XW h
    . rw[List.mem_singleton.mp h];exact X4 _
  . rw[Ys,Xd _ _ (ZaC n),Ys];rfl
theorem ZfS {x:Str}(h:46∉x.cps.toList):pcs x=[x]:=by
  refine Zc1 _ _ (ZaC _) (by simp) (λ p hp=>XW hp) (λ p hp=>?_) ?_
  . rw[List.mem_singleton.mp hp];exact h
  . rw[Ys];rfl
theorem Zcb {x:Str}(h:gw x=true):46∉x.cps.toList:=λ hm=>by
 unfold gw at h;simp only[and_eq_true]at h;have z:=List.all_eq_true.mp h.1.2 46 hm;revert z
 decide
theorem Zet {x:Str}(h:gw x=true):1<=x.length/\x.length<=8:=by
 unfold gw at h;simp only[and_eq_true,decide_eq_true_eq]at h;exact⟨h.1.1.1,h.1.1.2⟩
theorem Zf2 (n:Str)(i:Nat):46∈(kid n i).cps.toList:=by
 unfold kid;rw[Ym,Ym,ZbL];simp
theorem ZfB {x n:Str}{i:Nat}(h:gw x=true):x≠kid n i:=λ e=>Zcb h (e▸Zf2 n i)
theorem ZdN (n:Str)(i:Nat):wd (kid n i)=wd n:=by
  unfold wd;rw[Zd4];cases e:pcs n with
  |nil=>exact absurd e (ZaC n)
  |cons a r=>rfl
theorem ZfV (n:Str)(i:Nat):nms (kid n i)=nms n++[(toString ((i:Int)+1):Str)]:=by
  unfold nms;rw[Zd4];cases e:pcs n with
  |nil=>exact absurd e (ZaC n)
  |cons a r=>rfl
theorem ZgU {x:Str}(h:gw x=true):wd x=x:=by unfold wd;rw[ZfS (Zcb h)];rfl
theorem Zhs {x:Str}(h:gw x=true):nms x=[]:=by unfold nms;rw[ZfS (Zcb h)];rfl
theorem ZcF {x:Str}(h:gw x=true):pok x=true:=by
 unfold pok;rw[ZgU h,Zhs h,h];rfl
theorem gn_tab:∀ k∈List.range 99,gn (ts (k+1))=true/\(ts (k+1)).length<=2:=by decide +kernel
theorem gn_ts {i:Nat}(h:i<99):gn (toString ((i:Int)+1):Str)=true/\(toString ((i:Int)+1):Str).length<=2:=gn_tab i (List.mem_range.mpr h)
noncomputable def ZJ (x:Str):Nat:=(Builtin.Str.occurrences x dot 0 x.length (x.length+1)).length
theorem ZhW (x:Str):(ZJ x:Int)=cnt 46 x.cps.toList:=by
 have h:=count_is x 46;unfold ZJ;rw[Zc6];exact h
theorem Xw (x:Str):ZJ x=(nms x).length:=by
 have h:=cnt_join dot 46 (by rw[ZbL];rfl) (pcs x) (λ t ht=>XW ht);rw[Ys,<- ZhW,YQ]at h;simp at h;omega
theorem ZX (n:Str)(i:Nat):ZJ (kid n i)=ZJ n+1:=by rw[Xw,Xw,ZfV];simp
theorem Zbe {x:Str}(h:gw x=true):ZJ x=0:=by rw[Xw,Zhs h];rfl
theorem Zir {n:Str}{i:Nat}(h:pok n=true)(hd:ZJ n<5)(hi:i<99):pok (kid n i)=true:=by
 unfold pok at h ⊢;simp only[and_eq_true,decide_eq_true_eq]at h ⊢;rw[ZdN,ZfV];rw[Xw]at hd;refine⟨⟨h.1.1,by simp;omega⟩,?_⟩;rw[all_append,h.2];have z:=(gn_ts hi).1;simp only[List.all_cons,List.all_nil,Bool.and_true,Bool.true_and];exact z
theorem ZhK (B:Nat)(n:Nat):∀(l:List Str),l.length=n->l≠[]->(∀ p∈l.tail,p.length<=B)->(Str.join dot l).length+B+1<=(l.headD Str.empty).length+l.length * (B+1):=by
  induction n with
  |zero=>intro l h hl;exact absurd (List.length_eq_zero_iff.mp h) hl
  |succ n ih=>
    intro l hn hl hB;rcases eq_nil_or_concat l with rfl|⟨l,s,rfl⟩
    . exact absurd rfl hl
    simp only[List.concat_eq_append]at hn hl hB ⊢
    by_cases h:l=[]
    . subst h;show s.length+B+1<=s.length+1 * (B+1);omega
    . have z:=ih l (by simp at hn;omega) h (λ p hp=>hB p (by cases l with|nil=>exact absurd rfl h|cons a r=>simp at hp ⊢;exact .inl hp));have zs:s.length<=B:=hB s (by cases l with|nil=>exact absurd rfl h|cons a r=>simp);rw[Xd s l h,Y0,Y0];have hd:(l++[s]).headD Str.empty=l.headD Str.empty:=by cases l with|nil=>exact absurd rfl h|cons a r=>rfl
      have d1:dot.length=1:=by rw[Zc6];rfl
      rw[hd,d1,length_append,length_singleton,Nat.add_mul];omega
theorem Xc {x:Str}(h:pok x=true):x.length<=23:=by
  unfold pok at h;simp only[and_eq_true,decide_eq_true_eq]at h;have hl:=ZhK 2 _ (pcs x) rfl (ZaC x) (λ p hp=>by
    have z:=List.all_eq_true.mp h.2 p hp;unfold gn at z;simp only[and_eq_true,decide_eq_true_eq]at z;exact z.1.1.2)
  rw[Ys]at hl;have hw:=(Zet h.1.1).2;have e:(pcs x).headD Str.empty=wd x:=by rw[YQ];rfl
  have e2:(pcs x).length=(nms x).length+1:=by rw[YQ];simp
  rw[e,e2]at hl;omega
end L2
namespace L2
open PySem PySem.Spec PyProof.Rows
theorem yr_app (bs:List (Str×Int))(m:Str)(y:Int)(n:Str):yr (bs++[(m,y)]) n=(yr bs n).or (if m=n then some y else none):=by
  unfold yr;rw[List.find?_append];cases e:bs.find? (λ p=>decide (p.1=n)) with
  |some p=>rfl
  |none=>
    by_cases h:m=n
    . simp[h,find?_cons]
    . simp[h,find?_cons]
theorem ZQ (bs:List (Str×Int))(m:Str)(y:Int)(n:Str):has (bs++[(m,y)]) n=(has bs n || decide (m=n)):=by
  unfold has;rw[yr_app];cases yr bs n with
  |some v=>rfl
  |none=>by_cases h:m=n <;> simp[h]
theorem Yl (bs:List (Str×Int))(n:Str):has bs n=true↔n∈bs.map (·.1):=by
  unfold has yr;rw[isSome_map,List.find?_isSome,mem_map];constructor
  . rintro⟨p,hp,e⟩;exact⟨p,hp,of_decide_eq_true e⟩
  . rintro⟨p,hp,e⟩;exact⟨p,hp,decide_eq_true e⟩
theorem Zes (bs:List (Str×Int))(n:Str):has bs n=false↔n∉bs.map (·.1):=by
 rw[<- Yl];cases has bs n <;> simp
theorem ZiN (n:Str):has [] n=false:=rfl
noncomputable def nk (bs:List (Str×Int))(n:Str):Nat:=(List.range 1000).findIdx λ i => !has bs (kid n i)
theorem Zht {bs:List (Str×Int)}{n:Str}{k:Nat}(hk:k<1000)(h1:∀ i,i<k->has bs (kid n i)=true)(h2:has bs (kid n k)=false):nk bs n=k:=by
  unfold nk;refine(List.findIdx_eq (by rw[length_range];exact hk)).mpr ⟨?_,λ j hj=>?_⟩
  . rw[List.getElem_range,h2];rfl
  . rw[List.getElem_range,h1 j hj];rfl
theorem ZeV {bs bs':List (Str×Int)}{n:Str}(h:∀ i,has bs (kid n i)=has bs' (kid n i)):nk bs n=nk bs' n:=by
 unfold nk;congr 1;funext i;rw[h i]
structure Wf (bs ds:List (Str×Int)):Prop where
  nod:(bs.map (·.1)).Nodup
  sub:∀ n,has ds n=true->has bs n=true
  wrt:∀ n,has bs n=true->pok n=true
  par:∀ n i,has bs (kid n i)=true->has bs n=true
  cnt:∀ n i,i<1000->(has bs (kid n i)=true↔i<nk bs n)
  lim:bs.length<1000
  few:∀ n,nk bs n<=bs.length
theorem Wf.nil:Wf [] [] where
 nod:=by simp
 sub:=λ n h=>by cases h
 wrt:=λ n h=>by cases h
 par:=λ n i h=>by cases h
 cnt:=λ n i _=>by rw[Zht (k:=0) (by decide) (λ i h=>by omega) rfl];simp[ZiN]
 lim:=by decide
 few:=λ n=>by rw[Zht (k:=0) (by decide) (λ i h=>by omega) rfl];exact zero_le _
theorem Wf.no_kid {bs ds:List (Str×Int)}(W:Wf bs ds)(n:Str):has bs (kid n (nk bs n))=false:=by
  cases e:has bs (kid n (nk bs n)) with
  |false=>rfl
  |true=>exact absurd ((W.cnt n _ (by have:=W.few n;have:=W.lim;omega)).mp e) (lt_irrefl _)
theorem Wf.nk_none {bs ds:List (Str×Int)}(W:Wf bs ds){n:Str}(h:has bs n=false):nk bs n=0:=by
  cases e:nk bs n with
  |zero=>rfl
  |succ k=>
    have z:=W.par n 0 ((W.cnt n 0 (by omega)).mpr (by omega));rw[h]at z;cases z
theorem Zej {bs:List (Str×Int)}{w:Str}{y:Int}(hw:gw w=true)(n:Str):nk (bs++[(w,y)]) n=nk bs n:=ZeV λ i=>by
 rw[ZQ,decide_eq_false (ZfB hw),Bool.or_false]
theorem Zei {bs:List (Str×Int)}{m:Str}{y:Int}(h:(bs.map (·.1)).Nodup)(hm:has bs m=false):((bs++[(m,y)]).map (·.1)).Nodup:=by
 rw[map_append,nodup_append];refine⟨h,by simp,λ a ha b hb e=>?_⟩;rw[map_cons,map_nil,List.mem_singleton]at hb;have hb':b=m:=hb;exact(Zes bs m).mp hm (by rw[<- hb',<- e];exact ha)
theorem Wf.arrive {bs ds:List (Str×Int)}{w:Str}{y:Int}(W:Wf bs ds)(hw:gw w=true)(h:has bs w=false)(hl:bs.length<900):Wf (bs++[(w,y)]) ds where
  nod:=Zei W.nod h
  sub:=λ n hn=>by rw[ZQ,W.sub n hn];rfl
  wrt:=λ n hn=>by
    rw[ZQ,or_eq_true]at hn;rcases hn with e|e
    . exact W.wrt n e
    . rw[<- of_decide_eq_true e];exact ZcF hw
  par:=λ n i hn=>by
    rw[ZQ,decide_eq_false (ZfB hw),Bool.or_false]at hn;rw[ZQ,W.par n i hn];rfl
  cnt:=λ n i hi=>by rw[Zej hw,ZQ,decide_eq_false (ZfB hw),Bool.or_false];exact W.cnt n i hi
  lim:=by rw[length_append,length_singleton];omega
  few:=λ n=>by rw[Zej hw,length_append];have:=W.few n;omega
theorem ZhH {n m:Str}{i j:Nat}(h:n≠m):kid n i≠kid m j:=λ e=>h (ZhG e)
theorem Zek {bs ds:List (Str×Int)}(W:Wf bs ds){n:Str}{y:Int}(hl:bs.length<900)(m:Str):nk (bs++[(kid n (nk bs n),y)]) m=if m=n then nk bs n+1 else nk bs m:=by
  have hf:=W.few n
  by_cases h:m=n
  . subst h;rw[if_pos rfl];refine Zht (by omega) (λ i hi=>?_) ?_
    . rw[ZQ]
      by_cases e:i<nk bs m
      . rw[(W.cnt m i (by omega)).mpr e];rfl
      . rw[show i=nk bs m by omega];simp
    . rw[ZQ];have z:has bs (kid m (nk bs m+1))=false:=by
        cases e:has bs (kid m (nk bs m+1)) with
        |false=>rfl
        |true=>have:=(W.cnt m _ (by omega)).mp e;omega
      rw[z,decide_eq_false (λ e=>by have:=(Zeo (by omega) (by omega) e).2;omega)];rfl
  . rw[if_neg h];exact ZeV λ i=>by rw[ZQ,decide_eq_false (ZhH (Ne.symm h)),Bool.or_false]
theorem Wf.birth {bs ds:List (Str×Int)}{n:Str}{y:Int}(W:Wf bs ds)(hn:has bs n=true)(hd:ZJ n<5)(hl:bs.length<900)(h99:nk bs n<99):Wf (bs++[(kid n (nk bs n),y)]) ds where
  nod:=Zei W.nod (W.no_kid n)
  sub:=λ m h=>by rw[ZQ,W.sub m h];rfl
  wrt:=λ m h=>by
    rw[ZQ,or_eq_true]at h;rcases h with e|e
    . exact W.wrt m e
    . rw[<- of_decide_eq_true e];exact Zir (W.wrt n hn) hd h99
  par:=λ m i h=>by
    rw[ZQ,or_eq_true]at h;rcases h with e|e
    . rw[ZQ,W.par m i e];rfl
    . rw[<- ZhG (of_decide_eq_true e),ZQ,hn];rfl
  cnt:=λ m i hi=>by
    rw[Zek W hl,ZQ]
    by_cases h:m=n
    . subst h;rw[if_pos rfl]
      by_cases e:i=nk bs m
      . subst e;simp
      . have hf:=W.few m;rw[decide_eq_false (λ z=>e (Zeo (by omega) (by omega) z).2.symm),Bool.or_false,W.cnt m i hi];omega
    . rw[if_neg h,decide_eq_false (ZhH (Ne.symm h)),Bool.or_false];exact W.cnt m i hi
  lim:=by rw[length_append,length_singleton];omega
  few:=λ m=>by
    rw[Zek W hl,length_append,length_singleton];have a:=W.few m;have b:=W.few n;split <;> omega
theorem Wf.death {bs ds:List (Str×Int)}{n:Str}{y:Int}(W:Wf bs ds)(hn:has bs n=true):Wf bs (ds++[(n,y)]) where
  nod:=W.nod
  sub:=λ m h=>by
    rw[ZQ,or_eq_true]at h;rcases h with e|e
    . exact W.sub m e
    . rw[<- of_decide_eq_true e];exact hn
  wrt:=W.wrt
  par:=W.par
  cnt:=W.cnt
  lim:=W.lim
  few:=W.few
theorem Zp.kp {H H':Hp}(s:Zp H H'):ZS [] H H':=⟨λ a o _ e=>s a o e,λ a e=>s.free e⟩
theorem ZS.refl (X:List Addr)(H:Hp):ZS X H H:=⟨λ _ _ _ e=>e,λ _ e=>e⟩
theorem ZS.tr {X Y:List Addr}{H1 H2 H3:Hp}(k:ZS X H1 H2)(q:ZS Y H2 H3)(h:∀ a∈Y,a∈X\/H1 a=none):ZS X H1 H3:=
 ⟨λ a o hn e=>q.1 a o (λ hy=>(h a hy).elim hn λ z=>by rw[z]at e;cases e) (k.1 a o hn e),λ a e=>k.2 a (q.2 a e)⟩
theorem ZS.same {X:List Addr}{H1 H2 H3:Hp}(k:ZS X H1 H2)(q:Zp H2 H3):ZS X H1 H3:=k.tr q.kp (λ a h=>nomatch h)
theorem Zp.keep {Y:List Addr}{H1 H2 H3:Hp}(k:Zp H1 H2)(q:ZS Y H2 H3)(h:∀ a∈Y,H1 a=none):Zp H1 H3:=λ b o e=>(k.kp.tr q (λ a ha => .inr (h a ha))).1 b o (λ h=>nomatch h) e
noncomputable def JX (H:Hp)(R R':List Addr):Prop:=∀ a∈R',a∈R\/H a=none
theorem JX.refl (H:Hp)(R:List Addr):JX H R R:=λ _ h => .inl h
noncomputable def Zff (H:Hp)(R:List Addr):Prop:=∀ a∈R,∃ o,H a=some o
noncomputable def Dj (R S:List Addr):Prop:=∀ a∈R,a∉S
theorem Dj.symm {R S:List Addr}(h:Dj R S):Dj S R:=λ a ha hb=>h a hb ha
theorem Dj.grow {H:Hp}{R S S':List Addr}(h:Dj R S)(l:Zff H R)(g:JX H S S'):Dj R S':=λ a ha hb=>(g a hb).elim (h a ha) λ z=>by
 obtain⟨o,e⟩:=l a ha;rw[z]at e;cases e
theorem Zff.dj {H:Hp}{R S:List Addr}(l:Zff H R)(h:∀ a∈S,H a=none):Dj R S:=λ a ha hb=>by
 obtain⟨o,e⟩:=l a ha;rw[h a hb]at e;cases e
noncomputable def JO (b d1 d2 d3:Addr)(ws:List (Str×Addr×Nat)):List Addr:=b::d1::d2::d3::ws.map (·.2.1)
structure LivesAt (C:Addr)(H:Hp)(b:Addr)(bs ds:List (Str×Int))(R:List Addr):Prop where
  ex:∃ d1 d2 d3 ws,Book C H b d1 d2 d3 bs ds ws/\ws.map (·.1)=bs.map (·.1)/\(∀ p∈ws,p.2.2=nk bs p.1)/\R=JO b d1 d2 d3 ws
  wf:Wf bs ds
theorem LivesAt.live {C:Addr}{H:Hp}{b:Addr}{bs ds:List (Str×Int)}{R:List Addr}(L:LivesAt C H b bs ds R):Zff H R:=by
  obtain⟨d1,d2,d3,ws,B,_,_,rfl⟩:=L.ex;obtain⟨dx,hb⟩:=B.obj;intro a ha;rcases List.mem_cons.mp ha with rfl|ha
  . exact⟨_,hb⟩
  rcases List.mem_cons.mp ha with rfl|ha
  . exact⟨_,B.h1⟩
  rcases List.mem_cons.mp ha with rfl|ha
  . exact⟨_,B.h2⟩
  rcases List.mem_cons.mp ha with rfl|ha
  . exact⟨_,B.h3⟩
  obtain⟨p,hp,rfl⟩:=List.mem_map.mp ha;exact⟨_,B.kids p hp⟩
theorem LivesAt.mv {C:Addr}{H H':Hp}{b:Addr}{bs ds:List (Str×Int)}{R:List Addr}(L:LivesAt C H b bs ds R)(h:∀ a∈R,∀ o,H a=some o->H' a=some o):LivesAt C H' b bs ds R:=by
  obtain⟨d1,d2,d3,ws,B,k1,k2,rfl⟩:=L.ex;obtain⟨dx,hb⟩:=B.obj;refine⟨⟨d1,d2,d3,ws,⟨⟨dx,h _ ?_ _ hb⟩,h _ ?_ _ B.h1,h _ ?_ _ B.h2,h _ ?_ _ B.h3,B.n12,B.n13,B.n23,λ p hp=>h _ ?_ _ (B.kids p hp),B.nod⟩,k1,k2,rfl⟩,L.wf⟩
  all_goals unfold JO
  . simp
  . simp
  . simp
  . simp
  . exact mem_cons_of_mem _ (mem_cons_of_mem _ (mem_cons_of_mem _ (mem_cons_of_mem _ (List.mem_map.mpr ⟨p,hp,rfl⟩))))
theorem LivesAt.same {C:Addr}{H H':Hp}{b:Addr}{bs ds:List (Str×Int)}{R:List Addr}(L:LivesAt C H b bs ds R)(s:Zp H H'):LivesAt C H' b bs ds R:=L.mv λ a _ o e=>s a o e
noncomputable def Xb (m c e1 e2 e3:Addr):List Addr:=[m,c,e1,e2,e3]
structure MdlAt (H:Hp)(m:Addr)(y:Int)(bs ds cs:List (Str×Int))(R:List Addr):Prop where
  ex:∃ c e1 e2 e3,Mdl H m c e1 e2 e3 y bs ds cs/\R=Xb m c e1 e2 e3
theorem MdlAt.live {H:Hp}{m:Addr}{y:Int}{bs ds cs:List (Str×Int)}{R:List Addr}(L:MdlAt H m y bs ds cs R):Zff H R:=by
  obtain⟨c,e1,e2,e3,B,rfl⟩:=L.ex;intro a ha;rcases List.mem_cons.mp ha with rfl|ha
  . exact⟨_,B.tup⟩
  rcases List.mem_cons.mp ha with rfl|ha
  . exact⟨_,B.clk⟩
  rcases List.mem_cons.mp ha with rfl|ha
  . exact⟨_,B.h1⟩
  rcases List.mem_cons.mp ha with rfl|ha
  . exact⟨_,B.h2⟩
  rw[List.mem_singleton.mp ha];exact⟨_,B.h3⟩
theorem MdlAt.mv {H H':Hp}{m:Addr}{y:Int}{bs ds cs:List (Str×Int)}{R:List Addr}(L:MdlAt H m y bs ds cs R)(h:∀ a∈R,∀ o,H a=some o->H' a=some o):MdlAt H' m y bs ds cs R:=by
 obtain⟨c,e1,e2,e3,B,rfl⟩:=L.ex;exact⟨c,e1,e2,e3,⟨h _ (by simp[Xb]) _ B.tup,h _ (by simp[Xb]) _ B.clk,h _ (by simp[Xb]) _ B.h1,h _ (by simp[Xb]) _ B.h2,h _ (by simp[Xb]) _ B.h3,B.n12,B.n13,B.n23⟩,rfl⟩
theorem MdlAt.same {H H':Hp}{m:Addr}{y:Int}{bs ds cs:List (Str×Int)}{R:List Addr}(L:MdlAt H m y bs ds cs R)(s:Zp H H'):MdlAt H' m y bs ds cs R:=L.mv λ a _ o e=>s a o e
theorem MdlAt.keep {H H':Hp}{m:Addr}{y:Int}{bs ds cs:List (Str×Int)}{R X:List Addr}(L:MdlAt H m y bs ds cs R)(k:ZS X H H')(d:Dj R X):MdlAt H' m y bs ds cs R:=L.mv λ a ha o e=>k.1 a o (d a ha) e
end L2
namespace L2
open PySem PySem.Spec
set_option genInjectivity false in
set_option genSizeOfSpec false in
structure Ga where
  LandError:Addr:=0
  NoText:Addr:=0
  OutOfBound:Addr:=0
  Taken:Addr:=0
  NoPerson:Addr:=0
  Gone:Addr:=0
  TooDeep:Addr:=0
  Lives:Addr:=0
  World:Addr:=0
  BARRED:Addr:=0
  NOUGHT:Addr:=0
  LONGEST_WORD:Tok:=0
  LONGEST_NUMBER:Tok:=0
  MOST_NUMBERS:Tok:=0
  LAST_FIRST_YEAR:Tok:=0
  MOST_YEARS:Tok:=0
  OLDEST:Tok:=0
theorem Jh {X:Cx}:YU (CXR X.prog X.w X.base) X (λ _ _ _=>False):=λ _ _ _ _ _ _ _ h=>by
 obtain⟨_,_,_,_,_,_,_,_,_,_,_,_,_,_,q⟩:=h;exact q.elim
structure Dk (P:Program)(w:World)(K:Frag)(mg:Str->Option Value)(base:Heap)(CX:CXT)(C:Addr)(k:Nat)(x:Str)(ps:List Str)(sp:Sp):Prop where
  mgx:mg x=some (.ref C)
  ex:∃ f fd,FnOk P w K mg base CX k f fd ps sp/\Mk K C f/\X2 K fd ps []
noncomputable def tMk (C:Addr)(sp:Sp)(E:XK)(t:TA):TE:=λ σ H Q=>t σ H λ vs H1=>∀ x dx,H1 x=none->H1 dx=none->dx≠x ->
 sp (.ref x::vs) (upd (upd H1 dx (.own x)) x (.ins C dx [])) (λ v H2=>v = .non/\Q (.ref x) H2) E
theorem Zg1 {C:Addr}{sp:Sp}{E:XK}{t:TA}:ZfL C sp [] E t=tMk C sp E t:=by
 funext σ H Q;unfold ZfL tMk;simp only[append_nil]
theorem pe_mk {X:Cx}{CX:CXT}{k:Nat}{C:Addr}{x:Str}{ps:List Str}{sp:Sp}{E:XK}{e:Expr}{es:List Expr}{p pos:Pos}{t:TA}(hx:YU CX X E)(D:Dk X.prog X.w X.K X.mg X.base CX C k x ps sp)(hr:Room (k+1) X.A)(hg:Gl X x)(ha:PA X (e::es) t)(hdb:(x == ("__debug__":Str))=false:=by decide)(he:starEach (e::es) X.env=(false,eval e X.env)::starEach es X.env:=by rfl)(hpl:(backTo pos (starEach es X.env)).any (·.1)=false:=by rfl) :
    PE X (.Call (.Name x p) (e::es) [] pos) (tMk C sp E t):=by
  obtain⟨f,fd,F,M,hb⟩:=D.ex;rw[<- Zg1];exact Ziw M F hr hg D.mgx hb .nil hx ha hdb he hpl
theorem pe_mk0 {X:Cx}{CX:CXT}{k:Nat}{C:Addr}{x:Str}{ps:List Str}{sp:Sp}{E:XK}{p pos:Pos}(hx:YU CX X E)(D:Dk X.prog X.w X.K X.mg X.base CX C k x ps sp)(hr:Room (k+1) X.A)(hg:Gl X x)(hdb:(x == ("__debug__":Str))=false:=by decide):PE X (.Call (.Name x p) [] [] pos) (tMk C sp E tNil):=by
 obtain⟨f,fd,F,M,hb⟩:=D.ex;rw[<- Zg1];exact Zhi M F hr hg D.mgx hb .nil hx hdb
end L2
namespace L2
open PySem PySem.Spec PyProof.Rows
section
variable {X:Cx}
noncomputable def Zhg (K:Frag):List V->Hp->VK->Prop:=λ xs H Q=>∃ p ys,xs=[.ref p]/\(SqL K H p ys\/SqT K H p ys)/\∀ l,H l=none->Q (.ref l) (upd H l (.lst ys))
theorem ZfE:X1 X (.type "list") (Zhg X.K):=Zex
end
end L2
namespace L2
open PySem PySem.Spec PyProof.Rows
theorem Zhw (ws:List (Str×Addr×Nat))(n:Str):(bump ws n).map (·.1)=ws.map (·.1):=by
 unfold bump;rw[map_map];refine map_congr_left λ p _=>?_;show(if p.1=n then (p.1,p.2.1,p.2.2+1) else p).1=p.1;split <;> rfl
theorem Zh5 {ws:List (Str×Addr×Nat)}{bs:List (Str×Int)}{n:Str}(k1:ws.map (·.1)=bs.map (·.1))(k2:∀ p∈ws,p.2.2=nk bs p.1)(h:has bs n=true):∃ a,bro ws n=some (a,nk bs n):=by
  have hm:n∈ws.map (·.1):=by rw[k1];exact(Yl bs n).mp h
  unfold bro;obtain⟨p,hp,e⟩:=List.mem_map.mp hm;have z:(ws.find? λ p=>decide (p.1=n)).isSome=true:=List.find?_isSome.mpr ⟨p,hp,decide_eq_true e⟩;cases q:ws.find? (λ p=>decide (p.1=n)) with
  |none=>rw[q]at z;cases z
  |some r=>
    have r0:decide (r.1=n)=true:=List.find?_some (p:=λ p:Str×Addr×Nat=>decide (p.1=n)) q;have r1:=of_decide_eq_true r0;have r2:=k2 r (List.mem_of_find?_eq_some q);refine⟨r.2.1,?_⟩;rw[<- r1,<- r2];rfl
theorem Zhr {ws:List (Str×Addr×Nat)}{bs:List (Str×Int)}{n:Str}(k1:ws.map (·.1)=bs.map (·.1))(h:has bs n=false):Z7 (brs ws) (Sum.inr n:Key)=none:=by
  rw[Zcf];unfold bro;have z:ws.find? (λ p=>decide (p.1=n))=none:=by
    rw[List.find?_eq_none];intro p hp e;exact(Zes bs n).mp h (by rw[<- k1];exact List.mem_map.mpr ⟨p,hp,of_decide_eq_true e⟩)
  rw[z];rfl
theorem Ze7 {ws:List (Str×Addr×Nat)}{bs ds:List (Str×Int)}{w:Str}{y:Int}{l:Addr}(W:Wf bs ds)(k1:ws.map (·.1)=bs.map (·.1))(k2:∀ p∈ws,p.2.2=nk bs p.1)(hw:gw w=true)(h:has bs w=false) :
    (ws++[(w,l,0)]:List (Str×Addr×Nat)).map (λ p=>p.1)=(bs++[(w,y)]).map (λ p=>p.1)/\∀ p∈ws++[(w,l,0)],p.2.2=nk (bs++[(w,y)]) p.1:=by
  refine⟨by rw[map_append,map_append,k1];rfl,λ p hp=>?_⟩;rw[Zej hw];rcases List.mem_append.mp hp with hp|hp
  . exact k2 p hp
  . rw[List.mem_singleton.mp hp];exact(W.nk_none h).symm
theorem Ze8 {ws:List (Str×Addr×Nat)}{bs ds:List (Str×Int)}{n:Str}{y:Int}{l:Addr}(W:Wf bs ds)(k1:ws.map (·.1)=bs.map (·.1))(k2:∀ p∈ws,p.2.2=nk bs p.1)(hn:has bs n=true)(hl:bs.length<900) :
    (bump ws n++[(kid n (nk bs n),l,0)]:List (Str×Addr×Nat)).map (λ p=>p.1)=(bs++[(kid n (nk bs n),y)]).map (λ p=>p.1)/\∀ p∈bump ws n++[(kid n (nk bs n),l,0)],p.2.2=nk (bs++[(kid n (nk bs n),y)]) p.1:=by
  refine⟨by rw[map_append,map_append,Zhw,k1];rfl,λ p hp=>?_⟩;rw[Zek W hl];rcases List.mem_append.mp hp with hp|hp
  . unfold bump at hp;obtain⟨q,hq,rfl⟩:=List.mem_map.mp hp;have z:=k2 q hq
    by_cases e:q.1=n
    . rw[if_pos e,if_pos e];show q.2.2+1=_;rw[z,e]
    . rw[if_neg e,if_neg e];exact z
  . rw[List.mem_singleton.mp hp];have ne:¬ kid n (nk bs n)=n:=λ e=>by
      have z:=W.no_kid n;rw[e,hn]at z;cases z
    rw[if_neg ne];exact(W.nk_none (W.no_kid n)).symm
theorem J9 {b d1 d2 d3:Addr}{ws:List (Str×Addr×Nat)}:b∈JO b d1 d2 d3 ws/\d1∈JO b d1 d2 d3 ws/\d2∈JO b d1 d2 d3 ws/\d3∈JO b d1 d2 d3 ws/\∀ p∈ws,p.2.1∈JO b d1 d2 d3 ws:=
 ⟨by simp[JO],by simp[JO],by simp[JO],by simp[JO],λ p hp=>mem_cons_of_mem _ (mem_cons_of_mem _ (mem_cons_of_mem _ (mem_cons_of_mem _ (List.mem_map.mpr ⟨p,hp,rfl⟩))))⟩
theorem ZdE {H:Hp}{b d1 d2 d3 l:Addr}{ws ws':List (Str×Addr×Nat)}{x:Str}(h:ws'.map (·.2.1)=ws.map (·.2.1))(hl:H l=none):JX H (JO b d1 d2 d3 ws) (JO b d1 d2 d3 (ws'++[(x,l,0)])):=by
  intro a ha;unfold JO at ha ⊢;rw[map_append,h]at ha;simp only[mem_cons,mem_append,map_cons,map_nil,not_mem_nil,or_false]at ha ⊢;rcases ha with rfl|rfl|rfl|rfl|ha|rfl
  . exact .inl (.inl rfl)
  . exact .inl (.inr (.inl rfl))
  . exact .inl (.inr (.inr (.inl rfl)))
  . exact .inl (.inr (.inr (.inr (.inl rfl))))
  . exact .inl (.inr (.inr (.inr (.inr ha))))
  . exact .inr hl
theorem ZS.wide {X Y:List Addr}{H H':Hp}(k:ZS X H H')(h:∀ a∈X,a∈Y):ZS Y H H':=⟨λ a o hn e=>k.1 a o (λ z=>hn (h a z)) e,k.2⟩
theorem YG {H:Hp}{a:Addr}{o:HO}:ZS [a] H (upd H a o):=⟨λ b u hn e=>by rw[Ze (λ z=>hn (by simp[z]))];exact e,λ b e=>by
  by_cases z:b=a
  . rw[z,Zb]at e;cases e
  . rw[Ze z]at e;exact e⟩
noncomputable def al (bs ds:List (Str×Int))(n:Str):Bool:=has bs n && !has ds n
end L2
set_option maxHeartbeats 0
namespace L2
open PySem PySem.Spec
theorem ZaF {names:List (Str×NameKind)}{cl:List (Str×Addr)}(h:names.all (λ p => !(p.2 == .cell || p.2 == .free) || (cl.map (·.1)).contains p.1)=true):∀ x,(names.lookup x=some .cell\/names.lookup x=some .free)->∃ c,cl.lookup x=some c:=by
  intro x hx;have key:∀ k,names.lookup x=some k->(k == NameKind.cell || k == NameKind.free)=true->∃ c,cl.lookup x=some c:=λ k e hk=>by
    have m:=PySem.mem_of_lookup e;have q:=List.all_eq_true.mp h _ m;simp only[hk,Bool.not_true,Bool.false_or]at q;have q':x∈cl.map (·.1):=by simpa using q
    clear q h m e
    induction cl with
    |nil=>simp at q'
    |cons p r ih=>
      obtain⟨y,c⟩:=p;rw[List.lookup_cons];cases z:x == y with
      |true=>exact⟨c,rfl⟩
      |false=>
        refine ih ?_;rcases List.mem_cons.mp (show x∈y::r.map (·.1) from q') with e|e
        . rw[e]at z;simp at z
        . exact e
  rcases hx with e|e
  . exact key _ e rfl
  . exact key _ e rfl
theorem Zg5 {σ:St}{H:Hp}{A B:Hp->Prop}(h:A H):tAll σ H (λ b H3=>if b=true then A H3 else B H3):=by
 show if true=true then A H else B H
 exact YB h
noncomputable def abc:Str:="abcdefghijklmnopqrstuvwxyz"
theorem Zhq {a b:Str}(ha:PyData.strOk a=true)(hb:PyData.strOk b=true):PyData.strOk (a++b)=true:=by
 unfold PyData.strOk at *;show(a.cps++b.cps).all _=true;rw[Array.all_append,ha,hb];rfl
theorem ZiF (a b:Str):(a++b).length=a.length+b.length:=by
 show(a.cps++b.cps).size=_;rw[Array.size_append];rfl
theorem Xz {X:Cx}{st:List Stmt}{t t':TS}(h:PSs X st t)(i:∀ D σ H,t' D σ H->t D σ H):PSs X st t':=⟨λ pins s σ H D I q=>h pins s σ H D I (i D σ H q)⟩
theorem Zgm (a x:Str):(a == x)=decide (x=a):=by
  by_cases h:x=a
  . subst h;rw[decide_eq_true rfl];exact beq_self_eq_true x
  . rw[decide_eq_false h];exact beq_eq_false_iff_ne.mpr λ z=>h z.symm
theorem ZI {n:Nat}(h:n<=500):n<=sizeLine:=le_of_lt (Zu (by omega))
theorem ts_tab:∀ k∈List.range 131,(Str.ofString (toString ((k:Nat):Int))).length<=4:=by decide +kernel
theorem Zfh {i:Int}(h0:0<=i)(h1:i<131):(Str.ofString (toString i)).length<=4:=by
 have:=ts_tab i.toNat (List.mem_range.mpr (by omega));rw[show((i.toNat:Nat):Int)=i by omega]at this;exact this
theorem J5 {i:Int}(h0:0<=i)(h1:i<131):i.natAbs.log2<1920:=by
 have:i.natAbs.log2<=i.natAbs:=Nat.log2_le_self _;omega
open PySem PySem.Spec
theorem abc_in {i:Int}(h0:0<=i)(h1:i<26):∃ c:Nat,atI abc.cps.toList i=some c/\inR 97 122 c=true:=by
 have hl:abc.cps.toList.length=26:=by decide +kernel
 have hi:i.toNat<abc.cps.toList.length:=by omega
 have e:atI abc.cps.toList ((i.toNat:Nat):Int)=some (abc.cps.toList[i.toNat]):=Xy (getElem?_eq_getElem hi);rw[show((i.toNat:Nat):Int)=i by omega]at e;refine⟨_,e,?_⟩;have a:abc.cps.toList.all (inR 97 122)=true:=by decide +kernel
 exact List.all_eq_true.mp a _ (getElem_mem hi)
end L2
namespace L2
open PySem PySem.Spec
inductive Deed where
  | arrive (w:Str) (a:Int)
  | birth (n:Str)
  | death (n:Str)
  | comes (w:Str)
  | years (k:Int)
noncomputable def Deed.vals:Deed->List V
  |.arrive w a=>[.str "arrive", .str w, .int a]
  |.birth n=>[.str "birth", .str n]
  |.death n=>[.str "death", .str n]
  |.comes w=>[.str "comes", .str w]
  |.years k=>[.str "years", .int k]
structure Mo where
  y:Int
  bs:List (Str×Int)
  ds:List (Str×Int)
  cs:List (Str×Int)
noncomputable def Mo.step (S:Mo):Deed->Mo
  |.arrive w a=>{ S with bs:=S.bs++[(w,S.y - a)] }
  |.birth n=>{ S with bs:=S.bs++[(kid n (nk S.bs n),S.y)] }
  |.death n=>{ S with ds:=S.ds++[(n,S.y)] }
  |.comes w=>{ S with cs:=S.cs++[(w,S.y)] }
  |.years k=>{ S with y:=S.y+k }
noncomputable def Mo.good (S:Mo)(far:Int):Deed->Prop
  |.arrive w a=>gw w=true/\has S.bs w=false/\0<=a/\a<=120
  |.birth n=>has S.bs n=true/\has S.ds n=false/\ZJ n<5
  |.death n=>has S.bs n=true/\has S.ds n=false
  |.comes w=>gw w=true/\has S.cs w=false
  |.years k=>1<=k/\k<=far
structure Mo.Ok (S:Mo)(k:Nat):Prop where
  wf:Wf S.bs S.ds
  cw:∀ w,has S.cs w=true->gw w=true
  lb:S.bs.length<=k
  ld:S.ds.length<=k
  lc:S.cs.length<=k
noncomputable def Yt (H:Hp)(m:Addr)(S:Mo)(R:List Addr):Prop:=MdlAt H m S.y S.bs S.ds S.cs R
theorem Yt.live {H:Hp}{m:Addr}{S:Mo}{R:List Addr}(L:Yt H m S R):Zff H R:=MdlAt.live L
theorem Yt.same {H H':Hp}{m:Addr}{S:Mo}{R:List Addr}(L:Yt H m S R)(s:Zp H H'):Yt H' m S R:=MdlAt.same L s
theorem Yt.keep {H H':Hp}{m:Addr}{S:Mo}{R X:List Addr}(L:Yt H m S R)(k:ZS X H H')(d:Dj R X):Yt H' m S R:=MdlAt.keep L k d
noncomputable def mo0 (y:Int):Mo:=⟨y,[],[],[]⟩
theorem Mo.Ok.zero (y:Int):(mo0 y).Ok 0:=⟨Wf.nil,(λ _ h=>Bool.noConfusion h),le_refl _,le_refl _,le_refl _⟩
theorem Mo.Ok.step {S:Mo}{k:Nat}{far:Int}{d:Deed}(O:S.Ok k)(h:S.good far d)(hk:k<98):(S.step d).Ok (k+1):=by
  have a:=O.lb;have b:=O.ld;have c:=O.lc;cases d with
  |arrive w a0=>exact⟨O.wf.arrive h.1 h.2.1 (by omega),O.cw,by show(S.bs++[_]).length<=_;rw[length_append,length_singleton];omega,by show S.ds.length<=_;omega,by show S.cs.length<=_;omega⟩
  |birth n=>exact⟨O.wf.birth h.1 h.2.2 (by omega) (by have:=O.wf.few n;omega),O.cw,by show(S.bs++[_]).length<=_;rw[length_append,length_singleton];omega,by show S.ds.length<=_;omega,by show S.cs.length<=_;omega⟩
  |death n=>exact⟨O.wf.death h.1,O.cw,by show S.bs.length<=_;omega,by show(S.ds++[_]).length<=_;rw[length_append,length_singleton];omega,by show S.cs.length<=_;omega⟩
  | comes w=>exact⟨O.wf,λ x hx=>by
      rw[show(S.step (.comes w)).cs=S.cs++[(w,S.y)] from rfl,ZQ,or_eq_true]at hx;rcases hx with e|e
      . exact O.cw x e
      . rw[<- of_decide_eq_true e];exact h.1,by show S.bs.length<=_;omega,by show S.ds.length<=_;omega,by show(S.cs++[_]).length<=_;rw[length_append,length_singleton];omega⟩
  |years k0=>exact⟨O.wf,O.cw,by show S.bs.length<=_;omega,by show S.ds.length<=_;omega,by show S.cs.length<=_;omega⟩
theorem Zep {a:V}{A B:Prop}(k:A):if decide (a=a)=true then A else B:=by rw[if_pos (decide_eq_true rfl)];exact k
theorem YC {a b:Str}{A B:Prop}(h:(a == b)=false)(k:B):if decide (V.str a=V.str b)=true then A else B:=by
  rw[if_neg]
  . exact k
  . intro e;have e':a=b:=by injection (of_decide_eq_true e)
    rw[e']at h;simp at h
theorem ifEqN {a:V}{A B:Prop}(k:B):if (!decide (a=a))=true then A else B:=by rw[decide_eq_true rfl];exact k
noncomputable def ZcY (bs ds:List (Str×Int)):List V:=(bs.filter λ p => !has ds p.1).map λ p=>V.str p.1
theorem ZiE {bs ds:List (Str×Int)}{i:Int}{v:V}(h:atI (ZcY bs ds) i=some v):∃ n,v = .str n/\has bs n=true/\has ds n=false:=by
  have hm:v∈ZcY bs ds:=by
    unfold atI at h;obtain⟨j,_,e⟩:=Option.bind_eq_some_iff.mp h;exact mem_of_getElem? e
  unfold ZcY at hm;obtain⟨p,hp,rfl⟩:=List.mem_map.mp hm;obtain⟨h1,h2⟩:=List.mem_filter.mp hp;exact⟨p.1,rfl,(Yl bs p.1).mpr (List.mem_map.mpr ⟨p,h1,rfl⟩),by simpa using h2⟩
structure DeedsAt (H:Hp)(l:Addr)(ds:List Deed)(ps:List Addr):Prop where
  lst:H l=some (.lst (ps.map V.ref))
  len:ps.length=ds.length
  at_:∀(i:Nat)(p:Addr)(d:Deed),ps[i]? = some p->ds[i]? = some d->H p=some (.tup d.vals)
theorem DeedsAt.mv {H H':Hp}{l:Addr}{ds:List Deed}{ps:List Addr}(D:DeedsAt H l ds ps)(h:∀ a∈l::ps,∀ o,H a=some o->H' a=some o):DeedsAt H' l ds ps:=
 ⟨h _ (by simp) _ D.lst,D.len,λ i p d e1 e2=>h _ (mem_cons_of_mem _ (mem_of_getElem? e1)) _ (D.at_ i p d e1 e2)⟩
theorem DeedsAt.keep {H H':Hp}{l:Addr}{ds:List Deed}{ps X:List Addr}(D:DeedsAt H l ds ps)(k:ZS X H H')(d:Dj (l::ps) X):DeedsAt H' l ds ps:=D.mv λ a ha o e=>k.1 a o (d a ha) e
theorem DeedsAt.live {H:Hp}{l:Addr}{ds:List Deed}{ps:List Addr}(D:DeedsAt H l ds ps):Zff H (l::ps):=λ a ha=>by
  rcases List.mem_cons.mp ha with rfl|ha
  . exact⟨_,D.lst⟩
  . obtain⟨i,hi⟩:=List.mem_iff_getElem?.mp ha;have:i<ds.length:=by rw[<- D.len];exact(List.getElem?_eq_some_iff.mp hi).1
    exact⟨_,D.at_ i a _ hi (getElem?_eq_getElem this)⟩
open PySem PySem.Spec
section
variable {H:Hp}{m c e1 e2 e3 p:Addr}{y:Int}{bs ds cs:List (Str×Int)}{R:List Addr}{xs:List V}
theorem Mdl.put1 {bs':List (Str×Int)}(B:Mdl H m c e1 e2 e3 y bs ds cs)(eR:R=Xb m c e1 e2 e3)(hp:H p=some (.tup xs)) :
    upd H e1 (.dK (yrs bs')) p=some (.tup xs)/\ZS R H (upd H e1 (.dK (yrs bs')))/\MdlAt (upd H e1 (.dK (yrs bs'))) m y bs' ds cs R:=
  ⟨by rw[Ze (ZB hp B.h1 (λ z=>by cases z))];exact hp,YG.wide (λ a ha=>by rw[List.mem_singleton.mp ha,eR];simp[Xb]),⟨c,e1,e2,e3,⟨by rw[Ze (ZB B.tup B.h1 (λ z=>by cases z))];exact B.tup,by rw[Ze (ZB B.clk B.h1 (λ z=>by cases z))];exact B.clk,Zb,by rw[Ze (Ne.symm B.n12)];exact B.h2,by rw[Ze (Ne.symm B.n13)];exact B.h3,B.n12,B.n13,B.n23⟩,eR⟩⟩
theorem Mdl.put2 {ds':List (Str×Int)}(B:Mdl H m c e1 e2 e3 y bs ds cs)(eR:R=Xb m c e1 e2 e3)(hp:H p=some (.tup xs)) :
    upd H e2 (.dK (yrs ds')) p=some (.tup xs)/\ZS R H (upd H e2 (.dK (yrs ds')))/\MdlAt (upd H e2 (.dK (yrs ds'))) m y bs ds' cs R:=
  ⟨by rw[Ze (ZB hp B.h2 (λ z=>by cases z))];exact hp,YG.wide (λ a ha=>by rw[List.mem_singleton.mp ha,eR];simp[Xb]),⟨c,e1,e2,e3,⟨by rw[Ze (ZB B.tup B.h2 (λ z=>by cases z))];exact B.tup,by rw[Ze (ZB B.clk B.h2 (λ z=>by cases z))];exact B.clk,by rw[Ze B.n12];exact B.h1,Zb,by rw[Ze (Ne.symm B.n23)];exact B.h3,B.n12,B.n13,B.n23⟩,eR⟩⟩
theorem Mdl.put3 {cs':List (Str×Int)}(B:Mdl H m c e1 e2 e3 y bs ds cs)(eR:R=Xb m c e1 e2 e3)(hp:H p=some (.tup xs)) :
    upd H e3 (.dK (yrs cs')) p=some (.tup xs)/\ZS R H (upd H e3 (.dK (yrs cs')))/\MdlAt (upd H e3 (.dK (yrs cs'))) m y bs ds cs' R:=
  ⟨by rw[Ze (ZB hp B.h3 (λ z=>by cases z))];exact hp,YG.wide (λ a ha=>by rw[List.mem_singleton.mp ha,eR];simp[Xb]),⟨c,e1,e2,e3,⟨by rw[Ze (ZB B.tup B.h3 (λ z=>by cases z))];exact B.tup,by rw[Ze (ZB B.clk B.h3 (λ z=>by cases z))];exact B.clk,by rw[Ze B.n13];exact B.h1,by rw[Ze B.n23];exact B.h2,Zb,B.n12,B.n13,B.n23⟩,eR⟩⟩
end
end L2
namespace L2
open PySem PySem.Spec
theorem pok_ok {x:Str}(h:pok x=true):PyData.strOk x=true:=by
  have hp:∀ p∈pcs x,PyData.strOk p=true:=λ p hp=>by
    unfold pok at h;simp only[and_eq_true]at h;rw[YQ]at hp;rcases List.mem_cons.mp hp with rfl|hp
    . exact gw_ok h.1.1
    . have z:=List.all_eq_true.mp h.2 p hp;unfold gn at z;simp only[and_eq_true]at z;unfold PyData.strOk;rw[Array.all_eq_true_iff_forall_mem];intro c hc;have z2:=List.all_eq_true.mp z.1.2 c (by simpa using hc);simp[inR]at z2;simp;omega
  have key:∀ l:List Str,(∀ p∈l,PyData.strOk p=true)->PyData.strOk (Str.join dot l)=true:=by
    intro l
    induction l with
    |nil=>intro _;decide +kernel
    |cons a r ih=>
      intro hl;cases r with
      |nil=>exact hl a (by simp)
      |cons b r'=>
        show PyData.strOk (a++dot++Str.join dot (b::r'))=true;exact Zhq (Zhq (hl a (by simp)) (by decide +kernel)) (ih (λ p hp=>hl p (mem_cons_of_mem _ hp)))
  rw[<- Ys x];exact key _ hp
theorem Wf.ok {bs ds:List (Str×Int)}(W:Wf bs ds){n:Str}(h:has bs n=true):PyData.strOk n=true:=pok_ok (W.wrt n h)
noncomputable def Ji (bs:List (Str×Int)):List Str:=bs.map (·.1)
noncomputable def Zbv (n:Str)(c:Nat):List Str:=(List.range c).map λ i=>kid n i
theorem kidVL (n:Str)(c:Nat):Y2 n c=(Zbv n c).map V.str:=by unfold Y2 Zbv;rw[map_map];rfl
theorem ZgW {κ:Type}[DecidableEq κ](kvs:List (κ×V))(k:κ):(Z7 kvs k).isSome=true↔k∈kvs.map (·.1):=by
  unfold Z7;rw[isSome_map,List.find?_isSome,mem_map];constructor
  . rintro⟨p,hp,e⟩;exact⟨p,hp,of_decide_eq_true e⟩
  . rintro⟨p,hp,e⟩;exact⟨p,hp,decide_eq_true e⟩
theorem pick4 {z:Str}(hz:gw z=true){i:Int}(h0:0<=i)(h1:i<4):∃ y:Str,atI [V.str "war",V.str "flood",V.str "a",V.str z] i=some (.str y)/\gw y=true:=by
  rcases(show i=0\/i=1\/i=2\/i=3 by omega) with rfl|rfl|rfl|rfl
  . exact⟨_,rfl,by decide +kernel⟩
  . exact⟨_,rfl,by decide +kernel⟩
  . exact⟨_,rfl,by decide +kernel⟩
  . exact⟨_,rfl,hz⟩
theorem atI_in {xs:List V}{i:Int}(h0:0<=i)(h1:i<xs.length):∃ v,atI xs i=some v:=by
 have gi:i.toNat<xs.length:=by omega
 have e:atI xs ((i.toNat:Nat):Int)=some (xs[i.toNat]):=Xy (getElem?_eq_getElem gi);rw[show((i.toNat:Nat):Int)=i by omega]at e;exact⟨_,e⟩
theorem LivesAt.no_tup {C:Addr}{H:Hp}{b p:Addr}{bs ds:List (Str×Int)}{R:List Addr}{xs:List V}(L:LivesAt C H b bs ds R)(hp:H p=some (.tup xs)):p∉R:=by
  obtain⟨d1,d2,d3,ws,B,_,_,rfl⟩:=L.ex;obtain⟨dx,hb⟩:=B.obj;intro ha;rcases List.mem_cons.mp ha with rfl|ha
  . rw[hb]at hp;cases hp
  rcases List.mem_cons.mp ha with rfl|ha
  . rw[B.h1]at hp;cases hp
  rcases List.mem_cons.mp ha with rfl|ha
  . rw[B.h2]at hp;cases hp
  rcases List.mem_cons.mp ha with rfl|ha
  . rw[B.h3]at hp;cases hp
  obtain⟨q,hq,rfl⟩:=List.mem_map.mp ha;rw[B.kids q hq]at hp;cases hp
theorem Yt.tup_of {H:Hp}{m:Addr}{S:Mo}{R:List Addr}(M:Yt H m S R):∃ c e1 e2 e3,Mdl H m c e1 e2 e3 S.y S.bs S.ds S.cs:=by
 obtain⟨c,e1,e2,e3,B,_⟩:=MdlAt.ex M;exact⟨c,e1,e2,e3,B⟩
theorem DeedsAt.push {H H':Hp}{l p:Addr}{ds:List Deed}{ps:List Addr}{d:Deed}(D:DeedsAt H l ds ps)(s:Zp H H')(hp:H' p=some (.tup d.vals)):DeedsAt (upd H' l (.lst (ps.map V.ref++[V.ref p]))) l (ds++[d]) (ps++[p]):=by
  have hl:=s _ _ D.lst;refine⟨by rw[Zb,map_append];rfl,by simp[D.len],λ i q e h1 h2=>?_⟩;have key:H' q=some (.tup e.vals):=by
    by_cases hi:i<ps.length
    . rw[getElem?_append_left hi]at h1;rw[getElem?_append_left (by rw[<- D.len];exact hi)]at h2;exact s _ _ (D.at_ i q e h1 h2)
    . rw[getElem?_append_right (by omega)]at h1;rw[getElem?_append_right (by rw[<- D.len];omega),<- D.len]at h2;have h3:=(List.getElem?_eq_some_iff.mp h1).1;simp at h3;rw[show i - ps.length=0 by omega]at h1 h2;simp at h1 h2;rw[<- h1,<- h2];exact hp
  rw[Ze (ZB key hl (λ z=>by cases z))];exact key
structure First (was:List (Str×Int)):Prop where
  nod:(was.map (·.1)).Nodup
  len:was.length<=3
  ok:∀ p∈was,gw p.1=true/\0<=p.2/\p.2<=120
noncomputable def arr (p:Str×Int):Deed:=.arrive p.1 p.2
noncomputable def ZeB (was:List (Str×Int)):List (Key×V):=was.map λ p=>((Sum.inr p.1:Key),V.bl true)
theorem ZeA (was:List (Str×Int))(w:Str):(Z7 (ZeB was) (Sum.inr w:Key)).isSome=decide (w∈was.map (·.1)):=by
  rw[Bool.eq_iff_iff,ZgW,decide_eq_true_iff];unfold ZeB;rw[map_map,mem_map,mem_map];constructor
  . rintro⟨p,hp,e⟩;exact⟨p,hp,by simpa using e⟩
  . rintro⟨p,hp,e⟩;exact⟨p,hp,by simpa using e⟩
open PySem PySem.Spec
theorem ZiH {bs:List (Str×Int)}{i:Nat}{v:V}(h:((Ji bs).map V.str)[i]? = some v):∃ n,v = .str n/\has bs n=true:=by
 have hm:=mem_of_getElem? h;obtain⟨n,hn,rfl⟩:=List.mem_map.mp hm;exact⟨n,rfl,(Yl bs n).mpr hn⟩
theorem keysK (bs:List (Str×Int)):(yrs bs).map (λ p=>kV p.1)=(Ji bs).map V.str:=by
 unfold yrs Ji;rw[map_map,map_map];rfl
open PySem PySem.Spec
section
variable {H H2:Hp}{x dx C:Addr}
theorem ZdA {a:Addr}(h:upd (upd H dx (.own x)) x (.ins C dx []) a=none):H a=none:=by
 have n1:a≠x:=λ e=>by rw[e,Zb]at h;cases h
 rw[Ze n1]at h;have n2:a≠dx:=λ e=>by rw[e,Zb]at h;cases h
 rw[Ze n2]at h;exact h
theorem made (nx:H x=none)(ndx:H dx=none)(kp:ZS [x] (upd (upd H dx (.own x)) x (.ins C dx [])) H2):Zp H H2:=λ b o e=>by
 have n1:b≠x:=Zm e nx;refine kp.1 b o (by simpa using n1) ?_;rw[Ze n1,Ze (Zm e ndx)];exact e
end
theorem Mo.Ok.mono {S:Mo}{k j:Nat}(O:S.Ok k)(h:k<=j):S.Ok j:=⟨O.wf,O.cw,le_trans O.lb h,le_trans O.ld h,le_trans O.lc h⟩
theorem First.good {was:List (Str×Int)}(F:First was){S:Mo}{i:Nat}(hi:i<was.length)(hS:S.bs.map (·.1)=(was.take i).map (·.1)){far:Int}:S.good far (arr was[i])/\(S.step (arr was[i])).bs.map (·.1)=(was.take (i+1)).map (·.1):=by
  have hm:=getElem_mem hi;obtain⟨h1,h2,h3⟩:=F.ok _ hm;refine⟨⟨h1,?_,h2,h3⟩,?_⟩
  . rw[Zes,hS];intro z;obtain⟨p,hp,e⟩:=List.mem_map.mp z;have hnd:=F.nod;obtain⟨j,hj,e2⟩:=List.mem_iff_getElem.mp hp;have hj1:j<i:=by rw[length_take]at hj;omega
    rw[List.getElem_take]at e2;have key:(was.map (·.1))[j]'(by rw[length_map];omega)=(was.map (·.1))[i]'(by rw[length_map];omega):=by
      rw[List.getElem_map,List.getElem_map,e2];exact e
    exact(List.pairwise_iff_getElem.mp hnd) j i (by rw[length_map];omega) (by rw[length_map];omega) hj1 key
  . show(S.bs++[_]).map _=_;rw[map_append,hS,take_succ,getElem?_eq_getElem hi,map_append];rfl
open PySem PySem.Spec
theorem LivesAt.obj {C:Addr}{H:Hp}{b:Addr}{bs ds:List (Str×Int)}{R:List Addr}(L:LivesAt C H b bs ds R):∃ dx d1 d2 d3,H b=some (.ins C dx [("births", .ref d1),("deaths", .ref d2),("broods", .ref d3)]):=by
 obtain⟨d1,d2,d3,ws,B,_⟩:=L.ex;obtain⟨dx,hb⟩:=B.obj;exact⟨dx,d1,d2,d3,hb⟩
theorem Mo.Ok.few {S:Mo}{k:Nat}(O:S.Ok k)(n:Str):nk S.bs n<=k:=le_trans (O.wf.few n) O.lb
end L2
namespace L2
open PySem PySem.Spec PyProof.Rows PySem.W
structure RoomU (k:Nat)(A:Around):Prop where
  dp:A.depth+3 * k+5<recursionLimit
  un:A.units+16 * k+200<cLine
section
variable {X:Cx}
noncomputable def del (H:Hp)(a:Addr):Hp:=λ b=>if b=a then none else H b
end
end L2
namespace L2
open PySem PySem.Spec
noncomputable def tThawS (d:Addr)(kvs:List (Key×V))(t:TS):TS:=λ D σ H=>H d=some (.dK kvs)/\t
  { nx:=λ σ2 H2=>∃ o,H2 d=some (.frz o (.dK kvs))/\D.nx σ2 (upd H2 d (.dK kvs)),rt:=λ v H2=>∃ o,H2 d=some (.frz o (.dK kvs))/\D.rt v (upd H2 d (.dK kvs)),
    bk:=λ σ2 H2=>∃ o,H2 d=some (.frz o (.dK kvs))/\D.bk σ2 (upd H2 d (.dK kvs)),ct:=λ σ2 H2=>∃ o,H2 d=some (.frz o (.dK kvs))/\D.ct σ2 (upd H2 d (.dK kvs)) } σ H
theorem Zip {X:Cx}{st:Stmt}{t:TS}{d:Addr}{kvs:List (Key×V)}(he:PS X st t):PS X st (tThawS d kvs t):=by
  refine⟨?_⟩;rintro pins s σ H D I ⟨hd,h⟩;have hn:∀ o' u',X.H₀ d≠some (.frz o' u'):=λ o' u' z=>by
    have q:=I.base.frzs d o' u' z;rw[hd]at q;cases q
  refine thn (he pins s σ H _ I h) λ f s' q=>?_;cases f with
  |next=>obtain⟨σ2,H2,I2,o,h2,q⟩:=q;exact⟨σ2,_,I2.thaw h2 hn,q⟩
  |brk=>obtain⟨σ2,H2,I2,o,h2,q⟩:=q;exact⟨σ2,_,I2.thaw h2 hn,q⟩
  |cont=>obtain⟨σ2,H2,I2,o,h2,q⟩:=q;exact⟨σ2,_,I2.thaw h2 hn,q⟩
  |ret u=>obtain⟨v,σ2,H2,I2,r,o,h2,q⟩:=q;exact⟨v,σ2,_,I2.thaw h2 hn,r,q⟩
theorem ZhU {d:Addr}{o:Obj}{kvs:List (Key×V)}{g:TG}{tb:TS}{D:Ends}{σ:St}{H:Hp}(Pv:Nat->St->Hp->Prop)(h0:Pv 0 σ H)(hl:∀ i σ H,i<=kvs.length->Pv i σ H->H d=some (.frz o (.dK kvs)))(hs:∀ i k v σ H,kvs[i]? = some (k,v)->Pv i σ H->g (kV k) σ H λ σ2 H2=>tb { D with nx:=Pv (i+1),ct:=Pv (i+1),bk:=D.nx } σ2 H2)(hd:∀ σ H,Pv kvs.length σ H->D.nx σ H) :
    ∃ W:Nat->Nat->St->Hp->Prop,(∃ m,W 0 m σ H)/\∀ i m σ H,W i m σ H ->
      ((Itd d o kvs).stop i H/\D.nx σ H)\/((Itd d o kvs).go i H/\∃ N:St->Hp->Prop,(∀ σ' H',N σ' H'->∃ m',m'<m/\W (i+1) m' σ' H')/\∀ x H',(Itd d o kvs).yld i H x H'->g x σ H' λ σ2 H2=>tb { D with nx:=N,ct:=N,bk:=D.nx } σ2 H2):=by
  refine⟨λ i m σ H=>m=kvs.length - i/\i<=kvs.length/\Pv i σ H,⟨kvs.length,by simp,zero_le _,h0⟩,?_⟩;rintro i m σ H ⟨rfl,hi,p⟩;have q:=hl i σ H hi p
  by_cases hlt:i<kvs.length
  . refine .inr ⟨⟨q,hlt⟩,Pv (i+1),λ σ' H' p'=>⟨kvs.length - (i+1),by omega,rfl,hlt,p'⟩,λ x H' y=>?_⟩;obtain⟨e,k,v,ek,ex⟩:=y;subst e ex;exact hs i k v σ _ ek p
  . have e:i=kvs.length:=by omega
    subst e;exact .inl ⟨⟨q,le_refl _⟩,hd σ H p⟩
end L2
namespace L2
open PySem PySem.Spec
inductive Er where
  | gone|none_|text|taken|deep|bound
deriving DecidableEq
noncomputable def Er.txt:Er->Str
  |.gone=>"gone"|.none_=>"none"|.text=>"text"|.taken=>"taken"|.deep=>"deep"|.bound=>"bound"
noncomputable def Er.ad (g:Ga):Er->Addr
  |.gone=>g.Gone|.none_=>g.NoPerson|.text=>g.NoText|.taken=>g.Taken|.deep=>g.TooDeep|.bound=>g.OutOfBound
noncomputable def askB (bs ds:List (Str×Int))(way n:Str):Option Er:=
 if way="arrive" then (if gw n=false then some .text else if has bs n=true then some .taken else none)
 else if has bs n=false then some .none_
 else if way="birth" then (if has ds n=true then some .gone else if 5<=ZJ n then some .deep else none)
 else if way="death" then (if has ds n=true then some .gone else none)
 else none
noncomputable def ways:List Str:=["arrive","birth","death","born","died","kids"]
theorem Er.ok (e:Er):PyData.strOk e.txt=true:=by cases e <;> decide +kernel
open PySem PySem.Spec
section
variable {bs ds:List (Str×Int)}{n:Str}{y:Int}
end
noncomputable abbrev Bad:=Str×Str×Er
structure BadsAt (H:Hp)(l:Addr)(its:List Bad)(ps:List Addr):Prop where
  lst:H l=some (.lst (ps.map V.ref))
  len:ps.length=its.length
  at_:∀(i:Nat)(p:Addr)(it:Bad),ps[i]? = some p->its[i]? = some it->∃ q,q≠l/\H p=some (.tup [.str it.1, .str it.2.1, .ref q])/\H q=some (.lst [.str it.2.2.txt])
noncomputable def Gd (S:Mo)(its:List Bad):Prop:=∀ it∈its,it.1∈ways/\it.2.1.length<=200/\askB S.bs S.ds it.1 it.2.1=some it.2.2
end L2
namespace L2
open PySem PySem.Spec
section
variable {K:Frag}{caps:List (Str×Nat)}{tt:TT}{te:TE}{σ:St}{H H1:Hp}{Q:VK}{a d:Addr}{xs:List V}{kvs:List (Key×V)}{o:Obj}
end
theorem yrs_at {bs:List (Str×Int)}{i:Nat}{k:Key}{v:V}(h:(yrs bs)[i]? = some (k,v)):∃ x,k=Sum.inr x/\has bs x=true:=by
  unfold yrs at h;rw[getElem?_map]at h;cases e:bs[i]? with
  |none=>rw[e]at h;cases h
  |some p=>
    rw[e]at h;cases h;exact⟨p.1,rfl,(Yl bs p.1).mpr (List.mem_map.mpr ⟨p,mem_of_getElem? e,rfl⟩)⟩
open PySem PySem.Spec
open PySem PySem.Spec
section
variable {K:Frag}{caps:List (Str×Nat)}{tl te:TE}{tt:TT}{σ:St}{H:Hp}{Q:VK}{d:Addr}{kvs:List (Key×V)}
end
end L2
namespace L2
open PySem PySem.Spec PySem.StrLaws
theorem cut_to (z:Str)(k:Nat):(Txt.slice z none (some (k:Int))).cps.toList=z.cps.toList.take k:=by
  have hz:z.cps.toList.length=z.length:=length_toList;have key:∀ j:Nat,j<=z.length->(Txt.slice z none (some (j:Int))).cps.toList=z.cps.toList.take j:=λ j hj=>by
    have q:=sliceText_to (x:=z) (j:=(j:Int)) ⟨by omega,by omega⟩;have e:Txt.slice z none (some (j:Int))=sliceText z none (some (j:Int)):=rfl;rw[e,q];simp
  by_cases h:k<=z.length
  . exact key k h
  . have e:Builtin.Str.strSliceIndices none (some (k:Int)) 1 z.length=Builtin.Str.strSliceIndices none (some ((z.length:Nat):Int)) 1 z.length:=by
      have a1:¬ ((k:Int)<0):=by omega
      have a2:¬ (((z.length:Nat):Int)<0):=by omega
      have a3:max (0:Int) (min (k:Int) ((z.length:Nat):Int))=((z.length:Nat):Int):=by omega
      have a4:max (0:Int) (min ((z.length:Nat):Int) ((z.length:Nat):Int))=((z.length:Nat):Int):=by omega
      simp only[Builtin.Str.strSliceIndices,if_neg a1,if_neg a2,a3,a4,show(1:Int)>0 from by decide,if_true]
    have e2:Txt.slice z none (some (k:Int))=Txt.slice z none (some ((z.length:Nat):Int)):=by
      unfold Txt.slice;rw[e]
    rw[e2,key z.length (le_refl _),<- hz,take_length,List.take_of_length_le (by omega)]
noncomputable def ZfF (S:Mo):Prop:=∃ w,has S.bs w=true/\46∉w.cps.toList
theorem ZfF.step {S:Mo}(h:ZfF S)(d:Deed):ZfF (S.step d):=by
  obtain⟨w,h1,h2⟩:=h;refine⟨w,?_,h2⟩;cases d with
  |arrive x a=>show has (S.bs++_) w=true;rw[ZQ,h1];rfl
  |birth x=>show has (S.bs++_) w=true;rw[ZQ,h1];rfl
  |death x=>exact h1
  |comes x=>exact h1
  |years x=>exact h1
theorem First.root {was:List (Str×Int)}(F:First was)(hne:was≠[]){S:Mo}{i:Nat}(hi:0<i)(hS:S.bs.map (·.1)=(was.take i).map (·.1)):ZfF S:=by
  cases was with
  |nil=>exact absurd rfl hne
  |cons p r=>
    refine⟨p.1,?_,Zcb (F.ok p (by simp)).1⟩;rw[Yl,hS];cases i with
    |zero=>exact absurd hi (lt_irrefl 0)
    |succ i=>simp
end L2
namespace L2
open PySem PySem.Spec PySem.StrLaws
theorem Zav {x:Str}(h:x.length≠0):(up x).length<x.length:=by
  unfold up;rcases last_spec x dot with ⟨e,_⟩|⟨i,e,z,_⟩
  . rw[e];show 0<x.length;omega
  . rw[e];show(Builtin.Str.strSub x 0 i).length<x.length;have hi:i<x.cps.toList.length:=(List.getElem?_eq_some_iff.mp ((at_iff x i).mp z)).1;have hl:x.cps.toList.length=x.length:=length_toList;have:(Builtin.Str.strSub x 0 i).length=(Builtin.Str.strSub x 0 i).cps.toList.length:=(length_toList).symm;rw[this,strSub_toList];simp;omega
theorem Yd (n:Str)(i:Nat):up (kid n i)=n:=by
  have hl:(kid n i).cps.toList=n.cps.toList++46::(toString ((i:Int)+1):Str).cps.toList:=by
    unfold kid;rw[Ym,Ym,ZbL,append_assoc];rfl
  unfold up;rcases last_spec (kid n i) dot with ⟨e,z⟩|⟨j,e,z,w⟩
  . exfalso;refine z n.cps.toList.length ((at_iff _ _).mpr ?_);rw[hl,getElem?_append_right (le_refl _)];simp
  . rw[e];have hj:=(at_iff _ _).mp z;have e0:j=n.cps.toList.length:=by
      rcases Nat.lt_trichotomy j n.cps.toList.length with h|h|h
      . exfalso;refine w n.cps.toList.length h ((at_iff _ _).mpr ?_);rw[hl,getElem?_append_right (le_refl _)];simp
      . exact h
      . exfalso;rw[hl,getElem?_append_right (by omega)]at hj;cases e2:j - n.cps.toList.length with
        |zero=>omega
        |succ k=>
          rw[e2,List.getElem?_cons_succ]at hj;exact X4 ((i:Int)+1) (mem_of_getElem? hj)
    show Builtin.Str.strSub (kid n i) 0 j=n;refine YW ?_;rw[strSub_toList,hl,e0];simp
noncomputable def nr (bs:List (Str×Int))(x:Str):Str:=if h:x.length=0 then Str.empty else if has bs x=true then x else nr bs (up x)
termination_by x.length
decreasing_by exact Zav h
theorem nr_nil (bs:List (Str×Int)):nr bs Str.empty=Str.empty:=by rw[nr];exact dif_pos rfl
theorem ZcT {bs:List (Str×Int)}{x:Str}(h0:x.length≠0)(h:has bs x=true):nr bs x=x:=by rw[nr,dif_neg h0,if_pos h]
theorem nr_up {bs:List (Str×Int)}{x:Str}(h0:x.length≠0)(h:has bs x=false):nr bs x=nr bs (up x):=by
 rw[nr,dif_neg h0,if_neg (by rw[h];decide)]
theorem len0 {x:Str}(h:x.length=0):x=Str.empty:=by
 refine YW ?_;have:x.cps.toList.length=0:=by rw[length_toList];exact h
 rw[List.length_eq_zero_iff.mp this];rfl
theorem Zbd (n:Str)(i:Nat):(kid n i).length≠0:=λ e=>by
 have h:=Zf2 n i;rw[len0 e]at h;cases h
theorem nr_kid {bs:List (Str×Int)}(n:Str)(i:Nat):nr bs (kid n i)=if has bs (kid n i)=true then kid n i else nr bs n:=by
  cases h:has bs (kid n i) with
  |true=>rw[ZcT (Zbd n i) h];rfl
  |false=>rw[nr_up (Zbd n i) h,Yd];rfl
end L2
namespace L2
open PySem PySem.Spec
section
variable {X:Cx}
end
structure WorldAt (g:Ga)(H:Hp)(w:Addr)(S:Mo)(R:List Addr):Prop where
  ex:∃ dx b hd RL,H w=some (.ins g.World dx [("year", .int S.y),("lives", .ref b),("happened", .ref hd)])/\LivesAt g.Lives H b S.bs S.ds RL/\H hd=some (.dK (yrs S.cs))/\R=w::hd::RL/\w∉RL/\hd∉RL
section
variable {g:Ga}{H H':Hp}{w:Addr}{S:Mo}{R X:List Addr}
theorem WorldAt.wf (W:WorldAt g H w S R):Wf S.bs S.ds:=by
 obtain⟨dx,b,hd,RL,h1,L,_⟩:=W.ex;exact L.wf
theorem WorldAt.live (W:WorldAt g H w S R):Zff H R:=by
  obtain⟨dx,b,hd,RL,h1,L,h3,rfl,_,_⟩:=W.ex;intro a ha;rcases List.mem_cons.mp ha with rfl|ha
  . exact⟨_,h1⟩
  rcases List.mem_cons.mp ha with rfl|ha
  . exact⟨_,h3⟩
  exact L.live a ha
theorem WorldAt.mv (W:WorldAt g H w S R)(h:∀ a∈R,∀ o,H a=some o->H' a=some o):WorldAt g H' w S R:=by
 obtain⟨dx,b,hd,RL,h1,L,h3,rfl,n1,n2⟩:=W.ex;exact⟨dx,b,hd,RL,h _ (by simp) _ h1,L.mv (λ a ha o e=>h a (mem_cons_of_mem _ (mem_cons_of_mem _ ha)) o e),h _ (by simp) _ h3,rfl,n1,n2⟩
theorem WorldAt.same (W:WorldAt g H w S R)(s:Zp H H'):WorldAt g H' w S R:=W.mv λ a _ o e=>s a o e
theorem WorldAt.keep (W:WorldAt g H w S R)(k:ZS X H H')(d:Dj R X):WorldAt g H' w S R:=W.mv λ a ha o e=>k.1 a o (d a ha) e
theorem WorldAt.no_tup {p:Addr}{xs:List V}(W:WorldAt g H w S R)(hp:H p=some (.tup xs)):p∉R:=by
  obtain⟨dx,b,hd,RL,h1,L,h3,rfl,n1,n2⟩:=W.ex;intro ha;rcases List.mem_cons.mp ha with rfl|ha
  . rw[h1]at hp;cases hp
  rcases List.mem_cons.mp ha with rfl|ha
  . rw[h3]at hp;cases hp
  exact L.no_tup hp ha
theorem WorldAt.book {dx b hd:Addr}{RL RL':List Addr}{bs' ds':List (Str×Int)}(h1:H w=some (.ins g.World dx [("year", .int S.y),("lives", .ref b),("happened", .ref hd)]))(h3:H hd=some (.dK (yrs S.cs)))(n1:w∉RL)(n2:hd∉RL)(k:ZS RL H H')(gr:JX H RL RL')(L':LivesAt g.Lives H' b bs' ds' RL'):WorldAt g H' w { S with bs:=bs',ds:=ds' } (w::hd::RL')/\ZS (w::hd::RL) H H'/\JX H (w::hd::RL) (w::hd::RL'):=by
  have f1:∀ a o,H a=some o->a∉RL->a∉RL':=λ a o e n z=>(gr a z).elim n λ q=>by rw[q]at e;cases e
  refine⟨⟨dx,b,hd,RL',k.1 _ _ n1 h1,L',k.1 _ _ n2 h3,rfl,f1 _ _ h1 n1,f1 _ _ h3 n2⟩,k.wide (λ a ha=>mem_cons_of_mem _ (mem_cons_of_mem _ ha)),λ a ha=>?_⟩;rcases List.mem_cons.mp ha with rfl|ha
  . exact .inl (by simp)
  rcases List.mem_cons.mp ha with rfl|ha
  . exact .inl (by simp)
  exact(gr a ha).imp (λ z=>mem_cons_of_mem _ (mem_cons_of_mem _ z)) id
end
open PySem PySem.Spec
section
variable {S:Mo}{k:Int}{x:Str}
end
noncomputable def Er.W (e:Er):Prop:=e = .bound\/e = .taken\/e = .text
end L2
namespace L2
open PySem PySem.Spec
inductive Atm where
  | year (y:Int)
  | comes (w:Str)
  | born (n:Str)
  | dead (n:Str)
  | age (n:Str) (a:Int)
noncomputable def Atm.vals:Atm->List V
  |.year y=>[.str "year", .int y]
  |.comes w=>[.str "comes", .str w]
  |.born n=>[.str "born", .str n]
  |.dead n=>[.str "dead", .str n]
  |.age n a=>[.str "age", .str n, .int a]
noncomputable def Atm.met (S:Mo):Atm->V
  |.year y => .int y
  |.comes w=>((yr S.cs w).map V.int).getD .non
  |.born n=>((yr S.bs n).map V.int).getD .non
  |.dead n=>((yr S.ds n).map V.int).getD .non
  |.age n a=>((yr S.bs n).map λ y=>V.int (y+a)).getD .non
section
variable {S:Mo}{t:Atm}{n:Str}
theorem Z9 {x:Str}(h:pok x=true):x.length≠0:=by
 intro e;obtain⟨c⟩:=x;obtain rfl:c = #[]:=Array.eq_empty_of_size_eq_zero e;exact absurd h (by decide +kernel)
end
end L2
namespace L2
open PySem PySem.Spec
noncomputable def fl (f:Nat->Bool)(n:Nat):List Nat:=(List.range n).filter f
theorem ZiS (f:Nat->Bool)(n:Nat):fl f (n+1)=fl f n++(if f n=true then [n] else []):=by
  unfold fl;rw[List.range_succ,filter_append];congr 1;cases e:f n with
  |true=>rw[filter_cons_of_pos e];rfl
  |false=>rw[filter_cons_of_neg (by rw[e];decide)];rfl
theorem fl_len (f:Nat->Bool)(n:Nat):(fl f n).length<=n:=by unfold fl;exact le_trans (length_filter_le _ _) (by rw[length_range];exact le_refl _)
theorem ZeN {α β:Type}{g:α->β}:∀ {l:List α} {m:List β},Paired (λ a b=>b=g a) l m->m=l.map g
  |_,_, .nil=>rfl
  |_,_, .cons r t=>by rw[r,ZeN t];rfl
noncomputable abbrev LCs (caps:List (Str×Nat))(J:It)(tt:TT)(te:TE)(σ:St)(H1:Hp)(Q:VK):Prop:=
    ∀ D,H1 D=none->∃ W:Nat->Nat->Hp->Prop,(∃ m,W 0 m (upd H1 D (.lst [])))/\∀ i m H2,W i m H2 ->
      (J.stop i H2/\Q (.ref D) H2)\/(J.go i H2/\∀ x H',J.yld i H2 x H'->tt (some x::Z1 caps σ) H' λ b H3=>
        if b=true then te (some x::Z1 caps σ) H3 λ v H4=>∃ ys m',H4 D=some (.lst ys)/\ys.length<sizeLine/\m'<m/\W (i+1) m' (upd H4 D (.lst (ys++[v])))
        else ∃ m',m'<m/\W (i+1) m' H3)
section
variable {K:Frag}{caps:List (Str×Nat)}{tt:TT}{tl te:TE}{σ:St}{H H1:Hp}{Q:VK}
theorem lcG {J:It}{n:Nat}(X:Nat->V)(hn:n<=900)(stop:∀ H,Zp H1 H->J.stop n H)(go:∀ i H,i<n->Zp H1 H->J.go i H/\∀ x H',J.yld i H x H'->H'=H/\x=X i)(f:Nat->Bool)(P:Nat->V->Hp->Prop)(mono:∀ i v H H' D ys,H D=some (.lst ys)->ZS [D] H H'->P i v H->P i v H')(step:∀ i H2,i<n->Zp H1 H2->∀ R:Bool->Hp->Prop,(∀ H3,Zp H2 H3->R (f i) H3)->tt (some (X i)::Z1 caps σ) H2 R)(elt:∀ i H2,i<n->f i=true->Zp H1 H2->∀ R:VK,(∀ v H3,Zp H2 H3->P i v H3->R v H3)->te (some (X i)::Z1 caps σ) H2 R)(q:∀ D ys H2,H1 D=none->Zp H1 H2->H2 D=some (.lst ys)->Paired (λ j v=>P j v H2) (fl f n) ys->Q (.ref D) H2) :
    LCs caps J tt te σ H1 Q:=by
  intro D hD;refine⟨λ i m H2=>i<=n/\m=n - i/\Zp H1 H2/\∃ ys,H2 D=some (.lst ys)/\Paired (λ j v=>P j v H2) (fl f i) ys,⟨n,zero_le _,rfl,Zi hD _,[],Zb, .nil⟩,?_⟩;rintro i m H2 ⟨hi,rfl,s2,ys,h2,hp⟩
  by_cases hlt:i<n
  . obtain⟨g1,g2⟩:=go i H2 hlt s2;refine .inr ⟨g1,λ x H' y=>?_⟩;obtain⟨rfl,rfl⟩:=g2 x H' y;refine step i _ hlt s2 _ λ H3 s3=>?_;have p3:=Paired.mapP hp λ j v h=>mono j v _ H3 D ys h2 (s3.kp.wide (λ _ h=>nomatch h)) h;have nx:=ZiS f i;cases e:f i with
    |false=>
      rw[e]at nx;exact⟨n - (i+1),by omega,hlt,rfl,s2.trans s3,ys,s3 _ _ h2,by rw[nx,if_neg (by decide),append_nil];exact p3⟩
    |true=>
      rw[e]at nx;show te _ H3 _;refine elt i _ hlt e (s2.trans s3) _ λ v H4 s4 hv=>?_;have h4:=s4 _ _ (s3 _ _ h2);have p4:=Paired.mapP p3 λ j v h=>mono j v _ H4 D ys (s3 _ _ h2) (s4.kp.wide (λ _ h=>nomatch h)) h;have yl:ys.length<=i:=by rw[<- hp.length];exact fl_len f i
      refine⟨ys,n - (i+1),h4,Zu (by omega),by omega,hlt,rfl,Z6 ((s2.trans s3).trans s4) hD,ys++[v],Zb,?_⟩;rw[nx,if_pos rfl];exact(Paired.mapP p4 λ j v h=>mono j v _ _ D ys h4 YG h).snoc (mono i v _ _ D ys h4 YG hv)
  . have e:i=n:=by omega
    subst e;exact .inl ⟨stop _ s2,q D ys H2 hD s2 h2 hp⟩
theorem lcL {a:Addr}{xs:List V}(hl:SqL K H1 a xs)(hn:xs.length<=900)(f:Nat->Bool)(P:Nat->V->Hp->Prop)(mono:∀ i v H H' D ys,H D=some (.lst ys)->ZS [D] H H'->P i v H->P i v H')(step:∀ i x H2,xs[i]? = some x->Zp H1 H2->∀ R:Bool->Hp->Prop,(∀ H3,Zp H2 H3->R (f i) H3)->tt (some x::Z1 caps σ) H2 R)(elt:∀ i x H2,xs[i]? = some x->f i=true->Zp H1 H2->∀ R:VK,(∀ v H3,Zp H2 H3->P i v H3->R v H3)->te (some x::Z1 caps σ) H2 R)(q:∀ D ys H2,H1 D=none->Zp H1 H2->H2 D=some (.lst ys)->Paired (λ j v=>P j v H2) (fl f xs.length) ys->Q (.ref D) H2):LCs caps (Itl K a) tt te σ H1 Q:=
  lcG (J:=Itl K a) (Q:=Q) (λ i=>xs[i]?.getD .non) hn (λ H s=>⟨xs,s.seq hl,le_refl _⟩)
    (λ i H h s=>⟨⟨xs,xs[i],s.seq hl,getElem?_eq_getElem h⟩,λ x H' y=>⟨y.1,by rw[y.2 xs (s.seq hl)];rfl⟩⟩) f P mono
    (λ i H2 hi s=>by
      have e:xs[i]? = some xs[i]:=getElem?_eq_getElem hi;show ∀ R,_->tt (some (xs[i]?.getD .non)::Z1 caps σ) H2 R;rw[e];exact step i _ H2 e s)
    (λ i H2 hi hf s=>by
      have e:xs[i]? = some xs[i]:=getElem?_eq_getElem hi;show ∀ R,_->te (some (xs[i]?.getD .non)::Z1 caps σ) H2 R;rw[e];exact elt i _ H2 e hf s) q
theorem lcLv {a:Addr}{xs:List V}(hl:SqL K H1 a xs)(hn:xs.length<=900)(f:Nat->Bool)(g:Nat->V)(step:∀ i x H2,xs[i]? = some x->Zp H1 H2->∀ R:Bool->Hp->Prop,(∀ H3,Zp H2 H3->R (f i) H3)->tt (some x::Z1 caps σ) H2 R)(elt:∀ i x H2,xs[i]? = some x->f i=true->Zp H1 H2->∀ R:VK,(∀ H3,Zp H2 H3->R (g i) H3)->te (some x::Z1 caps σ) H2 R)(q:∀ D H2,H1 D=none->Zp H1 H2->H2 D=some (.lst ((fl f xs.length).map g))->Q (.ref D) H2):LCs caps (Itl K a) tt te σ H1 Q:=
  lcL (Q:=Q) hl hn f (λ i v _=>v=g i) (λ _ _ _ _ _ _ _ _ h=>h) step (λ i x H2 hx hf s R r=>elt i x H2 hx hf s R λ H3 s3=>r _ H3 s3 rfl)
    (λ D ys H2 h1 s h2 hp=>q D H2 h1 s (by rw[<- ZeN hp];exact h2))
end
open PySem PySem.Spec
section
variable {K:Frag}{caps:List (Str×Nat)}{tt:TT}{tl te:TE}{ta:TA}{σ:St}{H:Hp}{Q:VK}
theorem lcLvT {xs:List V}(A:Addr->Hp->Prop)(htl:∀ R:VK,(∀ a H1,A a H1->R (.ref a) H1)->tl σ H R)(hA:∀ a H1,A a H1->SqL K H1 a xs)(hn:xs.length<=900)(f:Nat->Bool)(g:Nat->V)(step:∀ a H1 i x H2,A a H1->xs[i]? = some x->Zp H1 H2->∀ R:Bool->Hp->Prop,(∀ H3,Zp H2 H3->R (f i) H3)->tt (some x::Z1 caps σ) H2 R)(elt:∀ a H1 i x H2,A a H1->xs[i]? = some x->f i=true->Zp H1 H2->∀ R:VK,(∀ H3,Zp H2 H3->R (g i) H3)->te (some x::Z1 caps σ) H2 R)(q:∀ a H1 D H2,A a H1->H1 D=none->Zp H1 H2->H2 D=some (.lst ((fl f xs.length).map g))->Q (.ref D) H2):tLC caps (iList K tl) tt te σ H Q:=
 htl _ λ a H1 h=>⟨a,rfl,⟨xs,hA a H1 h⟩,lcLv (hA a H1 h) hn f g (λ i x H2=>step a H1 i x H2 h) (λ i x H2=>elt a H1 i x H2 h) (λ D H2=>q a H1 D H2 h)⟩
end
end L2
namespace L2
open PySem PySem.Spec
noncomputable def okN (S:Mo)(n:Str):Prop:=pok n=true/\nr S.bs n≠Str.empty
noncomputable def Atm.ok (S:Mo):Atm->Prop
  |.year y=>0<=y/\y<10000
  |.comes w=>gw w=true
  |.born n=>okN S n
  |.dead n=>okN S n
  |.age n a=>okN S n/\0<=a/\a<=120
section
variable {S:Mo}{t:Atm}{n:Str}
end
structure AtmsAt (H:Hp)(l:Addr)(ts:List Atm)(ps:List Addr):Prop where
  lst:H l=some (.lst (ps.map V.ref))
  len:ps.length=ts.length
  at_:∀(i:Nat)(p:Addr)(t:Atm),ps[i]? = some p->ts[i]? = some t->H p=some (.tup t.vals)
section
variable {H H':Hp}{l:Addr}{ts:List Atm}{ps X:List Addr}
end
open PySem PySem.Spec
open PySem PySem.Spec
noncomputable def Er.nm:Er->Str
  |.none_=>"person"|.text=>"text"|_=>""
open PySem PySem.Spec
theorem AtmsAt.cons {H:Hp}{l l' p:Addr}{t:Atm}{ts:List Atm}{ps:List Addr}(A:AtmsAt H l ts ps)(hp:H p=some (.tup t.vals))(hl:H l'=some (.lst ((p::ps).map V.ref))):AtmsAt H l' (t::ts) (p::ps):=
  ⟨hl,by rw[length_cons,length_cons,A.len],λ i q u e1 e2=>by
    cases i with
    |zero=>cases e1;cases e2;exact hp
    |succ i=>exact A.at_ i q u e1 e2⟩
theorem Zdy {w:Str}(h:gw w=true):46∉w.cps.toList:=λ hm=>by
 unfold gw at h;simp only[and_eq_true]at h;have z:=List.all_eq_true.mp h.1.2 46 hm;exact absurd z (by decide)
theorem ZfJ {w:Str}(h:gw w=true):up w=Str.empty:=by
  unfold up;rcases StrLaws.last_spec w dot with ⟨e,_⟩|⟨i,e,z,_⟩
  . rw[e]
  . exact absurd (mem_of_getElem? ((L2.at_iff w i).mp z)) (Zdy h)
theorem nr_gw {bs:List (Str×Int)}{w:Str}(h:gw w=true)(hk:has bs w=false):nr bs w=Str.empty:=by
 rw[nr_up (by have:=(Zet h).1;omega) hk,ZfJ h,nr_nil]
end L2
namespace L2
open PySem PySem.Spec
noncomputable def Atm.data:Atm->PyData
  |.year y => .tuple [.str "year", .int y]
  |.comes w => .tuple [.str "comes", .str w]
  |.born n => .tuple [.str "born", .str n]
  |.dead n => .tuple [.str "dead", .str n]
  |.age n a => .tuple [.str "age", .str n, .int a]
open PySem PySem.Spec
end L2
namespace L2
open PySem PySem.Spec
section
variable {K:Frag}{caps:List (Str×Nat)}{tl te:TE}{tt:TT}{σ:St}{H:Hp}{Q:VK}
end
noncomputable def ZK (S:Mo)(n:Str):List Str:=Zbv n (nk S.bs n)
section
variable {S:Mo}{n c:Str}{a:Int}{os:List Str}
theorem Zfd (h:has S.bs c=true):al S.bs S.ds c = !has S.ds c:=by unfold al;rw[h];rfl
end
end L2
namespace L2
open PySem PySem.Spec
theorem fig1:∀ c∈List.range 9,(⟨#[49+c]⟩:Str)=(toString ((c:Int)+1):Str):=by decide +kernel
theorem fig2:∀ c∈List.range 9,∀ d∈List.range 10,(⟨#[49+c,48+d]⟩:Str)=(toString (((10 * (c+1)+d - 1:Nat):Int)+1):Str):=by decide +kernel
theorem gn_is {p:Str}(h:gn p=true):∃ i:Nat,i<99/\p=(toString ((i:Int)+1):Str):=by
  unfold gn at h;simp only[and_eq_true,decide_eq_true_eq]at h;obtain⟨⟨⟨h1,h2⟩,h3⟩,h4⟩:=h;have hl:p.cps.toList.length=p.length:=length_toList;have ep:p=⟨p.cps.toList.toArray⟩:=YW (by simp);rcases hc:p.cps.toList with _|⟨c,_|⟨d,_|⟨e,r⟩⟩⟩
  . rw[hc]at hl;simp at hl;omega
  . rw[hc]at h3 h4 ep;simp[inR]at h3 h4;obtain⟨k,hk,rfl⟩:∃ k,k<9/\c=49+k:=⟨c - 49,by omega,by omega⟩;exact⟨k,by omega,ep.trans (fig1 k (List.mem_range.mpr hk))⟩
  . rw[hc]at h3 h4 ep;simp[inR]at h3 h4;obtain⟨k,hk,rfl⟩:∃ k,k<9/\c=49+k:=⟨c - 49,by omega,by omega⟩;obtain⟨j,hj,rfl⟩:∃ j,j<10/\d=48+j:=⟨d - 48,by omega,by omega⟩;exact⟨10 * (k+1)+j - 1,by omega,ep.trans (fig2 k (List.mem_range.mpr hk) j (List.mem_range.mpr hj))⟩
  . rw[hc]at hl;simp at hl;omega
theorem ZhI (n:Str)(i:Nat):n.length<(kid n i).length:=by
  have e:(kid n i).length=n.length+1+(toString ((i:Int)+1):Str).length:=by
    unfold kid;rw[Y0,Y0];rfl
  omega
theorem Yj {x:Str}(h:pok x=true):gw x=true\/∃(n:Str)(i:Nat),i<99/\x=kid n i/\pok n=true/\ZJ n<5:=by
  have h':=h;unfold pok at h;simp only[and_eq_true,decide_eq_true_eq]at h;obtain⟨⟨hw,h5⟩,hg⟩:=h;rcases eq_nil_or_concat (nms x) with e|⟨m,p,e⟩
  . left;have:pcs x=[wd x]:=by rw[YQ,e]
    have e2:Str.join dot [wd x]=x:=by rw[<- this];exact Ys x
    have:wd x=x:=e2;rw[<- this];exact hw
  . right;rw[List.concat_eq_append]at e;obtain⟨i,hi,hp⟩:=gn_is (List.all_eq_true.mp hg p (by rw[e];simp));have hpc:pcs x=(wd x::m)++[p]:=by rw[YQ,e];rfl
    have fr:∀ q∈wd x::m,46∉q.cps.toList:=λ q hq=>XW (x:=x) (by rw[hpc];exact mem_append_left _ hq);have pn:pcs (Str.join dot (wd x::m))=wd x::m:=Zc1 _ _ (ZaC _) (by simp) (λ q hq=>XW hq) fr (by rw[Ys]);have wn:wd (Str.join dot (wd x::m))=wd x:=by show(pcs (Str.join dot (wd x::m))).headD ""=wd x;rw[pn];rfl
    have nn:nms (Str.join dot (wd x::m))=m:=by unfold nms;rw[pn];rfl
    have ml:m.length<5:=by rw[e,length_append,length_singleton]at h5;omega
    refine⟨Str.join dot (wd x::m),i,hi,?_,?_,by rw[Xw,nn];exact ml⟩
    . have e3:pcs (kid (Str.join dot (wd x::m)) i)=pcs x:=by rw[Zd4,pn,hpc,hp]
      exact(Ys x).symm.trans ((congrArg (Str.join dot) e3.symm).trans (Ys _))
    . unfold pok;rw[wn,nn,hw];simp only[Bool.true_and,and_eq_true,decide_eq_true_eq];exact⟨by omega,List.all_eq_true.mpr λ q hq=>List.all_eq_true.mp hg q (by rw[e];exact mem_append_left _ hq)⟩
theorem ZgT {bs ds:List (Str×Int)}(W:Wf bs ds):∀(k:Nat)(x:Str),x.length<=k->pok x=true->nr bs x≠Str.empty->gw (wd x)=true/\has bs (wd x)=true:=by
  intro k
  induction k with
  |zero=>intro x hx hp _;exact absurd (Nat.le_zero.mp hx) (Z9 hp)
  |succ k ih=>
    intro x hx hp hn;rcases Yj hp with hg|⟨n,i,hi,rfl,pn,dn⟩
    . rw[ZgU hg];refine⟨hg,?_⟩;cases e:has bs x with
      |true=>rfl
      |false=>exact absurd (nr_gw hg e) hn
    . rw[ZdN];refine ih n (by have:=ZhI n i;omega) pn ?_;rw[nr_kid]at hn;cases e:has bs (kid n i) with
      |true=>
        have z:=W.par n i e;rw[ZcT (Z9 pn) z];exact λ e=>Z9 pn (by rw[e];rfl)
      |false=>rw[e]at hn;exact hn
theorem okN_wd {S:Mo}(W:Wf S.bs S.ds){x:Str}(h:okN S x):okN S (wd x):=by
 obtain⟨a,b⟩:=ZgT W x.length x (le_refl _) h.1 h.2;refine⟨ZcF a,?_⟩;rw[ZcT (Z9 (ZcF a)) b];exact λ e=>Z9 (ZcF a) (by rw[e];rfl)
open PySem PySem.Spec
end L2
namespace L2
open PySem PySem.Spec
structure Cl where
  n:Str
  a:Int
  os:List Str
  day:Int
noncomputable def Cl.ok (S:Mo)(c:Cl):Prop:=okN S c.n/\0<=c.a/\c.a<=120/\(∀ s∈c.os,PyData.strOk s=true)/\c.os.length<=98
structure MadeAt (tl:Cl->List V)(H:Hp)(lm:Addr)(cs:List Cl)(qs:List (Addr×Addr)):Prop where
  lst:H lm=some (.lst (qs.map λ q=>V.ref q.1))
  len:qs.length=cs.length
  at_:∀(i:Nat) q c,qs[i]? = some q->cs[i]? = some c->H q.1=some (.tup ([.str c.n, .int c.a, .ref q.2]++tl c))/\H q.2=some (.lst (c.os.map V.str))
  ne:∀ q∈qs,q.2≠lm
noncomputable def rgn (lm:Addr)(qs:List (Addr×Addr)):List Addr:=lm::qs.map (·.1)++qs.map (·.2)
section
variable {tl:Cl->List V}{H H':Hp}{lm:Addr}{cs:List Cl}{qs:List (Addr×Addr)}{X:List Addr}
end
noncomputable def Zh9 (tl:Cl->List V)(H:Hp)(lm:Addr)(S:Mo)(i:Nat)(cs:List Cl)(RX:List Addr):Prop:=∃ qs,MadeAt tl H lm cs qs/\RX=rgn lm qs/\(∀ c∈cs,c.ok S)/\cs.length<=i
section
variable {tl:Cl->List V}{H H':Hp}{lm:Addr}{S:Mo}{i:Nat}{cs:List Cl}{RX X:List Addr}
theorem Zh9.mono {j:Nat}(E:Zh9 tl H lm S i cs RX)(h:i<=j):Zh9 tl H lm S j cs RX:=by obtain⟨qs,M,e,a,b⟩:=E;exact⟨qs,M,e,a,by omega⟩
end
end L2
namespace L2
open PySem PySem.Spec PyProof.Rows
structure Two (K:Frag)(H:Hp)(p q:Addr)(a b c d:Int):Prop where
  h1:SqT K H p [.int a, .int b]
  h2:SqT K H q [.int c, .int d]
  a0:0<=a
  a1:a<2 ^ 1800
  b0:0<b
  b1:b<2 ^ 1800
  c0:0<=c
  c1:c<2 ^ 1800
  d0:0<d
  d1:d<2 ^ 1800
noncomputable def Zdk (n d:Int):List V:=[.int (n / Sh.G n d), .int (d / Sh.G n d)]
theorem Two.bd {K:Frag}{H:Hp}{p q:Addr}{a b c d:Int}(t:Two K H p q a b c d):0<b * d/\b * d<2 ^ 3600:=⟨Int.mul_pos t.b0 t.d0,(Za9 (m:=1800) (n:=1800) (Int.le_of_lt t.b0) t.b1 (Int.le_of_lt t.d0) t.d1).2⟩
theorem Two.ad {K:Frag}{H:Hp}{p q:Addr}{a b c d:Int}(t:Two K H p q a b c d):0<=a * d/\a * d<2 ^ 3600:=Za9 (m:=1800) (n:=1800) t.a0 t.a1 (Int.le_of_lt t.d0) t.d1
theorem Two.cb {K:Frag}{H:Hp}{p q:Addr}{a b c d:Int}(t:Two K H p q a b c d):0<=c * b/\c * b<2 ^ 3600:=Za9 (m:=1800) (n:=1800) t.c0 t.c1 (Int.le_of_lt t.b0) t.b1
theorem Two.ac {K:Frag}{H:Hp}{p q:Addr}{a b c d:Int}(t:Two K H p q a b c d):0<=a * c/\a * c<2 ^ 3600:=Za9 (m:=1800) (n:=1800) t.a0 t.a1 t.c0 t.c1
theorem Two.ba {K:Frag}{H:Hp}{p q:Addr}{a b c d:Int}(t:Two K H p q a b c d):a.natAbs<BIG:=JW t.a0 t.a1 (by decide)
theorem Two.bb {K:Frag}{H:Hp}{p q:Addr}{a b c d:Int}(t:Two K H p q a b c d):b.natAbs<BIG:=JW (Int.le_of_lt t.b0) t.b1 (by decide)
theorem Two.bc {K:Frag}{H:Hp}{p q:Addr}{a b c d:Int}(t:Two K H p q a b c d):c.natAbs<BIG:=JW t.c0 t.c1 (by decide)
theorem Two.bdd {K:Frag}{H:Hp}{p q:Addr}{a b c d:Int}(t:Two K H p q a b c d):d.natAbs<BIG:=JW (Int.le_of_lt t.d0) t.d1 (by decide)
theorem Two.bBD {K:Frag}{H:Hp}{p q:Addr}{a b c d:Int}(t:Two K H p q a b c d):(b * d).natAbs<BIG:=JW (Int.le_of_lt t.bd.1) t.bd.2 (by decide)
theorem Yc {x:Int}{m n:Nat}(h:x<2 ^ m)(hm:m<=n):x<2 ^ n:=by
  have q:(2:Int) ^ m<=2 ^ n:=by
    have:=Nat.pow_le_pow_right (show 0<2 by decide) hm;have q2:((2 ^ m:Nat):Int)<=((2 ^ n:Nat):Int):=by omega
    rw[Int.natCast_pow,Int.natCast_pow]at q2;exact q2
  omega
theorem ZfW {k:Str}{n d:Int}(h:Zdf (k,n,d)):(!PyData.eqv (shD n d) (shD 0 1))=true↔n≠0:=by
  rw[eqv_sh];constructor
  . intro z e;subst e;have:=Sh.G_zero1 h.2.1 h.2.2;have e2:d=1:=this;subst e2;revert z
    decide
  . intro z;have:(n == 0)=false:=by simpa using z
    rw[this];rfl
noncomputable def ShB (n d:Int):Prop:=0<=n/\n<2 ^ 1800/\0<d/\d<2 ^ 1800
theorem Zci {K:Frag}{H:Hp}{p q:Addr}{a b c d:Int}(h1:SqT K H p [.int a, .int b])(h2:SqT K H q [.int c, .int d])(x:ShB a b)(y:ShB c d):Two K H p q a b c d:=⟨h1,h2,x.1,x.2.1,x.2.2.1,x.2.2.2,y.1,y.2.1,y.2.2.1,y.2.2.2⟩
noncomputable def lo1 (x y:Int):Int:=x / Sh.G x y
noncomputable def lo2 (x y:Int):Int:=y / Sh.G x y
theorem ZeZ {ws:Ws}{es:List En}(e:ws.map (·.1)=es):(ws.map λ w=>((Sum.inr w.1.1:Key),V.ref w.2)).map (·.1)=(Yk es).map Sum.inr:=by
 subst e;unfold Yk;simp
theorem Zbu {ws:Ws}{es:List En}(e:ws.map (·.1)=es):(ws.map λ w=>((Sum.inr w.1.1:Key),V.ref w.2)).length=es.length:=by
 subst e;simp
noncomputable def LLs (H:Hp)(L:Addr)(ls:List (List En)):Prop:=∃ ps:List (Addr×List En),ps.map (·.2)=ls/\H L=some (.lst (ps.map λ p=>V.ref p.1))/\∀ p∈ps,Led H p.1 p.2
theorem LLs.same {H H':Hp}{L:Addr}{ls:List (List En)}(h:LLs H L ls)(e:Zp H H'):LLs H' L ls:=by
 obtain⟨ps,h1,h2,h3⟩:=h;exact⟨ps,h1,e _ _ h2,λ p hp=>(h3 p hp).same e⟩
theorem LLs.len {H:Hp}{L:Addr}{ls:List (List En)}(h:LLs H L ls):∃ xs,H L=some (.lst xs)/\xs.length=ls.length:=by
 obtain⟨ps,rfl,h1,_⟩:=h;exact⟨_,h1,by simp⟩
theorem LLs.at {H:Hp}{L:Addr}{ls:List (List En)}{xs:List V}{i:Nat}{x:V}(h:LLs H L ls)(hl:H L=some (.lst xs))(hx:xs[i]? = some x):∃(p:Addr)(es:List En),x = .ref p/\ls[i]? = some es/\Led H p es:=by
  obtain⟨ps,rfl,h1,h2⟩:=h;rw[h1]at hl;cases hl;rw[getElem?_map]at hx;cases z:ps[i]? with
  |none=>rw[z]at hx;cases hx
  |some w=>
    rw[z]at hx;exact⟨w.1,w.2,(Option.some.inj hx).symm,by rw[getElem?_map,z];rfl,h2 w (mem_of_getElem? z)⟩
noncomputable abbrev Ut:=Str×Int
noncomputable def ue (e:Ut):En:=(e.1,1,e.2)
theorem G_one {d:Int}:Sh.G 1 d=1:=by
 unfold Sh.G;rw[show((1:Int).toNat)=1 from rfl,Nat.gcd_one_left];rfl
theorem Zem {d:Int}:Zdk 1 d=[.int 1, .int d]:=by
 unfold Zdk;rw[G_one,Int.ediv_one,Int.ediv_one]
theorem Zhz {d:Int}:Zdk (0 * d+1 * 1) (1 * d)=[.int 1, .int d]:=by
 rw[show(0:Int) * d+1 * 1=1 by omega,show(1:Int) * d=d by omega];exact Zem
theorem Zhy {d n:Int}:Zdk (1 * 1) (d * n)=[.int 1, .int (d * n)]:=Zem
theorem Zeh {e:Ut}(h:0<e.2):Zdf (ue e):=⟨by show(0:Int)<=1;decide,h,G_one⟩
theorem J6 (l:List Ut):Yk (l.map ue)=l.map (·.1):=by unfold Yk;rw[map_map];rfl
theorem ZcD {es:List En}{k:Str}{n d:Int}(h:k∉Yk es):Zfp es k n d=es++[(k,n,d)]:=by
 unfold Zfp;rw[if_neg];intro z;obtain⟨e,h1,h2⟩:=List.any_eq_true.mp z;exact h (List.mem_map.mpr ⟨e,h1,of_decide_eq_true h2⟩)
noncomputable def scU (n:Int)(e:Ut):Ut:=(e.1,e.2 * n)
structure MixOk (ls:List (List Ut)):Prop where
  pos:0<ls.length
  few:ls.length<=98
  nod:(ls.flatten.map (·.1)).Nodup
  len:ls.flatten.length<60
  den:∀ e∈ls.flatten,0<e.2/\e.2<2 ^ 100
theorem ZhJ (l:List Ut)(n:Int):Yk ((l.map (scU n)).map ue)=l.map (·.1):=by rw[J6,map_map];rfl
theorem Zic {l:List Ut}{i:Nat}{e:Ut}(nd:(l.map (·.1)).Nodup)(h:l[i]? = some e):e.1∉Yk ((l.take i).map ue):=by
 rw[J6];intro z;obtain⟨u,h1,h2⟩:=List.mem_map.mp z;obtain⟨j,hj⟩:=List.mem_iff_getElem?.mp h1;obtain⟨hi,ei⟩:=List.getElem?_eq_some_iff.mp h;obtain⟨hj1,ej⟩:=List.getElem?_eq_some_iff.mp hj;rw[length_take]at hj1;rw[List.getElem_take]at ej;refine List.pairwise_iff_getElem.mp nd j i (by rw[length_map];omega) (by rw[length_map];exact hi) (by omega) ?_;rw[List.getElem_map,List.getElem_map,ei,ej];exact h2
theorem ZiR {ls:List (List Ut)}{i j:Nat}{es:List Ut}{e:Ut}(hi:ls[i]? = some es)(hj:es[j]? = some e):ls.flatten[((ls.take i).flatten++es.take j).length]? = some e/\ls.flatten.take (((ls.take i).flatten++es.take j).length)=(ls.take i).flatten++es.take j:=by
  obtain⟨h1,h2⟩:=List.getElem?_eq_some_iff.mp hi;obtain⟨h3,h4⟩:=List.getElem?_eq_some_iff.mp hj;have e1:ls.flatten=((ls.take i).flatten++es.take j)++(e::(es.drop (j+1)++(ls.drop (i+1)).flatten)):=by
    conv=>lhs;rw[<- List.take_append_drop i ls,List.drop_eq_getElem_cons h1,h2,List.flatten_append,flatten_cons]
    conv=>lhs;rw[show es=es.take j++es.drop j from(List.take_append_drop j es).symm,List.drop_eq_getElem_cons h3,h4]
    simp only[append_assoc,List.cons_append]
  rw[e1];refine⟨?_,?_⟩
  . rw[getElem?_append_right (le_refl _),sub_self];rfl
  . rw[List.take_append_of_le_length (le_refl _),take_length]
noncomputable def LLx (H:Hp)(L:Addr)(ls:List (List En)):Prop:=∃ ps:List (Addr×List En),ps.map (·.2)=ls/\H L=some (.lst (ps.map λ p=>V.ref p.1))/\∀ p∈ps,Led H p.1 p.2/\p.1≠L
theorem LLx.ll {H:Hp}{L:Addr}{ls:List (List En)}(h:LLx H L ls):LLs H L ls:=by
 obtain⟨ps,h1,h2,h3⟩:=h;exact⟨ps,h1,h2,λ p hp=>(h3 p hp).1⟩
theorem LLx.same {H H':Hp}{L:Addr}{ls:List (List En)}(h:LLx H L ls)(e:Zp H H'):LLx H' L ls:=by
 obtain⟨ps,h1,h2,h3⟩:=h;exact⟨ps,h1,e _ _ h2,λ p hp=>⟨(h3 p hp).1.same e,(h3 p hp).2⟩⟩
theorem LLx.push {H:Hp}{L p:Addr}{ls:List (List En)}{xs:List V}{es:List En}(h:LLx H L ls)(hl:H L=some (.lst xs))(hp:Led H p es)(hn:p≠L):LLx (upd H L (.lst (xs++[V.ref p]))) L (ls++[es]):=by
  obtain⟨ps,rfl,h1,h2⟩:=h;rw[h1]at hl;cases hl;refine⟨ps++[(p,es)],by simp,by rw[Zb];simp,λ w hw=>?_⟩;have z:Led H w.1 w.2/\w.1≠L:=by
    rcases List.mem_append.mp hw with hw|hw
    . exact h2 w hw
    . rw[List.mem_singleton.mp hw];exact⟨hp,hn⟩
  exact⟨z.1.at1 h1 z.2 (λ _ y=>by cases y),z.2⟩
noncomputable def upn:Nat->Str->Str
  |0,x=>x
  |j+1,x=>up (upn j x)
noncomputable def Und (n x:Str):Prop:=∃ j,upn j x=n/\ZJ x=ZJ n+j
theorem Und.refl (n:Str):Und n n:=⟨0,rfl,rfl⟩
theorem Und.kid {n x:Str}{i:Nat}(h:Und (kid n i) x):Und n x:=by
  obtain⟨j,h1,h2⟩:=h;refine⟨j+1,?_,?_⟩
  . show up (upn j x)=n;rw[h1,Yd]
  . rw[ZX]at h2;omega
theorem Und.uniq {n x:Str}{a b:Nat}(ha:a<1000)(hb:b<1000)(h:Und (L2.kid n a) x)(h':Und (L2.kid n b) x):a=b:=by
 obtain⟨j,h1,h2⟩:=h;obtain⟨j',h1',h2'⟩:=h';rw[ZX]at h2 h2';have e:j=j':=by omega
 subst e;exact(Zeo (by omega) (by omega) (h1.symm.trans h1')).2
noncomputable def lnN (S:Mo):Nat->Str->List Ut
  |0,_=>[]
  |k+1,n=>if has S.ds n=true then (((ZK S n).map (lnN S k)).filter λ l => !l.isEmpty).flatten.map (scU ((((ZK S n).map (lnN S k)).filter λ l => !l.isEmpty).length:Nat)) else [(n,1)]
noncomputable def fil (ls:List (List Ut)):List (List Ut):=ls.filter λ l => !l.isEmpty
theorem XY {S:Mo}{k:Nat}{n:Str}(h:has S.ds n=true):lnN S (k+1) n=(fil ((ZK S n).map (lnN S k))).flatten.map (scU ((fil ((ZK S n).map (lnN S k))).length:Nat)):=by
 rw[lnN,if_pos h];rfl
theorem Zbb {S:Mo}{k:Nat}{n:Str}(h:has S.ds n=false):lnN S (k+1) n=[(n,1)]:=by rw[lnN,if_neg (by rw[h];decide)]
theorem Y3:∀ ls:List (List Ut),(fil ls).flatten=ls.flatten
  |[]=>rfl
  | l::r=>by
    unfold fil;cases l with
    |nil=>rw[filter_cons_of_neg (by decide)];exact Y3 r
    |cons x t=>
      rw[filter_cons_of_pos rfl,flatten_cons,flatten_cons];exact congrArg _ (Y3 r)
theorem Zf9 (ls:List (List Ut)):(fil ls).length<=ls.length:=length_filter_le _ _
structure LnOk (S:Mo)(k:Nat)(n:Str)(l:List Ut):Prop where
  bk:∀ e∈l,has S.bs e.1=true
  dd:∀ e∈l,has S.ds e.1=false
  un:∀ e∈l,Und n e.1
  nd:(l.map (·.1)).Nodup
  dn:∀ e∈l,0<e.2/\e.2<=98 ^ k
theorem Zf7 {S:Mo}{k:Nat}{n:Str}:∀(c:Nat),c<=900->(∀ i<c,LnOk S k (L2.kid n i) (lnN S k (L2.kid n i)))->((((List.range c).map λ i=>lnN S k (L2.kid n i)).flatten).map (·.1)).Nodup
  |0,_,_=>by simp
  | c+1,hc,h=>by
    rw[List.range_succ,map_append,List.flatten_append,map_append,nodup_append];refine⟨Zf7 c (by omega) (λ i hi=>h i (by omega)),?_,?_⟩
    . show(List.map (·.1) (List.flatten [lnN S k (L2.kid n c)])).Nodup;rw[flatten_cons,List.flatten_nil,append_nil];exact(h c (by omega)).nd
    . intro x hx y hy e;subst e;obtain⟨u,hu,rfl⟩:=List.mem_map.mp hx;obtain⟨l,hl,hul⟩:=List.mem_flatten.mp hu;obtain⟨i,hi,rfl⟩:=List.mem_map.mp hl;rw[List.mem_range]at hi;obtain⟨v,hv,ev⟩:=List.mem_map.mp hy;have hv:v∈List.flatten [lnN S k (L2.kid n c)]:=hv;rw[flatten_cons,List.flatten_nil,append_nil]at hv;have a:=(h i (by omega)).un u hul;have b:=(h c (by omega)).un v hv;have ev:v.1=u.1:=ev;rw[ev]at b;have:=Und.uniq (by omega) (by omega) a b;omega
theorem pow98 (k:Nat):(0:Int)<98 ^ k:=Int.pow_pos (by decide)
theorem Y7 {S:Mo}(W:Wf S.bs S.ds)(hl:S.bs.length<=98):∀(k:Nat)(n:Str),has S.bs n=true->LnOk S k n (lnN S k n)
  |0,n,_=>⟨(λ _ h=>by cases h),(λ _ h=>by cases h),(λ _ h=>by cases h),(by show([]:List Str).Nodup;exact List.nodup_nil),(λ _ h=>by cases h)⟩
  | k+1,n,hn=>by
    cases hd:has S.ds n with
    |false=>
      rw[Zbb hd];refine⟨λ e h=>?_,λ e h=>?_,λ e h=>?_,by simp,λ e h=>?_⟩ <;> rw[List.mem_singleton.mp h]
      . exact hn
      . exact hd
      . exact Und.refl n
      . have:=pow98 (k+1);exact⟨by show(0:Int)<1;decide,by show(1:Int)<=98 ^ (k+1);omega⟩
    |true=>
      have nkl:=W.few n;have ih:∀ i<nk S.bs n,LnOk S k (L2.kid n i) (lnN S k (L2.kid n i)):=λ i hi=>Y7 W hl k _ ((W.cnt n i (by omega)).mpr hi);have ek:(ZK S n).map (lnN S k)=(List.range (nk S.bs n)).map λ i=>lnN S k (L2.kid n i):=by
        unfold ZK Zbv;rw[map_map];rfl
      rw[XY hd,Y3,ek];have fl:=Zf9 ((List.range (nk S.bs n)).map λ i=>lnN S k (L2.kid n i));rw[length_map,length_range]at fl;have mem:∀ u∈(((List.range (nk S.bs n)).map λ i=>lnN S k (L2.kid n i)).flatten),∃ i,i<nk S.bs n/\u∈lnN S k (L2.kid n i):=λ u hu=>by
        obtain⟨l,h1,h2⟩:=List.mem_flatten.mp hu;obtain⟨i,hi,rfl⟩:=List.mem_map.mp h1;exact⟨i,List.mem_range.mp hi,h2⟩
      have fpos:∀ u∈(((List.range (nk S.bs n)).map λ i=>lnN S k (L2.kid n i)).flatten),0<(fil ((List.range (nk S.bs n)).map λ i=>lnN S k (L2.kid n i))).length:=λ u hu=>by
        rw[<- Y3]at hu;obtain⟨l,h1,_⟩:=List.mem_flatten.mp hu;exact List.length_pos_of_mem h1
      generalize hF:(fil ((List.range (nk S.bs n)).map λ i=>lnN S k (L2.kid n i))).length=F at fl fpos;refine⟨λ e h=>?_,λ e h=>?_,λ e h=>?_,?_,λ e h=>?_⟩
      . obtain⟨u,hu,rfl⟩:=List.mem_map.mp h;obtain⟨i,hi,h2⟩:=mem u hu;exact(ih i hi).bk u h2
      . obtain⟨u,hu,rfl⟩:=List.mem_map.mp h;obtain⟨i,hi,h2⟩:=mem u hu;exact(ih i hi).dd u h2
      . obtain⟨u,hu,rfl⟩:=List.mem_map.mp h;obtain⟨i,hi,h2⟩:=mem u hu;exact((ih i hi).un u h2).kid
      . rw[map_map];exact Zf7 (nk S.bs n) (by omega) ih
      . obtain⟨u,hu,rfl⟩:=List.mem_map.mp h;obtain⟨i,hi,h2⟩:=mem u hu;obtain⟨d1,d2⟩:=(ih i hi).dn u h2;have f1:=fpos u hu;refine⟨Int.mul_pos d1 (by omega),?_⟩;show u.2 * (F:Int)<=98 ^ (k+1);rw[Int.pow_succ];exact Int.mul_le_mul d2 (by omega) (by omega) (Int.le_of_lt (pow98 k))
theorem Can.perm {a b es:List En}(h:Can a es)(p:a.Perm b):Can b es:=⟨h.1,λ e=>(h.2.1 e).trans (and_congr_left λ _=>p.mem_iff),by rw[<- p.length_eq];exact h.2.2⟩
inductive PermL:List (List Ut)->List (List Ut)->Prop
  | nil:PermL [] []
  | cons {a b:List Ut} {as bs:List (List Ut)} (p:a.Perm b) (t:PermL as bs):PermL (a::as) (b::bs)
theorem PermL.fil {as bs:List (List Ut)}(h:PermL as bs):(fil as).length=(fil bs).length/\as.flatten.Perm bs.flatten:=by
  induction h with
  |nil=>exact⟨rfl, .refl _⟩
  |@cons a b as bs p t ih=>
    refine⟨?_,by rw[flatten_cons,flatten_cons];exact p.append ih.2⟩;unfold L2.fil at ih ⊢;have e:a.isEmpty=b.isEmpty:=by
      have:=p.length_eq;cases a <;> cases b <;> simp_all
    cases hb:b.isEmpty with
    |true=>rw[filter_cons_of_neg (by rw[e,hb];decide),filter_cons_of_neg (by rw[hb];decide)];exact ih.1
    |false=>rw[filter_cons_of_pos (by rw[e,hb];rfl),filter_cons_of_pos (by rw[hb];rfl),length_cons,length_cons,ih.1]
noncomputable def bk (e:En):Ut:=(e.1,e.2.2)
theorem Zfb {us:List Ut}{es:List En}(h:Can (us.map ue) es):(es.map bk).map ue=es:=by
 rw[map_map]
 conv=>rhs;rw[<- List.map_id es]
 refine map_congr_left λ e he=>?_;obtain⟨u,_,rfl⟩:=List.mem_map.mp ((h.2.1 e).mp he).1;rfl
theorem Zfw {a b:List Ut}(ha:a.Nodup)(hb:b.Nodup)(h:∀ x,x∈a↔x∈b):a.Perm b:=by
  induction a generalizing b with
  |nil=>
    cases b with
    |nil=>exact .refl _
    |cons y t=>exact absurd ((h y).mpr (by simp)) (by simp)
  |cons x t ih=>
    rw[List.nodup_cons]at ha;obtain⟨l1,l2,rfl⟩:=List.append_of_mem ((h x).mp (by simp));refine(List.Perm.cons x (ih ha.2 (b:=l1++l2) ?_ λ y=>?_)).trans (List.perm_middle.symm)
    . rw[nodup_append]at hb ⊢;refine⟨hb.1,(List.nodup_cons.mp hb.2.1).2,λ a ha b hb'=>hb.2.2 a ha b (by simp[hb'])⟩
    . have hy:=h y;rw[mem_cons,mem_append,mem_cons]at hy;rw[mem_append];have nx:x∉l1/\x∉l2:=by
        rw[nodup_append]at hb;exact⟨λ z=>hb.2.2 x z x (by simp) rfl,(List.nodup_cons.mp hb.2.1).1⟩
      constructor
      . intro z;have ne:y≠x:=λ e=>ha.1 (by rw[<- e];exact z);rcases hy.mp (.inr z) with q|q|q
        . exact .inl q
        . exact absurd q ne
        . exact .inr q
      . intro z;have ne:y≠x:=λ e=>by
          rcases z with z|z
          . exact nx.1 (by rw[<- e];exact z)
          . exact nx.2 (by rw[<- e];exact z)
        rcases hy.mpr (z.elim .inl λ z => .inr (.inr z)) with q|q
        . exact absurd q ne
        . exact q
theorem Zdz {l:List Ut}(h:(l.map (·.1)).Nodup):l.Nodup:=by
 unfold List.Nodup at h ⊢;rw[List.pairwise_map]at h;exact h.imp λ z e=>z (by rw[e])
theorem Zdd {us:List Ut}{es:List En}(nd:(us.map (·.1)).Nodup)(h:Can (us.map ue) es):(es.map bk).Perm us:=by
  have nde:(es.map bk).Nodup:=by
    refine Zdz ?_;rw[map_map];have z:=h.1;unfold List.Nodup;rw[List.pairwise_map];exact List.Pairwise.imp (S:=λ a b:En=>a.1≠b.1) (λ {a b} w e=>X9 b.1 (by rw[e]at w;exact w)) z
  refine Zfw nde (Zdz nd) λ x=>⟨λ hx=>?_,λ hx=>?_⟩
  . obtain⟨e,he,rfl⟩:=List.mem_map.mp hx;obtain⟨u,hu,rfl⟩:=List.mem_map.mp ((h.2.1 e).mp he).1;exact hu
  . exact List.mem_map.mpr ⟨ue x,(h.2.1 _).mpr ⟨List.mem_map.mpr ⟨x,hx,rfl⟩,by show(1:Int)≠0;decide⟩,rfl⟩
theorem Zdw {α:Type}{f g:α->List Ut}:∀(l:List α),(∀ x∈l,(f x).Perm (g x))->PermL (l.map f) (l.map g)
  |[],_ => .nil
  |x::r,h => .cons (h x (by simp)) (Zdw r λ y hy=>h y (by simp[hy]))
theorem ZiT (ess:List (List En)):fil (ess.map (List.map bk))=(ess.filter λ l => !l.isEmpty).map (List.map bk):=by
 unfold fil;rw[List.filter_map];congr 1;refine List.filter_congr λ l _=>?_;cases l <;> rfl
theorem Za8 {α:Type}[DecidableEq α]:∀ {l m:List α},l.Nodup->(∀ x∈l,x∈m)->l.length<=m.length
  |[],_,_,_=>zero_le _
  | a::l,m,h,s=>by
    have ha:a∈m:=s a (by simp);have hn:=List.nodup_cons.mp h;have ih:=Za8 (l:=l) (m:=m.erase a) hn.2 (λ x hx=>(List.mem_erase_of_ne (show x≠a from λ e=>hn.1 (by rw[<- e];exact hx))).mpr (s x (mem_cons_of_mem _ hx)));rw[List.length_erase_of_mem ha]at ih;have:0<m.length:=List.length_pos_of_mem ha;rw[length_cons];omega
theorem ZgG {S:Mo}{k:Nat}{n:Str}{ess:List (List En)}(W:Wf S.bs S.ds)(hl:S.bs.length<60)(hn:has S.bs n=true)(hd:has S.ds n=true)(hk:k<=5)(le:ess.length=nk S.bs n)(hc:∀ t es,ess[t]? = some es->Can ((lnN S k (L2.kid n t)).map ue) es) :
    (fil (ess.map (List.map bk))).map (List.map ue)=(ess.filter λ l => !l.isEmpty)/\(((fil (ess.map (List.map bk))).flatten.map (scU ((fil (ess.map (List.map bk))).length:Nat))).map ue).Perm ((lnN S (k+1) n).map ue)/\(fil (ess.map (List.map bk))≠[]->MixOk (fil (ess.map (List.map bk)))):=by
  have nkl:=W.few n;have okk:∀ i<nk S.bs n,LnOk S k (L2.kid n i) (lnN S k (L2.kid n i)):=λ i hi=>Y7 W (by omega) k _ ((W.cnt n i (by omega)).mpr hi);have ek:(ZK S n).map (lnN S k)=(List.range (nk S.bs n)).map λ i=>lnN S k (L2.kid n i):=by
    unfold ZK Zbv;rw[map_map];rfl
  have ee:ess.map (List.map bk)=(List.range (nk S.bs n)).map λ i=>((ess[i]?).getD []).map bk:=by
    refine List.ext_getElem? λ i=>?_;rw[getElem?_map,getElem?_map];rcases Nat.lt_or_ge i ess.length with h|h
    . rw[getElem?_eq_getElem h,List.getElem?_range (by omega)];show some (List.map bk ess[i])=some (List.map bk (ess[i]?.getD []));rw[getElem?_eq_getElem h];rfl
    . rw[List.getElem?_eq_none h,List.getElem?_eq_none (by rw[length_range];omega)];rfl
  have PL:PermL (ess.map (List.map bk)) ((ZK S n).map (lnN S k)):=by
    rw[ee,ek];refine Zdw _ λ i hi=>?_;rw[List.mem_range]at hi;have e:ess[i]? = some ess[i]:=getElem?_eq_getElem (by omega);rw[e];exact Zdd (okk i hi).nd (hc i _ e)
  obtain⟨p1,p2⟩:=PL.fil;have p3:(fil (ess.map (List.map bk))).flatten.Perm (fil ((ZK S n).map (lnN S k))).flatten:=by rw[Y3,Y3];exact p2
  have lo:=Y7 W (by omega) (k+1) n hn;refine⟨?_,?_,λ hne=>?_⟩
  . rw[ZiT,map_map]
    conv=>rhs;rw[<- List.map_id (ess.filter _)]
    refine map_congr_left λ es hes=>?_;obtain⟨t,ht⟩:=List.mem_iff_getElem?.mp (List.mem_filter.mp hes).1;exact Zfb (hc t es ht)
  . rw[XY hd,p1];exact(p3.map _).map _
  . have fpos:0<(fil (ess.map (List.map bk))).length:=List.length_pos_iff.mpr hne;have fle:=Zf9 (ess.map (List.map bk));rw[length_map]at fle;have nd:((fil (ess.map (List.map bk))).flatten.map (·.1)).Nodup:=by
      have z:=lo.nd;rw[XY hd,map_map]at z;exact((p3.map (·.1)).nodup_iff).mpr z
    refine⟨fpos,by omega,nd,?_,λ e he=>?_⟩
    . have z:=lo.nd;have l1:(lnN S (k+1) n).length<=S.bs.length:=by
        have:=Za8 z (m:=S.bs.map (·.1)) (λ x hx=>by
          obtain⟨u,hu,rfl⟩:=List.mem_map.mp hx;exact(Yl S.bs u.1).mp (lo.bk u hu))
        rw[length_map,length_map]at this;exact this
      rw[XY hd,length_map]at l1;rw[p3.length_eq];omega
    . rw[Y3,p2.mem_iff,ek]at he;obtain⟨l,h1,h2⟩:=List.mem_flatten.mp he;obtain⟨i,hi,rfl⟩:=List.mem_map.mp h1;obtain⟨d1,d2⟩:=(okk i (List.mem_range.mp hi)).dn e h2;refine⟨d1,?_⟩;have:(98:Int) ^ k<=98 ^ 5:=by
        rcases(show k=0\/k=1\/k=2\/k=3\/k=4\/k=5 by omega) with e|e|e|e|e|e <;> rw[e] <;> decide
      have z:(98:Int) ^ 5<2 ^ 100:=by decide
      omega
noncomputable def ln (S:Mo)(n:Str):List Ut:=lnN S (6 - ZJ n) n
noncomputable def hrs (S:Mo)(x:Str):List Ut:=if h:x.length=0 then [(("crown":Str),(1:Int))] else if (ln S x).isEmpty=true then hrs S (up x) else ln S x
termination_by x.length
decreasing_by exact Zav h
theorem J7 {S:Mo}{x:Str}(h:x.length=0):hrs S x=[(("crown":Str),(1:Int))]:=by rw[hrs,dif_pos h]
theorem Zeq {S:Mo}{x:Str}(h:x.length≠0)(e:(ln S x).isEmpty=true):hrs S x=hrs S (up x):=by rw[hrs,dif_neg h,if_pos e]
theorem Zc3 {S:Mo}{x:Str}(h:x.length≠0)(e:(ln S x).isEmpty=false):hrs S x=ln S x:=by rw[hrs,dif_neg h,if_neg (by rw[e];decide)]
theorem Zf5 {α β:Type}{a:List α}{b:List β}(h:a.length=b.length):a.isEmpty=b.isEmpty:=by
  cases a with
  | nil=>cases b with
    |nil=>rfl
    |cons x r=>cases h
  | cons x r=>cases b with
    |nil=>cases h
    |cons y t=>rfl
end L2
namespace L2
open PySem PySem.Spec PyProof.Rows
noncomputable abbrev stp (z:Int×Int)(e:Ut):Int×Int:=(z.1 * e.2+z.2,z.2 * e.2)
noncomputable def rsf (z:Int×Int)(l:List Ut):Int×Int:=l.foldl stp z
noncomputable abbrev rs (l:List Ut):Int×Int:=rsf (0,1) l
theorem Zd0:∀(l:List Ut)(z:Int×Int),rsf z l=(z.1 * (rs l).2+z.2 * (rs l).1,z.2 * (rs l).2)
  |[],z=>by show z=(z.1 * 1+z.2 * 0,z.2 * 1);ext <;> simp
  | e::r,z=>by
    have h1:=Zd0 r (stp z e);have h2:=Zd0 r (stp (0,1) e);have e1:rsf z (e::r)=rsf (stp z e) r:=rfl;have e2:rs (e::r)=rsf (stp (0,1) e) r:=rfl;rw[e1,h1,e2,h2];generalize rs r=w;obtain⟨p,q⟩:=w;show((z.1 * e.2+z.2) * q+z.2 * e.2 * p,z.2 * e.2 * q)=(z.1 * (1 * e.2 * q)+z.2 * ((0 * e.2+1) * q+1 * e.2 * p),z.2 * (1 * e.2 * q))
    ext
    . simp only;grind
    . simp only;grind
theorem rs_app (a b:List Ut):rs (a++b)=((rs a).1 * (rs b).2+(rs a).2 * (rs b).1,(rs a).2 * (rs b).2):=by
 show List.foldl stp (0,1) (a++b)=_;rw[List.foldl_append];exact Zd0 b (rs a)
theorem Zfn:∀(l:List Ut),(∀ e∈l,0<e.2)->∀ z:Int×Int,0<=z.1->0<z.2->0<=(rsf z l).1/\0<(rsf z l).2
  |[],_,z,h1,h2=>⟨h1,h2⟩
  | e::r,h,z,h1,h2=>by
    have he:=h e (by simp);exact Zfn r (λ x hx=>h x (by simp[hx])) (stp z e) (Int.add_nonneg (Int.mul_nonneg h1 (Int.le_of_lt he)) (Int.le_of_lt h2)) (Int.mul_pos h2 he)
theorem rs_sc (F:Int):∀(l:List Ut)(z z':Int×Int),z'.1 * z.2 * F=z.1 * z'.2->(rsf z' (l.map (scU F))).1 * (rsf z l).2 * F=(rsf z l).1 * (rsf z' (l.map (scU F))).2
  |[],z,z',h=>h
  | e::r,z,z',h=>by
    refine rs_sc F r (stp z e) (stp z' (scU F e)) ?_;obtain⟨p,q⟩:=z;obtain⟨p',q'⟩:=z';show(p' * (e.2 * F)+q') * (q * e.2) * F=(p * e.2+q) * (q' * (e.2 * F));have h:p' * q * F=p * q':=h
    grind
theorem Zg8 (z:Int×Int)(a b:Ut):stp (stp z a) b=stp (stp z b) a:=by
  show((z.1 * a.2+z.2) * b.2+z.2 * a.2,z.2 * a.2 * b.2)=((z.1 * b.2+z.2) * a.2+z.2 * b.2,z.2 * b.2 * a.2)
  ext
  . simp only;grind
  . simp only;grind
theorem Zij {a b:List Ut}(p:a.Perm b):∀ z,rsf z a=rsf z b:=by
  induction p with
  |nil=>exact λ _=>rfl
  |cons x _ ih=>exact λ z=>ih _
  |swap x y l=>intro z;show rsf (stp (stp z y) x) l=rsf (stp (stp z x) y) l;rw[Zg8]
  |trans _ _ ih1 ih2=>exact λ z=>(ih1 z).trans (ih2 z)
noncomputable def One (l:List Ut):Prop:=(rs l).1=(rs l).2
theorem ZeO {F:Int}:∀(ls:List (List Ut)),(∀ l∈ls,One l)->(∀ l∈ls,∀ e∈l,0<e.2)->0<F->(rs (ls.flatten.map (scU F))).1 * F=(ls.length:Int) * (rs (ls.flatten.map (scU F))).2
  |[],_,_,_=>by show(0:Int) * F=0 * 1;omega
  | l::r,h,hp,hF=>by
    have ih:=ZeO r (λ x hx=>h x (by simp[hx])) (λ x hx=>hp x (by simp[hx])) hF;rw[flatten_cons,map_append,rs_app,length_cons];have o:(rs l).1=(rs l).2:=h l (by simp);have s:=rs_sc F l (0,1) (0,1) (by show(0:Int) * 1 * F=0 * 1;omega);have p:=(Zfn l (hp l (by simp)) (0,1) (by decide) (by decide)).2;have p2:(rs l).2≠0:=by have:0<(rs l).2:=p;omega
    have s2:(rs (l.map (scU F))).1 * F=(rs (l.map (scU F))).2:=by
      have s:(rs (l.map (scU F))).1 * (rs l).2 * F=(rs l).1 * (rs (l.map (scU F))).2:=s;rw[o]at s;refine Int.eq_of_mul_eq_mul_left p2 ?_;rw[<- s]
      grind
    generalize rs (l.map (scU F))=A at s2;generalize rs (r.flatten.map (scU F))=B at ih;obtain⟨a,a'⟩:=A;obtain⟨b,b'⟩:=B;have s2:a * F=a':=s2;have ih:b * F=(r.length:Int) * b':=ih;show(a * b'+a' * b) * F=((r.length+1:Nat):Int) * (a' * b');rw[Int.natCast_add];subst s2
    grind
theorem ZfZ {S:Mo}(W:Wf S.bs S.ds)(hl:S.bs.length<=98):∀(k:Nat)(n:Str),has S.bs n=true->lnN S k n≠[]->One (lnN S k n)
  |0,n,_,h=>absurd rfl h
  | k+1,n,hn,h=>by
    cases hd:has S.ds n with
    |false=>
      rw[Zbb hd];show(0:Int) * 1+1=1 * 1
      decide
    |true=>
      have nkl:=W.few n;have okk:∀ i<nk S.bs n,LnOk S k (L2.kid n i) (lnN S k (L2.kid n i)):=λ i hi=>Y7 W hl k _ ((W.cnt n i (by omega)).mpr hi);rw[XY hd]at h ⊢;have mem:∀ l∈fil ((ZK S n).map (lnN S k)),∃ i,i<nk S.bs n/\l=lnN S k (L2.kid n i)/\l≠[]:=λ l hl2=>by
        obtain⟨h1,h2⟩:=List.mem_filter.mp hl2;obtain⟨c,h3,rfl⟩:=List.mem_map.mp h1;unfold ZK Zbv at h3;obtain⟨i,hi,rfl⟩:=List.mem_map.mp h3;exact⟨i,List.mem_range.mp hi,rfl,λ z=>by rw[z]at h2;cases h2⟩
      have hF:0<(fil ((ZK S n).map (lnN S k))).length:=by
        rw[List.length_pos_iff];intro z;rw[z]at h;exact h rfl
      have z:=ZeO (F:=((fil ((ZK S n).map (lnN S k))).length:Nat)) (fil ((ZK S n).map (lnN S k))) (λ l hl2=>by
        obtain⟨i,hi,rfl,ne⟩:=mem l hl2;exact ZfZ W hl k _ ((W.cnt n i (by omega)).mpr hi) ne) (λ l hl2 e he=>by
        obtain⟨i,hi,rfl,ne⟩:=mem l hl2;exact((okk i hi).dn e he).1) (by omega)
      generalize (fil ((ZK S n).map (lnN S k))).flatten.map (scU ((fil ((ZK S n).map (lnN S k))).length:Nat))=L at z ⊢;unfold One;have hF2:(((fil ((ZK S n).map (lnN S k))).length:Nat):Int)≠0:=by omega
      refine Int.eq_of_mul_eq_mul_left hF2 ?_;rw[<- z,Int.mul_comm]
theorem X3:∀(j:Nat)(x:Str),upn (j+1) x=upn j (up x)
  |0,x=>rfl
  |j+1,x=>by show up (upn (j+1) x)=up (upn j (up x));rw[X3 j x]
theorem Zch:∀(j:Nat)(x a:Str),pok x=true->upn j x=a->ZJ x=ZJ a+j->wd x=wd a
  |0,x,a,_,h,_=>by rw[show x=a from h]
  | j+1,x,a,hp,h,hd=>by
    rcases Yj hp with hg|⟨p,i,hi,rfl,pp,_⟩
    . rw[Zbe hg]at hd;omega
    . rw[X3,Yd]at h;rw[ZdN];exact Zch j p a pp h (by rw[ZX]at hd;omega)
theorem Xe {S:Mo}(W:Wf S.bs S.ds):∀(k:Nat)(n:Str),n.length<=k->has S.bs n=true ->
    (∃ a,has S.bs a=true/\Und a n/\ln S a≠[]/\hrs S n=ln S a)\/(hrs S n=[(("crown":Str),(1:Int))]/\∀ a,has S.bs a=true->Und a n->ln S a=[]):=by
  intro k
  induction k with
  |zero=>intro n hk hn;exact absurd (by omega) (Z9 (W.wrt n hn))
  |succ k ih=>
    intro n hk hn;have pn:=W.wrt n hn;have n0:=Z9 pn;cases he:(ln S n).isEmpty with
    |false=>exact .inl ⟨n,hn,Und.refl n,(λ z=>by rw[z]at he;cases he),Zc3 n0 he⟩
    |true=>
      have hem:ln S n=[]:=List.isEmpty_iff.mp he;rw[Zeq n0 he];rcases Yj pn with hg|⟨p,i,hi,rfl,pp,hd⟩
      . right;refine⟨by rw[ZfJ hg];exact J7 rfl,λ a ha ⟨j,h1,h2⟩=>?_⟩;rw[Zbe hg]at h2;have:j=0:=by omega
        subst this;rw[<- show n=a from h1];exact hem
      . rw[Yd];have hp:=W.par p i hn;have:=Zav (Zbd p i);rw[Yd]at this;rcases ih p (by omega) hp with ⟨a,h1,h2,h3,h4⟩|⟨h1,h2⟩
        . refine .inl ⟨a,h1,?_,h3,h4⟩;obtain⟨j,q1,q2⟩:=h2;exact⟨j+1,by rw[X3,Yd];exact q1,by rw[ZX];omega⟩
        . refine .inr ⟨h1,λ a ha ⟨j,q1,q2⟩=>?_⟩;cases j with
          |zero=>rw[<- show L2.kid p i=a from q1];exact hem
          |succ j=>
            rw[X3,Yd]at q1;exact h2 a ha ⟨j,q1,by rw[ZX]at q2;omega⟩
theorem ZhX {n:Str}(h:pok n=true):ZJ n<=5:=by
 unfold pok at h;simp only[and_eq_true,decide_eq_true_eq]at h;rw[Xw];exact h.1.2
theorem Zba {S:Mo}{n:Str}(hp:pok n=true)(h:has S.ds n=false):ln S n=[(n,1)]:=by
 have:=ZhX hp;unfold ln;rw[show 6 - ZJ n=(5 - ZJ n)+1 by omega,Zbb h]
theorem Zen {S:Mo}{n:Str}(hp:pok n=true)(h:has S.ds n=true):ln S n=(fil ((ZK S n).map (ln S))).flatten.map (scU ((fil ((ZK S n).map (ln S))).length:Nat)):=by
  have:=ZhX hp;have e:(ZK S n).map (ln S)=(ZK S n).map (lnN S (5 - ZJ n)):=by
    refine map_congr_left λ c hc=>?_;unfold ZK Zbv at hc;obtain⟨i,_,rfl⟩:=List.mem_map.mp hc;unfold ln;rw[ZX,show 6 - (ZJ n+1)=5 - ZJ n by omega]
  rw[e];unfold ln;rw[show 6 - ZJ n=(5 - ZJ n)+1 by omega,XY h]
theorem ZhD {S:Mo}(W:Wf S.bs S.ds):∀(j:Nat)(x a:Str),has S.bs x=true->has S.ds x=false->upn j x=a->ZJ x=ZJ a+j->has S.bs a=true/\ln S a≠[]
  | 0,x,a,hx,hd,h,_=>by
    rw[<- show x=a from h];exact⟨hx,by rw[Zba (W.wrt x hx) hd];exact λ z=>by cases z⟩
  | j+1,x,a,hx,hd,h,hdt=>by
    have hc:up (upn j x)=a:=h;have key:has S.bs (upn j x)=true/\ln S (upn j x)≠[]/\ZJ (upn j x)=ZJ a+1:=by
      have dd:∀(j:Nat)(x:Str),has S.bs x=true->j<=ZJ x->ZJ (upn j x)+j=ZJ x/\has S.bs (upn j x)=true:=by
        intro j
        induction j with
        |zero=>exact λ x hx _=>⟨rfl,hx⟩
        |succ j ih=>
          intro x hx hj;rcases Yj (W.wrt x hx) with hg|⟨p,i,hi,rfl,pp,_⟩
          . rw[Zbe hg]at hj;omega
          . rw[X3,Yd,ZX];have:=ih p (W.par p i hx) (by rw[ZX]at hj;omega);exact⟨by omega,this.2⟩
      have d1:=dd j x hx (by omega);exact⟨d1.2,(ZhD W j x (upn j x) hx hd rfl (by omega)).2,by omega⟩
    obtain⟨k1,k2,k3⟩:=key;rcases Yj (W.wrt _ k1) with hg|⟨p,i,hi,e,pp,_⟩
    . rw[Zbe hg]at k3;omega
    . rw[e,Yd]at hc;subst hc;rw[e]at k1 k2;have hp:=W.par p i k1;refine⟨hp,?_⟩;cases hdp:has S.ds p with
      |false=>rw[Zba pp hdp];exact λ z=>by cases z
      |true=>
        rw[Zen pp hdp];intro z;rw[List.map_eq_nil_iff,Y3]at z;have nkl:=W.few p;have hi2:=(W.cnt p i (by omega)).mp k1;have:ln S (L2.kid p i)∈(ZK S p).map (ln S):=List.mem_map.mpr ⟨_,List.mem_map.mpr ⟨i,List.mem_range.mpr hi2,rfl⟩,rfl⟩;exact k2 (List.flatten_eq_nil_iff.mp z _ this)
theorem ZfO {nm:Str}:∀(k:Nat)(x:Str),x.length<=k->pok x=true->(x.cps.toList.take (nm.length+1)=nm.cps.toList++[46]↔∃ j,upn (j+1) x=nm/\ZJ x=ZJ nm+(j+1)):=by
  intro k
  induction k with
  |zero=>intro x hk hp;exact absurd (by omega) (Z9 hp)
  |succ k ih=>
    intro x hk hp;have nl:nm.cps.toList.length=nm.length:=length_toList;rcases Yj hp with hg|⟨p,i,hi,rfl,pp,hd⟩
    . constructor
      . intro h;have:46∈x.cps.toList:=List.mem_of_mem_take (by rw[h];simp);exact absurd this (Zdy hg)
      . rintro⟨j,_,h2⟩;rw[Zbe hg]at h2;omega
    . have e:(L2.kid p i).cps.toList=p.cps.toList++46::(toString ((i:Int)+1):Str).cps.toList:=by
        unfold L2.kid;rw[Ym,Ym,ZbL,append_assoc];rfl
      have nt:=X4 ((i:Int)+1);have pl:p.cps.toList.length=p.length:=length_toList;have plt:=Zav (Zbd p i);rw[Yd]at plt;have ihp:=ih p (by omega) pp;have low:nm.length<p.length->((L2.kid p i).cps.toList.take (nm.length+1)=p.cps.toList.take (nm.length+1)):=λ h=>by
        rw[e,List.take_append_of_le_length (by omega)]
      have up2:(∃ j,upn (j+1) (L2.kid p i)=nm/\ZJ (L2.kid p i)=ZJ nm+(j+1))↔p=nm\/∃ j,upn (j+1) p=nm/\ZJ p=ZJ nm+(j+1):=by
        constructor
        . rintro⟨j,h1,h2⟩;rw[X3,Yd]at h1;rw[ZX]at h2;cases j with
          |zero=>exact .inl h1
          |succ j=>exact .inr ⟨j,h1,by omega⟩
        . rintro(rfl|⟨j,h1,h2⟩)
          . exact⟨0,by rw[X3,Yd];rfl,by rw[ZX]⟩
          . exact⟨j+1,by rw[X3,Yd];exact h1,by rw[ZX];omega⟩
      rw[up2];rcases Nat.lt_trichotomy nm.length p.length with c|c|c
      . rw[low c,ihp];constructor
        . exact .inr
        . rintro(z|z)
          . rw[z]at c;omega
          . exact z
      . constructor
        . intro h;left;rw[e,c,<- pl,List.take_append,List.take_of_length_le (by omega)]at h;rw[show p.cps.toList.length+1 - p.cps.toList.length=1 by omega]at h;have h2:p.cps.toList++[46]=nm.cps.toList++[46]:=h;exact YW (List.append_cancel_right h2)
        . rintro(rfl|z)
          . rw[e,<- pl,List.take_append,List.take_of_length_le (by omega),show p.cps.toList.length+1 - p.cps.toList.length=1 by omega];rfl
          . exfalso;have:=ihp.mpr z;have h3:=congrArg List.length this;rw[length_take,length_append,nl,pl]at h3;simp at h3;omega
      . constructor
        . intro h;exfalso;have h4:(L2.kid p i).cps.toList[nm.length]? = some 46:=by
            have z:=congrArg (λ l=>l[nm.length]?) h;have z:((L2.kid p i).cps.toList.take (nm.length+1))[nm.length]? = (nm.cps.toList++[46])[nm.length]? := z;rw[List.getElem?_take,if_pos (by omega),getElem?_append_right (by omega),nl,sub_self]at z;exact z
          rw[e,getElem?_append_right (by omega),show nm.length - p.cps.toList.length=(nm.length - p.cps.toList.length - 1)+1 by omega,List.getElem?_cons_succ]at h4;exact nt (mem_of_getElem? h4)
        . rintro(rfl|z)
          . omega
          . exfalso;have:=ihp.mpr z;have h3:=congrArg List.length this;rw[length_take,length_append,nl,pl]at h3;simp at h3;omega
noncomputable def blw (S:Mo)(n:Str):Prop:=∃ x,has S.bs x=true/\has S.ds x=false/\∃ j,upn (j+1) x=n/\ZJ x=ZJ n+(j+1)
theorem Zgk {S:Mo}(W:Wf S.bs S.ds){n:Str}:blw S n↔∃ x,has S.bs x=true/\has S.ds x=false/\x.cps.toList.take (n.length+1)=n.cps.toList++[46]:=
 ⟨λ⟨x,h1,h2,h3⟩=>⟨x,h1,h2,(ZfO _ x (le_refl _) (W.wrt x h1)).mpr h3⟩,λ⟨x,h1,h2,h3⟩=>⟨x,h1,h2,(ZfO _ x (le_refl _) (W.wrt x h1)).mp h3⟩⟩
theorem ZiK {S:Mo}(W:Wf S.bs S.ds)(hl:S.bs.length<=98){n:Str}(hn:has S.bs n=true):One (hrs S n)/\((hrs S n).map (·.1)).Nodup/\∀ e∈hrs S n,0<e.2/\e.2<=98 ^ 6:=by
  have p98:∀ k,k<=6->(98:Int) ^ k<=98 ^ 6:=λ k hk=>by
    rcases(show k=0\/k=1\/k=2\/k=3\/k=4\/k=5\/k=6 by omega) with e|e|e|e|e|e|e <;> rw[e] <;> decide
  rcases Xe W n.length n (le_refl _) hn with ⟨a,h1,_,h3,h4⟩|⟨h1,_⟩
  . rw[h4];have lo:=Y7 W hl (6 - ZJ a) a h1;exact⟨ZfZ W hl _ a h1 h3,lo.nd,λ e he=>⟨(lo.dn e he).1,Int.le_trans (lo.dn e he).2 (p98 _ (by omega))⟩⟩
  . rw[h1];refine⟨by show(0:Int) * 1+1=1 * 1;decide,by simp,λ e he=>?_⟩;rw[List.mem_singleton.mp he];exact⟨by show(0:Int)<1;decide,by show(1:Int)<=98 ^ 6;decide⟩
theorem ZhO {S:Mo}(W:Wf S.bs S.ds)(hl:S.bs.length<=98){n:Str}(hn:has S.bs n=true) :
    (¬ blw S (wd n)/\has S.ds (wd n)=true->hrs S n=[(("crown":Str),(1:Int))]) /\
    (¬ (¬ blw S (wd n)/\has S.ds (wd n)=true)->∀ e∈hrs S n,has S.bs e.1=true/\has S.ds e.1=false/\wd e.1=wd n):=by
  have pn:=W.wrt n hn;obtain⟨gw_,hw⟩:=ZgT W n.length n (le_refl _) pn (by rw[ZcT (Z9 pn) hn];exact λ z=>Z9 pn (by rw[z];rfl));have rootn:∀ x,pok x=true->Und (wd x) x:=by
    intro x
    suffices z:∀(k:Nat)(x:Str),x.length<=k->pok x=true->Und (wd x) x from z x.length x (le_refl _)
    intro k
    induction k with
    |zero=>intro x hk hp;exact absurd (by omega) (Z9 hp)
    |succ k ih=>
      intro x hk hp;rcases Yj hp with hg|⟨p,i,hi,rfl,pp,_⟩
      . rw[ZgU hg];exact Und.refl x
      . have:=Zav (Zbd p i);rw[Yd]at this;obtain⟨j,h1,h2⟩:=ih p (by omega) pp;rw[ZdN];exact⟨j+1,by rw[X3,Yd];exact h1,by rw[ZX];omega⟩
  constructor
  . rintro⟨nb,hd⟩;rcases Xe W n.length n (le_refl _) hn with ⟨a,h1,h2,h3,h4⟩|⟨h1,_⟩
    . exfalso;obtain⟨e,he⟩:=List.exists_mem_of_ne_nil _ h3;have lo:=Y7 W hl (6 - ZJ a) a h1;have b1:=lo.bk e he;have b2:=lo.dd e he;obtain⟨j,u1,u2⟩:=lo.un e he;have w1:=Zch j e.1 a (W.wrt _ b1) u1 u2;obtain⟨j2,v1,v2⟩:=h2;have w2:=Zch j2 n a pn v1 v2;obtain⟨j3,r1,r2⟩:=rootn e.1 (W.wrt _ b1);rw[w1,<- w2]at r1 r2;cases j3 with
      |zero=>rw[show e.1=wd n from r1]at b2;rw[b2]at hd;cases hd
      |succ j3=>exact nb ⟨e.1,b1,b2,j3,r1,r2⟩
    . exact h1
  . intro hc;rcases Xe W n.length n (le_refl _) hn with ⟨a,h1,h2,h3,h4⟩|⟨h1,h2⟩
    . rw[h4];intro e he;have lo:=Y7 W hl (6 - ZJ a) a h1;obtain⟨j,u1,u2⟩:=lo.un e he;obtain⟨j2,v1,v2⟩:=h2;exact⟨lo.bk e he,lo.dd e he,(Zch j e.1 a (W.wrt _ (lo.bk e he)) u1 u2).trans (Zch j2 n a pn v1 v2).symm⟩
    . exfalso;have z:=h2 (wd n) hw (rootn n pn);apply hc;refine⟨λ⟨x,b1,b2,j,r1,r2⟩=>(ZhD W (j+1) x (wd n) b1 b2 r1 r2).2 z,?_⟩;cases hd:has S.ds (wd n) with
      |true=>rfl
      |false=>rw[Zba (ZcF gw_) hd]at z;cases z
theorem ZhA {w x y:Int}(hw:0<w)(hx:0<=x)(hy:0<y):lo1 (w * x) (w * y)=lo1 x y/\lo2 (w * x) (w * y)=lo2 x y:=Sh.lq_mul hw hx hy
theorem ZhB {x y x' y':Int}(hx:0<=x)(hy:0<y)(hx':0<=x')(hy':0<y')(h:x * y'=x' * y):lo1 x y=lo1 x' y'/\lo2 x y=lo2 x' y':=by
 have a:=ZhA hy' hx hy;have b:=ZhA hy hx' hy';rw[show y' * x=y * x' by rw[Int.mul_comm,h,Int.mul_comm],show y' * y=y * y' by rw[Int.mul_comm]]at a;exact⟨a.1.symm.trans b.1,a.2.symm.trans b.2⟩
noncomputable def sub (h:Str)(m l:List Ut):List Ut:=l.flatMap λ e=>if e.1=h then m.map (scU e.2) else [e]
theorem ZN (h:Str)(m:List Ut)(e:Ut)(l:List Ut):sub h m (e::l)=(if e.1=h then m.map (scU e.2) else [e])++sub h m l:=by unfold sub;rw[List.flatMap_cons]
theorem Zb6 (h:Str)(m a b:List Ut):sub h m (a++b)=sub h m a++sub h m b:=by unfold sub;rw[List.flatMap_append]
theorem Zg6 (h:Str)(m:List Ut)(F:Int):∀ l:List Ut,sub h m (l.map (scU F))=(sub h m l).map (scU F)
  |[]=>rfl
  | e::r=>by
    rw[map_cons,ZN,ZN,map_append,Zg6 h m F r];congr 1;show(if e.1=h then m.map (scU (e.2 * F)) else [scU F e])=_
    by_cases c:e.1=h
    . rw[if_pos c,if_pos c,map_map];refine map_congr_left λ u _=>?_;show(u.1,u.2 * (e.2 * F))=(u.1,u.2 * e.2 * F);rw[Int.mul_assoc]
    . rw[if_neg c,if_neg c];rfl
theorem ZeC (h:Str)(m:List Ut):∀ ls:List (List Ut),sub h m ls.flatten=(ls.map (sub h m)).flatten
  |[]=>rfl
  |l::r=>by rw[flatten_cons,Zb6,map_cons,flatten_cons,ZeC h m r]
theorem Zbj {h:Str}{m:List Ut}(hm:m≠[])(l:List Ut):(sub h m l).isEmpty=l.isEmpty:=by
  cases l with
  |nil=>rfl
  |cons e r=>
    rw[ZN]
    by_cases c:e.1=h
    . rw[if_pos c];cases m with
      |nil=>exact absurd rfl hm
      |cons u t=>rfl
    . rw[if_neg c];rfl
theorem Zf8 {h:Str}{m:List Ut}(hm:m≠[]):∀ ls:List (List Ut),fil (ls.map (sub h m))=(fil ls).map (sub h m)
  |[]=>rfl
  | l::r=>by
    have ih:=Zf8 (h:=h) hm r;unfold fil at ih ⊢;rw[map_cons];cases he:l.isEmpty with
    |true=>rw[filter_cons_of_neg (by rw[Zbj hm,he];decide),filter_cons_of_neg (by rw[he];decide),ih]
    |false=>rw[filter_cons_of_pos (by rw[Zbj hm,he];rfl),filter_cons_of_pos (by rw[he];rfl),map_cons,ih]
theorem Zg7 {h:Str}{m m' l l':List Ut}(p:m.Perm m')(q:l.Perm l'):(sub h m l).Perm (sub h m' l'):=by
  have p1:∀ l,(sub h m l).Perm (sub h m' l):=λ l=>by
    induction l with
    |nil=>exact .refl _
    |cons e r ih=>
      rw[ZN,ZN];refine List.Perm.append ?_ ih
      by_cases c:e.1=h
      . rw[if_pos c,if_pos c];exact p.map _
      . rw[if_neg c,if_neg c]
  refine(p1 l).trans ?_
  induction q with
  |nil=>exact .refl _
  |cons x _ ih=>rw[ZN,ZN];exact List.Perm.append (.refl _) ih
  |swap x y l=>
    rw[ZN,ZN,ZN,ZN,<- append_assoc,<- append_assoc];exact List.Perm.append List.perm_append_comm (.refl _)
  |trans _ _ i1 i2=>exact i1.trans i2
section
variable {S:Mo}{h:Str}
theorem ZfD (n:Str):has (S.step (.death h)).ds n=(has S.ds n || decide (h=n)):=by
 show has (S.ds++[(h,S.y)]) n=_;rw[ZQ]
theorem ZhC (W:Wf S.bs S.ds)(hb:has S.bs h=true)(hd:has S.ds h=false)(hm:ln (S.step (.death h)) h≠[]):∀(k:Nat)(a:Str),6<=ZJ a+k->has S.bs a=true->ln (S.step (.death h)) a=sub h (ln (S.step (.death h)) h) (ln S a)
  |0,a,hk,ha=>by have:=ZhX (W.wrt a ha);omega
  | k+1,a,hk,ha=>by
    have pa:=W.wrt a ha;cases hda:has S.ds a with
    |false=>
      rw[Zba pa hda]
      by_cases c:a=h
      . subst c;rw[ZN,if_pos rfl];show _=(ln (S.step (.death a)) a).map (scU 1)++[];rw[append_nil]
        conv=>lhs;rw[<- List.map_id (ln (S.step (.death a)) a)]
        refine map_congr_left λ u _=>?_;show u=(u.1,u.2 * 1);rw[Int.mul_one]
      . rw[ZN,if_neg c];exact Zba pa (by rw[ZfD,hda,decide_eq_false (λ z=>c z.symm)];rfl)
    |true=>
      have hda':has (S.step (.death h)).ds a=true:=by rw[ZfD,hda];rfl
      rw[Zen pa hda',Zen pa hda];have ek:ZK (S.step (.death h)) a=ZK S a:=rfl;have nkl:=W.few a;have lim:=W.lim;have em:(ZK S a).map (ln (S.step (.death h)))=((ZK S a).map (ln S)).map (sub h (ln (S.step (.death h)) h)):=by
        rw[map_map];refine map_congr_left λ c hc=>?_;unfold ZK Zbv at hc;obtain⟨i,hi,rfl⟩:=List.mem_map.mp hc;exact ZhC W hb hd hm k _ (by rw[ZX];omega) ((W.cnt a i (by have:=List.mem_range.mp hi;omega)).mpr (List.mem_range.mp hi))
      rw[ek,em,Zf8 hm,length_map,<- ZeC,Zg6]
theorem blw_ne (W:Wf S.bs S.ds)(hb:has S.bs h=true)(hd:has S.ds h=false)(B:blw S h):ln (S.step (.death h)) h≠[]:=by
  obtain⟨x,b1,b2,j,r1,r2⟩:=B;have W':Wf (S.step (.death h)).bs (S.step (.death h)).ds:=W.death hb;refine(ZhD W' (j+1) x h b1 ?_ r1 r2).2;rw[ZfD,b2,decide_eq_false]
  . rfl
  . rintro rfl;omega
theorem Zdx (W:Wf S.bs S.ds)(hb:has S.bs h=true):("crown":Str)≠h:=λ e=>by
 have:=W.wrt h hb;rw[<- e]at this;revert this
 decide +kernel
theorem ZiI (W:Wf S.bs S.ds)(hb:has S.bs h=true)(hd:has S.ds h=false)(hm:ln (S.step (.death h)) h≠[]):∀(k:Nat)(n:Str),n.length<=k->(n.length=0\/has S.bs n=true)->hrs (S.step (.death h)) n=sub h (ln (S.step (.death h)) h) (hrs S n):=by
  have crown:sub h (ln (S.step (.death h)) h) [(("crown":Str),(1:Int))]=[(("crown":Str),(1:Int))]:=by
    rw[ZN,if_neg (Zdx W hb)];rfl
  intro k
  induction k with
  |zero=>intro n hk _;rw[J7 (by omega),J7 (by omega),crown]
  |succ k ih=>
    intro n hk hn
    by_cases c:n.length=0
    . rw[J7 c,J7 c,crown]
    . have hn:=hn.resolve_left c;have pn:=W.wrt n hn;have e:=ZhC W hb hd hm 6 n (by omega) hn;have e2:(ln (S.step (.death h)) n).isEmpty=(ln S n).isEmpty:=by rw[e];exact Zbj hm _
      cases he:(ln S n).isEmpty with
      |false=>rw[Zc3 c he,Zc3 c (by rw[e2];exact he),e]
      |true=>
        rw[Zeq c he,Zeq c (by rw[e2];exact he)];refine ih (up n) (by have:=Zav c;omega) ?_;rcases Yj pn with hg|⟨p,i,hi,rfl,pp,_⟩
        . left;rw[ZfJ hg];rfl
        . right;rw[Yd];exact W.par p i hn
theorem ZhN (W:Wf S.bs S.ds)(hb:has S.bs h=true)(hm:ln (S.step (.death h)) h≠[]):hrs (S.step (.death h)) h=ln (S.step (.death h)) h:=
 Zc3 (Z9 (W.wrt h hb)) (by cases e:ln (S.step (.death h)) h with|nil=>exact absurd e hm|cons=>rfl)
end
theorem rs_bd:∀(l:List Ut)(z:Int×Int)(i:Nat),(∀ e∈l,0<e.2/\e.2<=98 ^ 6)->0<=z.1->0<z.2->z.1+z.2<=2 ^ (41 * i)->(rsf z l).1+(rsf z l).2<=2 ^ (41 * (i+l.length))
  |[],z,i,_,_,_,h=>h
  | e::r,z,i,h,h1,h2,h3=>by
    have he:=h e (by simp);have z:=rs_bd r (stp z e) (i+1) (λ x hx=>h x (by simp[hx])) (Int.add_nonneg (Int.mul_nonneg h1 (Int.le_of_lt he.1)) (Int.le_of_lt h2)) (Int.mul_pos h2 he.1) ?_
    . rw[length_cons,show i+(r.length+1)=i+1+r.length by omega];exact z
    . show z.1 * e.2+z.2+z.2 * e.2<=_;have b:e.2+1<=(2:Int) ^ 41:=by
        have:=he.2;have q:(98:Int) ^ 6+1<=2 ^ 41:=by decide
        omega
      have p1:(z.1+z.2) * (e.2+1)<=2 ^ (41 * i) * 2 ^ 41:=Int.mul_le_mul h3 b (by omega) (Int.le_of_lt (Int.pow_pos (by decide)));rw[show 41 * (i+1)=41 * i+41 by omega,Int.pow_add];have:z.1 * e.2+z.2+z.2 * e.2<=(z.1+z.2) * (e.2+1):=by grind
      omega
theorem lo_le1 {x y:Int}(hx:0<=x)(hy:0<y):lo1 x y<=x/\lo2 x y<=y:=by
 have g:=Sh.G_pos (a:=x) hy;unfold lo1 lo2;exact⟨Int.ediv_le_self _ hx,Int.ediv_le_self _ (Int.le_of_lt hy)⟩
theorem ZfY {y:Int}(hy:0<y):lo1 y y=1/\lo2 y y=1:=by
  have g:Sh.G y y=y:=by
    unfold Sh.G;rw[Nat.gcd_self];omega
  unfold lo1 lo2;rw[g,Int.ediv_self (by omega)];exact⟨rfl,rfl⟩
theorem ZiD {P Q d:Int}(hP:0<=P)(hQ:0<Q)(hd:0<d):Zdk (lo1 P Q * d+1 * lo2 P Q) (lo2 P Q * d)=[.int (lo1 (P * d+Q) (Q * d)), .int (lo2 (P * d+Q) (Q * d))]:=by
 have L:=Sh.low hP hQ;have a0:0<=lo1 P Q:=L.q0;have b0:0<lo2 P Q:=L.r0;have eq:lo1 P Q * Q=P * lo2 P Q:=L.eq;have:=ZhB (x:=lo1 P Q * d+1 * lo2 P Q) (y:=lo2 P Q * d) (x':=P * d+Q) (y':=Q * d) (Int.add_nonneg (Int.mul_nonneg a0 (Int.le_of_lt hd)) (by omega)) (Int.mul_pos b0 hd) (Int.add_nonneg (Int.mul_nonneg hP (Int.le_of_lt hd)) (Int.le_of_lt hQ)) (Int.mul_pos hQ hd) (by grind);show [V.int (lo1 _ _),V.int (lo2 _ _)]=_;rw[this.1,this.2]
theorem ZeD (a b:Str):decide (V.str a=V.str b)=decide (a=b):=by
  by_cases c:a=b
  . rw[decide_eq_true c,decide_eq_true (by rw[c])]
  . rw[decide_eq_false c,decide_eq_false (λ z=>c (by injection z))]
theorem Ziq (x n:Str):decide (V.str (Txt.slice x none (some ((n.length:Int)+1)))=V.str (n++dot))=decide (x.cps.toList.take (n.length+1)=n.cps.toList++[46]):=by
  rw[ZeD];refine decide_eq_decide.mpr ?_;have e:=cut_to x (n.length+1);rw[show(((n.length+1:Nat):Int))=(n.length:Int)+1 by omega]at e;constructor
  . intro z;rw[<- e,z,Ym,ZbL]
  . intro z;refine YW ?_;rw[e,z,Ym,ZbL]
theorem ZgX {H:Hp}{a:Addr}{o:HO}(h:H a=some o):upd H a o=H:=by
  funext b
  by_cases c:b=a
  . rw[c,Zb,h]
  . rw[Ze c]
theorem ZfN {l F r:List Ut}{u:Ut}(nd:(l.map (·.1)).Nodup)(e:l=(F++[u])++r):u.1∉Yk (F.map ue)/\F.length<l.length:=by
 subst e;rw[map_append,map_append,nodup_append,nodup_append]at nd;refine⟨λ z=>?_,by rw[length_append,length_append];show _<_+1+_;omega⟩;rw[J6]at z;exact nd.1.2.2 u.1 z u.1 (by simp) rfl
theorem Zh6 {d:Int}(h:0<d/\d<2 ^ 100):d.natAbs<BIG:=JW (m:=100) (Int.le_of_lt h.1) h.2 (by decide)
theorem ZiL {S:Mo}(W:Wf S.bs S.ds)(hl:S.bs.length<=98){n:Str}(hn:has S.bs n=true):(hrs S n).length<=S.bs.length:=by
  rcases Xe W n.length n (le_refl _) hn with ⟨a,h1,_,h3,h4⟩|⟨h1,_⟩
  . rw[h4];have lo:=Y7 W hl (6 - ZJ a) a h1;have:=Za8 lo.nd (m:=S.bs.map (·.1)) (λ x hx=>by
      obtain⟨u,hu,rfl⟩:=List.mem_map.mp hx;exact(Yl S.bs u.1).mp (lo.bk u hu))
    rw[length_map,length_map]at this;exact this
  . rw[h1];have:=List.length_pos_of_mem ((Yl S.bs n).mp hn);rw[length_map]at this;exact this
theorem ZiJ {S:Mo}(W:Wf S.bs S.ds)(hl:S.bs.length<=98){n:Str}(hn:has S.bs n=true):∀ e∈hrs S n,PyData.strOk e.1=true:=by
  rcases Xe W n.length n (le_refl _) hn with ⟨a,h1,_,h3,h4⟩|⟨h1,_⟩
  . rw[h4];have lo:=Y7 W hl (6 - ZJ a) a h1;exact λ e he=>W.ok (lo.bk e he)
  . rw[h1];intro e he;rw[List.mem_singleton.mp he]
    decide +kernel
theorem ne_led {es:List En}(h:∀ e∈es,PyData.strOk e.1=true):(if true=true then !PyData.eqv (Zb3 es) (Zb3 es) else PyData.eqv (Zb3 es) (Zb3 es))=false:=by
 rw[if_pos rfl,Zga h];rfl
structure HLd (S:Mo)(n:Str)(es:List En)(us:List Ut):Prop where
  eq:us.map ue=es
  pm:us.Perm (hrs S n)
  srt:es.Pairwise λ a b=>ltS a.1 b.1
  one:One us
  nd:(us.map (·.1)).Nodup
  dn:∀ e∈us,0<e.2/\e.2<=98 ^ 6
  len:us.length<=S.bs.length
  str:∀ e∈es,PyData.strOk e.1=true
  nrm:∀ e∈es,Zdf e/\e.2.1≠0
theorem HLd.of {S:Mo}{n:Str}{es:List En}(W:Wf S.bs S.ds)(hl:S.bs.length<=98)(hn:has S.bs n=true)(c:Can ((hrs S n).map ue) es):∃ us,HLd S n es us:=by
  obtain⟨o,nd,dn⟩:=ZiK W hl hn;have pm:=Zdd nd c;have eq:=Zfb c;have hle:=ZiL W hl hn;refine⟨es.map bk,eq,pm,c.1,?_,((pm.map (·.1)).nodup_iff).mpr nd,λ e he=>dn e (pm.mem_iff.mp he),by rw[pm.length_eq];exact hle,λ e he=>?_,λ e he=>?_⟩
  . unfold One;rw[show rs (es.map bk)=rs (hrs S n) from Zij pm _];exact o
  . obtain⟨u,hu,rfl⟩:=List.mem_map.mp ((c.2.1 e).mp he).1;exact ZiJ W hl hn u hu
  . obtain⟨u,hu,rfl⟩:=List.mem_map.mp ((c.2.1 e).mp he).1;exact⟨Zeh (dn u hu).1,by show(1:Int)≠0;decide⟩
theorem ZiM {S:Mo}(W:Wf S.bs S.ds)(hl:S.bs.length<=98){n:Str}(hn:has S.bs n=true){e:Ut}(he:e∈hrs S n)(hb:has S.bs e.1=true):has S.ds e.1=false:=by
  rcases Xe W n.length n (le_refl _) hn with ⟨a,h1,_,h3,h4⟩|⟨h1,_⟩
  . rw[h4]at he;exact(Y7 W hl (6 - ZJ a) a h1).dd e he
  . rw[h1]at he;rw[List.mem_singleton.mp he]at hb;exact absurd rfl (Zdx W hb)
theorem ZdD {S:Mo}{n h:Str}{es es1 es2 es3:List En}{us us1 us2:List Ut}(W:Wf S.bs S.ds)(hl:S.bs.length<=40)(hn:has S.bs n=true)(hb:has S.bs h=true)(hd:has S.ds h=false)(B:blw S h)(H0:HLd S n es us)(H1:HLd (S.step (.death h)) n es1 us1)(H2:HLd (S.step (.death h)) h es2 us2) :
    ((sub h us2 us).map (·.1)).Nodup/\(sub h us2 us).length<60/\(Can ((sub h us2 us).map ue) es3->es1=es3):=by
  have hm:=blw_ne W hb hd B;have e:=ZiI W hb hd hm n.length n (le_refl _) (.inr hn);have e2:=ZhN W hb hm;have p2:=H2.pm;rw[e2]at p2;have p:(sub h us2 us).Perm (hrs (S.step (.death h)) n):=by rw[e];exact Zg7 p2 H0.pm
  have q:us1.Perm (sub h us2 us):=H1.pm.trans p.symm;refine⟨((q.map (·.1)).nodup_iff).mp H1.nd,?_,λ c=>?_⟩
  . rw[<- q.length_eq];have:=H1.len;have:(S.step (.death h)).bs.length=S.bs.length:=rfl;omega
  . have c1:Can (us1.map ue) es1:=⟨H1.srt,λ x=>⟨λ hx=>⟨by rw[H1.eq];exact hx,(H1.nrm x hx).2⟩,λ hx=>by rw[H1.eq]at hx;exact hx.1⟩,by rw[H1.eq];exact le_refl _⟩;exact Can.uniq (c1.perm (q.map ue)) c
theorem Zf3 (l:List Str)(k:Int)(h0:0<l.length):∃ x∈l,atI (l.map V.str) (k % ((l.map V.str).length:Int))=some (.str x):=by
 rw[length_map];have h1:=emod_nonneg k (show(l.length:Int)≠0 by omega);have h2:=emod_lt_of_pos k (show(0:Int)<(l.length:Int) by omega);obtain⟨j,hj⟩:=Int.eq_ofNat_of_zero_le h1;rw[hj];have hjl:j<l.length:=by omega
 exact⟨l[j],getElem_mem hjl,Xy (by rw[getElem?_map,getElem?_eq_getElem hjl];rfl)⟩
theorem Mo.Ok.up2 {S:Mo}{k j:Nat}(O:S.Ok k)(h:k<=j):S.Ok j:=⟨O.wf,O.cw,le_trans O.lb h,le_trans O.ld h,le_trans O.lc h⟩
theorem Yt.offH {H:Hp}{m x:Addr}{S:Mo}{R:List Addr}(M:Yt H m S R)(hx:x∈R):(∃ c e1 e2 e3,H x=some (.tup [.ref c, .ref e1, .ref e2, .ref e3])/\H c=some (.lst [.int S.y]))\/H x=some (.lst [.int S.y])\/∃ es,H x=some (.dK es):=by
  obtain⟨c,e1,e2,e3,B,rfl⟩:=M.ex;unfold Xb at hx;rcases List.mem_cons.mp hx with rfl|hx
  . exact .inl ⟨c,e1,e2,e3,B.tup,B.clk⟩
  rcases List.mem_cons.mp hx with rfl|hx
  . exact .inr (.inl B.clk)
  rcases List.mem_cons.mp hx with rfl|hx
  . exact .inr (.inr ⟨_,B.h1⟩)
  rcases List.mem_cons.mp hx with rfl|hx
  . exact .inr (.inr ⟨_,B.h2⟩)
  rcases List.mem_cons.mp hx with rfl|hx
  . exact .inr (.inr ⟨_,B.h3⟩)
  . cases hx
section
variable {H H':Hp}{m x:Addr}{S:Mo}{R:List Addr}
theorem Yt.offH_tup {s:Str}{vs:List V}(M:Yt H m S R)(k:ZS R H H')(e:H x=some (.tup (.str s::vs))):H' x=some (.tup (.str s::vs)):=by
 refine k.1 x _ (λ hx=>?_) e;rcases M.offH hx with ⟨c,e1,e2,e3,z,_⟩|z|⟨es,z⟩ <;> rw[e]at z <;> cases z
theorem Led.keepM {l:Addr}{es:List En}(h:Led H l es)(M:Yt H m S R)(k:ZS R H H')(nl:l∉R):Led H' l es:=by
 obtain⟨ws,e,h1,h2⟩:=h;exact⟨ws,e,k.1 _ _ nl h1,λ w hw=>M.offH_tup k (h2 w hw)⟩
theorem Led.keepW {g:Ga}{w l:Addr}{es:List En}(h:Led H l es)(W:WorldAt g H w S R)(k:ZS R H H')(nl:l∉R):Led H' l es:=by
 obtain⟨ws,e,h1,h2⟩:=h;exact⟨ws,e,k.1 _ _ nl h1,λ w hw=>k.1 _ _ (W.no_tup (h2 w hw)) (h2 w hw)⟩
end
end L2
namespace L2
open PySem PySem.Spec PyProof.Rows
theorem us0 (us:List Value)(h:us.length=0):us=[]:=List.eq_nil_of_length_eq_zero h
theorem us1 (us:List Value)(h:us.length=1):∃ a0,us=[a0]:=by
  cases us with
  |nil=>cases h
  |cons a0 us=>exact⟨a0,by rw[us0 us (Nat.succ.inj h)]⟩
theorem us2 (us:List Value)(h:us.length=2):∃ a0 a1,us=[a0,a1]:=by
  cases us with
  |nil=>cases h
  |cons a0 us=>
    obtain⟨a1,e⟩:=us1 us (Nat.succ.inj h);exact⟨a0,a1,by rw[e]⟩
theorem us3 (us:List Value)(h:us.length=3):∃ a0 a1 a2,us=[a0,a1,a2]:=by
  cases us with
  |nil=>cases h
  |cons a0 us=>
    obtain⟨a1,a2,e⟩:=us2 us (Nat.succ.inj h);exact⟨a0,a1,a2,by rw[e]⟩
theorem h_ {j k:Nat}{A:Around}(h:Room k A)(e:j<=k:=by decide):Room j A:=h.mono e
noncomputable def GlP (K:Frag)(x:Str)(st:Stmt):Prop:=∃ f,nsIn K mainGlobals x=some (some (.ref f))/\∃ fd,Fun K x x st f fd
noncomputable def MtP (K:Frag)(C:Addr)(x q:Str)(st:Stmt):Prop:=∃ f,findIn K (.ref C) x=some (some (.ref f))/\isFn K (.ref f)=true/\∃ fd,Fun K x q st f fd
section
variable {K:Frag}{x q:Str}{st:Stmt}{f C:Addr}{oc:Value}{od an:Option Addr}{osl:Array (Option Value)}{kV doc pm cdv ct:Value}{fd:FuncData}
theorem glp_mk (a:nsIn K mainGlobals x=some (some (.ref f)))(l:K.lookup f=some ⟨oc,od, .func (fnOf x x (Xx st) (ZZ st) (Zh st) .none kV doc pm an cdv ct),osl⟩)(c:codeIn K cdv x=true)(k:keepIn K (.ref f)=true):GlP K x st:=⟨f,a,_,ZhR l c k⟩
theorem mtp_mk (a:findIn K (.ref C) x=some (some (.ref f)))(i:isFn K (.ref f)=true)(l:K.lookup f=some ⟨oc,od, .func (fnOf x q (Xx st) (ZZ st) (Zh st) .none kV doc pm an cdv ct),osl⟩)(c:codeIn K cdv q=true)(k:keepIn K (.ref f)=true):MtP K C x q st:=⟨f,a,i,_,ZhR l c k⟩
variable {P:Program}{w:World}{mg:Str->Option Value}{base h:Heap}{k:Nat}{ps:List Str}{sp:Sp}{CX:CXT}
noncomputable abbrev BinT (x q:Str)(st:Stmt)(ps:List Str):Prop:=∀(kV doc pm:Value)(an:Option Addr)(cdv ct:Value)(us:List Value),us.length=ps.length->bindArgs (fnOf x q (Xx st) (ZZ st) (Zh st) .none kV doc pm an cdv ct) ⟨us,[]⟩=pure (ps.zip us)
theorem ZR (X:K.In h)(G:h.Ns mainGlobals mg)(p:GlP K x st)(ok:∀ {f:Addr} {fd:FuncData},Fun K x x st f fd->FnOk P w K mg base CX0 k f fd ps sp)(b:BinT x x st ps):Dn P w K mg base k x ps sp:=by
 obtain⟨f,a,fd,F⟩:=p;exact⟨f,fd,ok F,mg_of X G a,F.kp,F.binds b⟩
theorem Zhe {N:List Str}{d:Nat}{sq:Nat->Sp}(X:K.In h)(G:h.Ns mainGlobals mg)(p:GlP K x st)(S:FnScope N ps (Zh st))(h0:∀ vs H Q E,¬ sq 0 vs H Q E)(ok:∀ {f:Addr} {fd:FuncData} {j:Nat},Fun K x x st f fd->Dn P w K mg base (d+1+j) x ps (sq j)->FnOk P w K mg base CX0 (d+1+j+1) f fd ps (sq (j+1)))(b:BinT x x st ps):∀ j,Dn P w K mg base (d+1+j) x ps (sq j)
  |0=>ZR X G p (λ F=>F.ok S (λ vs H Q E z=>absurd z (h0 vs H Q E)) (λ cdv A outer s H vs Q E hr z=>absurd z (h0 vs H Q E))) b
  |j+1=>ZR X G p (λ F=>ok F (Zhe X G p S h0 ok b j)) b
theorem Zgc (X:K.In h)(G:h.Ns mainGlobals mg)(p:GlP K x st)(ok:∀ {f:Addr} {fd:FuncData},Fun K x x st f fd->FnOk P w K mg base (CXR P w base) k f fd ps sp)(b:BinT x x st ps):Dx P w K mg base k x ps sp:=by
 obtain⟨f,a,fd,F⟩:=p;exact⟨f,fd,ok F,mg_of X G a,F.kp,F.binds b⟩
theorem Y4 (c:Cls K C)(p:MtP K C x q st)(ok:∀ {f:Addr} {fd:FuncData},Fun K x q st f fd->FnOk P w K mg base CX k f fd ps sp)(b:BinT x q st ps):Dm P w K mg base CX C k x ps sp:=by
 obtain⟨f,a,i,fd,F⟩:=p;exact⟨c,f,fd,ok F,⟨a,i,F.kp⟩,F.binds b⟩
theorem dk_mt {y:Str}(m:mg y=some (.ref C))(mk:makesIn K C=true)(kc:keepIn K (.ref C)=true)(p:MtP K C "__init__" q st)(ok:∀ {f:Addr} {fd:FuncData},Fun K "__init__" q st f fd->FnOk P w K mg base CX k f fd ps sp)(b:BinT "__init__" q st ps):Dk P w K mg base CX C k y ps sp:=by
 obtain⟨f,a,i,fd,F⟩:=p;exact⟨m,f,fd,ok F,⟨mk,a,i,kc⟩,F.binds b⟩
theorem la_gl {l:Str}(X:K.In h)(G:h.Ns mainGlobals mg){fa:Addr}(hfa:mg x=some (.ref fa))(p:GlP K x st)(b:∀(kV doc pm:Value)(an:Option Addr)(cdv ct:Value)(s:Shared)(v:Value),BindsTo s (fnOf x x (Xx st) (ZZ st) (Zh st) .none kV doc pm an cdv ct) ⟨[v],[]⟩ [(l,v)]):∃ fd,(∀(s:Shared)(v:Value),BindsTo s fd ⟨[v],[]⟩ [(l,v)])/\Fun K x x st fa fd:=by
 obtain⟨f,a,fd,F⟩:=p;have e:=hfa.symm.trans (mg_of X G a);cases e;refine⟨fd,?_,F⟩;obtain⟨oc,od,kV,doc,pm,an,cdv,ct,osl,rfl,lk,hcd⟩:=F.ex;exact b kV doc pm an cdv ct
end
theorem walkX_of {q:Program}{loose:List Str}{XP:(Str->Option Value)->Heap->Prop}{K:Params->Frag}{as:List Addr}{n t:Nat}{r:PySem.W.RowW}{d:DefRec}{kwd:List (Str×Expr)}{run:Value->List Value->Sem Value}(e:∀ P,as=(K P).map (·.1))(h:PySem.W.WalkO q loose XP (λ w h=>(K w.params).In h) r d kwd run):PySem.W.WalkX q loose XP (PySem.W.X.obsZ as) (PySem.W.X.valZ K n t) r d kwd run:=
  λ w s₀ s₁ mg mb G y a o pm cd doc dV kV h1 h2 h3 h4 h5 h6 args vals as' L hpre hlay hrd hwl hlo=>
    h w s₀ s₁ mg mb G (PySem.W.InK.keeps w _ _ (PySem.W.X.z_facts e y).2.1 L.keeps) a o pm cd doc dV kV h1 h2 h3 h4 h5 h6 args vals as' hpre hlay hrd hwl hlo
end L2
set_option maxHeartbeats 0
namespace My
open PySem L2
noncomputable def top (i:Nat):Stmt:=PySem.Challenge.pw_deadhand_k20_whole_heirs_of_heirs.main.body.getD i (.Pass ⟨0,0,0,0⟩)
noncomputable def YH (s:Stmt)(j:Nat):Stmt:=match s with
  |.ClassDef _ _ _ body _ _ _ _ _ _ _=>body.getD j (.Pass ⟨0,0,0,0⟩)
  |_ => .Pass ⟨0,0,0,0⟩
noncomputable def ZiQ (s:Stmt):List Stmt:=match s with
  |.For _ _ b _ _=>b
  |.While _ b _ _=>b
  |.If _ b _ _=>b
  |_=>[]
noncomputable abbrev Zcz:Stmt:=top 14
theorem Zdt:FnScope ["text","low","high","sign"] ["text","low","high"] (Zh Zcz):=⟨rfl,rfl,rfl,by decide +kernel,rfl,by decide +kernel,by decide +kernel⟩
noncomputable abbrev JK:Stmt:=top 15
theorem ZdU:FnScope ["word"] ["word"] (Zh JK):=⟨rfl,rfl,rfl,by decide +kernel,rfl,by decide +kernel,by decide +kernel⟩
noncomputable abbrev JB:Stmt:=top 16
theorem ZdP:FnScope ["word"] ["word"] (Zh JB):=⟨rfl,rfl,rfl,by decide +kernel,rfl,by decide +kernel,by decide +kernel⟩
noncomputable abbrev XC:Stmt:=top 17
theorem Zcp:FnScope ["text"] ["text"] (Zh XC):=⟨rfl,rfl,rfl,by decide +kernel,rfl,by decide +kernel,by decide +kernel⟩
noncomputable abbrev ZdX:Stmt:=top 18
theorem ZaT:FnScope ["name","word","numbers","number"] ["name"] (Zh ZdX):=⟨rfl,rfl,rfl,by decide +kernel,rfl,by decide +kernel,by decide +kernel⟩
noncomputable abbrev JC:Stmt:=top 19
theorem ZdQ:FnScope ["name"] ["name"] (Zh JC):=⟨rfl,rfl,rfl,by decide +kernel,rfl,by decide +kernel,by decide +kernel⟩
noncomputable abbrev JD:Stmt:=top 20
theorem ZdR:FnScope ["name"] ["name"] (Zh JD):=⟨rfl,rfl,rfl,by decide +kernel,rfl,by decide +kernel,by decide +kernel⟩
noncomputable abbrev YN:Stmt:=YH (top 21) 0
theorem ZaY:FnScope ["self"] ["self"] (Zh YN):=⟨rfl,rfl,rfl,by decide +kernel,rfl,by decide +kernel,by decide +kernel⟩
noncomputable abbrev XI:Stmt:=YH (top 21) 2
theorem Zcv:FnScope ["self","name","year"] ["self","name","year"] (Zh XI):=⟨rfl,rfl,rfl,by decide +kernel,rfl,by decide +kernel,by decide +kernel⟩
noncomputable abbrev XH:Stmt:=YH (top 21) 8
theorem Zcu:FnScope ["self","name"] ["self","name"] (Zh XH):=⟨rfl,rfl,rfl,by decide +kernel,rfl,by decide +kernel,by decide +kernel⟩
noncomputable abbrev Yw:Stmt:=YH (top 21) 3
theorem Zab:FnScope ["self","name"] ["self","name"] (Zh Yw):=⟨rfl,rfl,rfl,by decide +kernel,rfl,by decide +kernel,by decide +kernel⟩
noncomputable abbrev XM:Stmt:=YH (top 21) 9
theorem Zcx:FnScope ["self","name"] ["self","name"] (Zh XM):=⟨rfl,rfl,rfl,by decide +kernel,rfl,by decide +kernel,by decide +kernel⟩
noncomputable abbrev Yx:Stmt:=YH (top 21) 4
theorem Zac:FnScope ["self","name"] ["self","name"] (Zh Yx):=⟨rfl,rfl,rfl,by decide +kernel,rfl,by decide +kernel,by decide +kernel⟩
noncomputable abbrev Xl:Stmt:=YH (top 21) 5
theorem ZbW:FnScope ["self","word","born"] ["self","word","born"] (Zh Xl):=⟨rfl,rfl,rfl,by decide +kernel,rfl,by decide +kernel,by decide +kernel⟩
noncomputable abbrev XL:Stmt:=YH (top 21) 6
theorem JA:FnScope ["self","name","year","child"] ["self","name","year"] (Zh XL):=⟨rfl,rfl,rfl,by decide +kernel,rfl,by decide +kernel,by decide +kernel⟩
noncomputable abbrev XJ:Stmt:=YH (top 21) 7
theorem Zcw:FnScope ["self","name","year"] ["self","name","year"] (Zh XJ):=⟨rfl,rfl,rfl,by decide +kernel,rfl,by decide +kernel,by decide +kernel⟩
noncomputable abbrev Xm:Stmt:=YH (top 21) 12
theorem ZbX:FnScope ["self","name","year"] ["self","name","year"] (Zh Xm):=⟨rfl,rfl,rfl,by decide +kernel,rfl,by decide +kernel,by decide +kernel⟩
noncomputable abbrev YM:Stmt:=YH (top 21) 13
theorem ZaX:FnScope ["self","name"] ["self","name"] (Zh YM):=⟨rfl,rfl,rfl,by decide +kernel,rfl,by decide +kernel,by decide +kernel⟩
noncomputable abbrev XG:Stmt:=YH (top 21) 14
theorem Zct:FnScope ["self"] ["self"] (Zh XG):=⟨rfl,rfl,rfl,by decide +kernel,rfl,by decide +kernel,by decide +kernel⟩
noncomputable abbrev ZcC:Stmt:=top 24
theorem Zdv:FnScope ["one","other"] ["one","other"] (Zh ZcC):=⟨rfl,rfl,rfl,by decide +kernel,rfl,by decide +kernel,by decide +kernel⟩
noncomputable abbrev ZcA:Stmt:=top 25
theorem Zdu:FnScope ["num","den","divisor"] ["num","den"] (Zh ZcA):=⟨rfl,rfl,rfl,by decide +kernel,rfl,by decide +kernel,by decide +kernel⟩
noncomputable abbrev Zfl:Stmt:=top 26
theorem Zih:FnScope ["one","other"] ["one","other"] (Zh Zfl):=⟨rfl,rfl,rfl,by decide +kernel,rfl,by decide +kernel,by decide +kernel⟩
noncomputable abbrev ZdW:Stmt:=top 27
theorem Zhb:FnScope ["one","other"] ["one","other"] (Zh ZdW):=⟨rfl,rfl,rfl,by decide +kernel,rfl,by decide +kernel,by decide +kernel⟩
noncomputable abbrev JE:Stmt:=top 28
theorem ZdS:FnScope ["held"] ["held"] (Zh JE):=⟨rfl,rfl,rfl,by decide +kernel,rfl,by decide +kernel,by decide +kernel⟩
noncomputable abbrev ZdY:Stmt:=top 29
theorem Xg:FnScope ["ledgers","held","ledger","name","num","den","part"] ["ledgers"] (Zh ZdY):=⟨rfl,rfl,rfl,by decide +kernel,rfl,by decide +kernel,by decide +kernel⟩
noncomputable abbrev Zfm:Stmt:=top 31
theorem Zb8:FnScope ["lives","name","stems","filled"] ["lives","name"] (Zh Zfm):=⟨rfl,rfl,rfl,by decide +kernel,rfl,by decide +kernel,by decide +kernel⟩
noncomputable abbrev ZdZ:Stmt:=top 32
theorem ZaV:FnScope ["lives","name","root","found"] ["lives","name"] (Zh ZdZ):=⟨rfl,rfl,rfl,by decide +kernel,rfl,by decide +kernel,by decide +kernel⟩
noncomputable abbrev Xh:Stmt:=top 37
theorem ZbT:FnScope ["number","low","high"] ["number","low","high"] (Zh Xh):=⟨rfl,rfl,rfl,by decide +kernel,rfl,by decide +kernel,by decide +kernel⟩
noncomputable abbrev YL:Stmt:=YH (top 38) 0
theorem ZaW:FnScope ["self","year"] ["self","year"] (Zh YL):=⟨rfl,rfl,rfl,by decide +kernel,rfl,by decide +kernel,by decide +kernel⟩
noncomputable abbrev Yv:Stmt:=YH (top 38) 2
theorem Zaa:FnScope ["self","many"] ["self","many"] (Zh Yv):=⟨rfl,rfl,rfl,by decide +kernel,rfl,by decide +kernel,by decide +kernel⟩
noncomputable abbrev Xk:Stmt:=YH (top 38) 3
theorem ZbV:FnScope ["self","word","age"] ["self","word","age"] (Zh Xk):=⟨rfl,rfl,rfl,by decide +kernel,rfl,by decide +kernel,by decide +kernel⟩
noncomputable abbrev XF:Stmt:=YH (top 38) 4
theorem Zcs:FnScope ["self","name"] ["self","name"] (Zh XF):=⟨rfl,rfl,rfl,by decide +kernel,rfl,by decide +kernel,by decide +kernel⟩
noncomputable abbrev XD:Stmt:=YH (top 38) 5
theorem Zcq:FnScope ["self","name"] ["self","name"] (Zh XD):=⟨rfl,rfl,rfl,by decide +kernel,rfl,by decide +kernel,by decide +kernel⟩
noncomputable abbrev XE:Stmt:=YH (top 38) 6
theorem Zcr:FnScope ["self","word"] ["self","word"] (Zh XE):=⟨rfl,rfl,rfl,by decide +kernel,rfl,by decide +kernel,by decide +kernel⟩
noncomputable abbrev JL:Stmt:=YH (top 38) 8
theorem ZdV:FnScope ["self","name"] ["self","name"] (Zh JL):=⟨rfl,rfl,rfl,by decide +kernel,rfl,by decide +kernel,by decide +kernel⟩
noncomputable abbrev Zbl:Stmt:=top 40
theorem Zfk:FnScope ["_law_found"] ["_law_found"] (Zh Zbl):=⟨rfl,rfl,rfl,by decide +kernel,rfl,by decide +kernel,by decide +kernel⟩
noncomputable abbrev XB:Stmt:=top 41
theorem Zco:FnScope ["_law_script","_law_k"] ["_law_script","_law_k"] (Zh XB):=⟨rfl,rfl,rfl,by decide +kernel,rfl,by decide +kernel,by decide +kernel⟩
noncomputable abbrev Zax:Stmt:=top 42
theorem Jz:FnScope ["_law_cell","_law_place","_law_one","_law_two"] ["_law_cell","_law_place"] (Zh Zax):=⟨rfl,rfl,rfl,by decide +kernel,rfl,by decide +kernel,by decide +kernel⟩
noncomputable abbrev Zaw:Stmt:=top 43
theorem Ye:FnScope ["_law_n","_law_size","_law_word_here","_law_k"] ["_law_n"] (Zh Zaw):=⟨rfl,rfl,rfl,by decide +kernel,rfl,by decide +kernel,by decide +kernel⟩
noncomputable abbrev X7:Stmt:=top 44
theorem Zal:FnScope ["_law_a","_law_b"] ["_law_a","_law_b"] (Zh X7):=⟨rfl,rfl,rfl,by decide +kernel,rfl,by decide +kernel,by decide +kernel⟩
noncomputable abbrev Zbm:Stmt:=top 45
theorem Zcn:FnScope ["_law_num_here","_law_den","_law_by"] ["_law_num_here","_law_den"] (Zh Zbm):=⟨rfl,rfl,rfl,by decide +kernel,rfl,by decide +kernel,by decide +kernel⟩
noncomputable abbrev Zbk:Stmt:=top 46
theorem Zfj:FnScope ["_law_one","_law_other"] ["_law_one","_law_other"] (Zh Zbk):=⟨rfl,rfl,rfl,by decide +kernel,rfl,by decide +kernel,by decide +kernel⟩
noncomputable abbrev Xi:Stmt:=top 47
theorem ZbU:FnScope ["_law_found"] ["_law_found"] (Zh Xi):=⟨rfl,rfl,rfl,by decide +kernel,rfl,by decide +kernel,by decide +kernel⟩
noncomputable abbrev Y5:Stmt:=top 48
theorem Z3:FnScope ["_law_found","_law_last","_law_k","_law_entry"] ["_law_found"] (Zh Y5):=⟨rfl,rfl,rfl,by decide +kernel,rfl,by decide +kernel,by decide +kernel⟩
noncomputable abbrev JF:Stmt:=top 49
theorem Yh:FnScope ["_law_ledger","_law_found","_law_name","_law_num_here","_law_den"] ["_law_ledger"] (Zh JF):=⟨rfl,rfl,rfl,by decide +kernel,rfl,by decide +kernel,by decide +kernel⟩
noncomputable abbrev X6:Stmt:=top 50
theorem XA:FnScope ["_law_book","_law_found","_law_name"] ["_law_book"] (Zh X6):=⟨rfl,rfl,rfl,by decide +kernel,rfl,by decide +kernel,by decide +kernel⟩
noncomputable abbrev JH:Stmt:=top 51
theorem ZdT:FnScope ["_law_year"] ["_law_year"] (Zh JH):=⟨rfl,rfl,rfl,by decide +kernel,rfl,by decide +kernel,by decide +kernel⟩
noncomputable abbrev Zaz:Stmt:=top 52
theorem ZbE:FnScope ["_law_model_here","_law_name","_law_found"] ["_law_model_here","_law_name"] (Zh Zaz):=⟨rfl,rfl,rfl,by decide +kernel,rfl,by decide +kernel,by decide +kernel⟩
noncomputable abbrev X5:Stmt:=top 53
theorem Zdg:FnScope ["_law_model_here"] ["_law_model_here"] (Zh X5):=⟨rfl,rfl,rfl,by decide +kernel,rfl,by decide +kernel,by decide +kernel⟩
noncomputable abbrev Zay:Stmt:=top 54
theorem Y1:FnScope ["_law_model_here","_law_deed","_law_clock","_law_born","_law_dead","_law_came"] ["_law_model_here","_law_deed"] (Zh Zay):=⟨rfl,rfl,rfl,by decide +kernel,rfl,by decide +kernel,by decide +kernel⟩
noncomputable abbrev Zy:Stmt:=top 55
theorem ZL:FnScope ["_law_model_here","_law_n","_law_far","_law_some","_law_kind","_law_word_here","_law_name"] ["_law_model_here","_law_n","_law_far"] (Zh Zy):=⟨rfl,rfl,rfl,by decide +kernel,rfl,by decide +kernel,by decide +kernel⟩
noncomputable abbrev JG:Stmt:=top 56
theorem Yi:FnScope ["_law_n","_law_deeds","_law_words","_law_k","_law_word_here"] ["_law_n"] (Zh JG):=⟨rfl,rfl,rfl,by decide +kernel,rfl,by decide +kernel,by decide +kernel⟩
noncomputable abbrev ZcB:Stmt:=top 57
theorem Zgt:FnScope ["_law_world","_law_deed"] ["_law_world","_law_deed"] (Zh ZcB):=⟨rfl,rfl,rfl,by decide +kernel,rfl,by decide +kernel,by decide +kernel⟩
noncomputable abbrev JI:Stmt:=top 58
theorem Z2:FnScope ["_law_ledger","_law_name","_law_takers","_law_book","_law_one","_law_num_here","_law_den","_law_taker","_law_top","_law_low_here"] ["_law_ledger","_law_name","_law_takers"] (Zh JI):=⟨rfl,rfl,rfl,by decide +kernel,rfl,by decide +kernel,by decide +kernel⟩
noncomputable abbrev JJ:Stmt:=top 59
theorem ZaU:FnScope ["_law_model_here","_law_name","_law_one"] ["_law_model_here","_law_name"] (Zh JJ):=⟨rfl,rfl,rfl,by decide +kernel,rfl,by decide +kernel,by decide +kernel⟩
noncomputable abbrev Xj:Stmt:=top 60
theorem Yz:FnScope ["_law_world","_law_model_here","_law_name","_law_found","_law_root","_law_heir","_law_num_here","_law_den"] ["_law_world","_law_model_here","_law_name"] (Zh Xj):=⟨rfl,rfl,rfl,by decide +kernel,rfl,by decide +kernel,by decide +kernel⟩
noncomputable abbrev ZaZ:Stmt:=top 61
theorem Z8:FnScope ["_law_script","_law_n","_law_model_here","_law_world","_law_deeds","_law_k","_law_m","_law_deed","_law_names","_law_name","_law_ahead","_law_some","_law_heir"] ["_law_script"] (Zh ZaZ):=⟨rfl,rfl,rfl,by decide +kernel,rfl,by decide +kernel,by decide +kernel⟩
structure Txt (K:Frag)(g:Ga)(mg:Str->Option Value):Prop where
  z_isinstance:mg "isinstance"=none
  z_int:mg "int"=none
  z_bool:mg "bool"=none
  z_tuple:mg "tuple"=none
  z_len:mg "len"=none
  z_range:mg "range"=none
  z_list:mg "list"=none
  z_str:mg "str"=none
  z_min:mg "min"=none
  z_max:mg "max"=none
  z_sorted:mg "sorted"=none
  z_enumerate:mg "enumerate"=none
  Qc3:mg "ValueError"=none
  Qc4:mg "LandError"=some (.ref g.LandError)
  QaV:mg "NoText"=some (.ref g.NoText)
  QcD:mg "OutOfBound"=some (.ref g.OutOfBound)
  Qcj:mg "Taken"=some (.ref g.Taken)
  QcE:mg "NoPerson"=some (.ref g.NoPerson)
  QcF:mg "Gone"=some (.ref g.Gone)
  QcG:mg "TooDeep"=some (.ref g.TooDeep)
  QcH:XAt K g.Gone
  QcI:XAt K g.NoPerson
  QaW:XAt K g.NoText
  QcJ:XAt K g.OutOfBound
  Qck:XAt K g.Taken
  QcK:XAt K g.TooDeep
  QcL:mg "Lives"=some (.ref g.Lives)
  Qaa:Cls K g.Lives
  Qao:YV K g.Lives "births"
  QaD:YV K g.Lives "deaths"
  Qar:YV K g.Lives "broods"
  QcM:mg "World"=some (.ref g.World)
  Qac:Cls K g.World
  Qam:YV K g.World "year"
  Qas:YV K g.World "lives"
  QaJ:YV K g.World "happened"
  QcN:mg "LONGEST_WORD"=some (.int 8 g.LONGEST_WORD)
  QcO:mg "LONGEST_NUMBER"=some (.int 2 g.LONGEST_NUMBER)
  Qcl:mg "MOST_NUMBERS"=some (.int 5 g.MOST_NUMBERS)
  QcP:mg "BARRED"=some (.ref g.BARRED)
  Qcm:∀ H,SqT K H g.BARRED [.str "crown", .str "kids"]
  Qcn:mg "NOUGHT"=some (.ref g.NOUGHT)
  QaX:∀ H,SqT K H g.NOUGHT [.int 0, .int 1]
  QcQ:mg "LAST_FIRST_YEAR"=some (.int 9999 g.LAST_FIRST_YEAR)
  QcR:mg "MOST_YEARS"=some (.int 60 g.MOST_YEARS)
  QcS:mg "OLDEST"=some (.int 120 g.OLDEST)
local macro_rules|`(tactic| walk_at "ss") => `(tactic| first|exact rfl|assumption|exact ZI (Nat.le_of_ble_eq_true rfl)|(show(0:Int)<_;decide)|exact⟨by decide,by decide⟩|exact .inl ⟨by decide,by decide⟩|exact .inr ⟨by decide,by decide⟩|exact ZU.k (k:=Sum.inr _) (by assumption)|exact SqL.of (by assumption)|exact SqL.of Zb|exact SqT.of Zb|exact SqT.of (by assumption)|exact .inl (SqL.of (by assumption))|exact .inr (SqT.of (by assumption))|exact .inl ⟨_,SqL.of (by assumption),rfl⟩|exact⟨_,SqL.of (by assumption)⟩|exact⟨_,SqL.of Zb⟩|exact .inl ⟨rfl,_,SqL.of (by assumption)⟩|exact Txt.Qaa (by assumption)|exact Txt.Qao (by assumption)|exact Txt.QaD (by assumption)|exact Txt.Qar (by assumption)|exact Txt.Qac (by assumption)|exact Txt.Qam (by assumption)|exact Txt.Qas (by assumption)|exact Txt.QaJ (by assumption)|exact Txt.Qcm (by assumption)|exact Txt.QaX (by assumption)|decide)
local macro_rules|`(tactic| walk_at "rd") => `(tactic| repeat (first|(apply And.intro;· walk_at "ss")|apply Exists.intro))
local macro_rules|`(tactic| walk_at "g") => `(tactic| repeat (first|(apply And.intro;· walk_at "ss")|((fail_if_success (show ∃ _:Nat->Nat->St->Hp->Prop,_));(fail_if_success (show ∃ _:Nat->St->Hp->Prop,_));apply Exists.intro)))
local macro_rules|`(tactic| walk_at "v") => `(tactic| first|exact Or.inl rfl|exact Or.inr (Or.inl rfl)|exact Or.inr (Or.inr rfl))
local macro_rules|`(tactic| walk_at "u") => `(tactic| first|exact .inl rfl|exact .inr rfl|assumption)
local macro_rules|`(tactic| walk_at "n") => `(tactic| first|exact nobehind _ (by decide) (by decide)|rfl)
local macro_rules|`(tactic| walk_at "w") => `(tactic| exact⟨by rfl,by walk_at "v",by decide,by decide⟩)
theorem qv {X:Cx}(i:Nat){x:Str}{pos:Pos}(h:X.N[i]? = some x/\Vis X.env.scope x/\(x == ("__debug__":Str))=false/\(x == ("__classdict__":Str))=false):PE X (.Name x pos) (tVar i):=@pv X i x pos h.1 h.2.1 h.2.2.1 h.2.2.2
noncomputable def Zdo (K:Frag)(g:Ga):Sp:=λ vs H Q E=>∃(x:Str)(a b:Nat),vs=[.str x, .str ⟨#[a]⟩, .str ⟨#[b]⟩]/\Q (.bl (x.cps.toList.all (inR a b))) H
noncomputable def ZaR (K:Frag)(g:Ga):Sp:=λ vs H Q E=>∃ x:Str,vs=[.str x]/\x.length<=200/\Q (.bl (gw x)) H
noncomputable def ZaI (K:Frag)(g:Ga):Sp:=λ vs H Q E=>∃ x:Str,vs=[.str x]/\x.length<=200/\(gw x=false->E (.ref g.NoText) none H)/\(gw x=true->Q .non H)
noncomputable def Jp (K:Frag)(g:Ga):Sp:=λ vs H Q E=>∃ x:Str,vs=[.str x]/\x.length<=200/\Q (.bl (gn x)) H
noncomputable def ZeF (K:Frag)(g:Ga):Sp:=λ vs H Q E=>∃ x:Str,vs=[.str x]/\x.length<=200/\(pok x=false->∀ H',Zp H H'->E (.ref g.NoText) none H')/\(pok x=true->∀ l H',Zp H H'->H l=none->H' l=some (.lst (pvl x))->Q (.ref l) H')
noncomputable def ZaJ (K:Frag)(g:Ga):Sp:=λ vs H Q E=>∃ x:Str,vs=[.str x]/\x.length<=200/\∀ H',Zp H H'->Q (.str (up x)) H'
noncomputable def ZaK (K:Frag)(g:Ga):Sp:=λ vs H Q E=>∃ x:Str,vs=[.str x]/\pok x=true/\∀ H',Zp H H'->Q (.str (up x)) H'
noncomputable def Xt (K:Frag)(g:Ga):Sp:=λ vs H Q E=>∃(b dx:Addr),vs=[.ref b]/\H b=some (.ins g.Lives dx [])/\∀ R H',ZS [b] H H'->(∀ a∈R,a=b\/H a=none)->LivesAt g.Lives H' b [] [] R->Q .non H'
noncomputable def Jv (K:Frag)(g:Ga):Sp:=λ vs H Q E=>∃(b d1 d2 d3:Addr)(bs ds:List (Str×Int))(ws:List (Str×Addr×Nat))(n:Str)(y:Int),vs=[.ref b, .str n, .int y]/\Book g.Lives H b d1 d2 d3 bs ds ws/\has bs n=false/\Z7 (brs ws) (Sum.inr n:Key)=none/\bs.length<=900/\ws.length<=900/\∀ l H',H l=none->ZS [d1,d3] H H'->Book g.Lives H' b d1 d2 d3 (bs++[(n,y)]) ds (ws++[(n,l,0)])->Q .non H'
noncomputable def Ju (K:Frag)(g:Ga):Sp:=λ vs H Q E=>∃(b:Addr)(bs ds:List (Str×Int))(R:List Addr)(n:Str),vs=[.ref b, .str n]/\LivesAt g.Lives H b bs ds R/\Q (.bl (has bs n)) H
noncomputable def Y9 (K:Frag)(g:Ga):Sp:=λ vs H Q E=>∃(b:Addr)(bs ds:List (Str×Int))(R:List Addr)(n:Str),vs=[.ref b, .str n]/\LivesAt g.Lives H b bs ds R/\(has bs n=false->E (.ref g.NoPerson) none H)/\(has bs n=true->Q .non H)
noncomputable def Jy (K:Frag)(g:Ga):Sp:=λ vs H Q E=>∃(b:Addr)(bs ds:List (Str×Int))(R:List Addr)(n:Str),vs=[.ref b, .str n]/\LivesAt g.Lives H b bs ds R/\Q (.bl (al bs ds n)) H
noncomputable def Xa (K:Frag)(g:Ga):Sp:=λ vs H Q E=>∃(b:Addr)(bs ds:List (Str×Int))(R:List Addr)(n:Str),vs=[.ref b, .str n]/\LivesAt g.Lives H b bs ds R/\(has bs n=false->E (.ref g.NoPerson) none H)/\(has bs n=true->has ds n=true->E (.ref g.Gone) none H)/\(has bs n=true->has ds n=false->Q .non H)
noncomputable def Jf (K:Frag)(g:Ga):Sp:=λ vs H Q E=>∃(b:Addr)(bs ds:List (Str×Int))(R:List Addr)(n:Str)(y:Int),vs=[.ref b, .str n, .int y]/\LivesAt g.Lives H b bs ds R/\n.length<=200/\bs.length<800/\(gw n=false->E (.ref g.NoText) none H)/\(gw n=true->has bs n=true->E (.ref g.Taken) none H)/\(gw n=true->has bs n=false->∀ R' H',ZS R H H'->JX H R R'->LivesAt g.Lives H' b (bs++[(n,y)]) ds R'->Q .non H')
noncomputable def Jx (K:Frag)(g:Ga):Sp:=λ vs H Q E=>∃(b:Addr)(bs ds:List (Str×Int))(R:List Addr)(n:Str)(y:Int),vs=[.ref b, .str n, .int y]/\LivesAt g.Lives H b bs ds R/\bs.length<800/\nk bs n<99/\(has bs n=false->E (.ref g.NoPerson) none H)/\(has bs n=true->has ds n=true->E (.ref g.Gone) none H)/\(has bs n=true->has ds n=false->5<=ZJ n->E (.ref g.TooDeep) none H)/\(has bs n=true->has ds n=false->ZJ n<5->∀ R' H',ZS R H H'->JX H R R'->LivesAt g.Lives H' b (bs++[(kid n (nk bs n),y)]) ds R'->Q (.str (kid n (nk bs n))) H')
noncomputable def Jw (K:Frag)(g:Ga):Sp:=λ vs H Q E=>∃(b:Addr)(bs ds:List (Str×Int))(R:List Addr)(n:Str)(y:Int),vs=[.ref b, .str n, .int y]/\LivesAt g.Lives H b bs ds R/\ds.length<800/\(has bs n=false->E (.ref g.NoPerson) none H)/\(has bs n=true->has ds n=true->E (.ref g.Gone) none H)/\(has bs n=true->has ds n=false->∀ H',ZS R H H'->LivesAt g.Lives H' b bs (ds++[(n,y)]) R->Q .non H')
noncomputable def Jg (K:Frag)(g:Ga):Sp:=λ vs H Q E=>∃(b:Addr)(bs ds:List (Str×Int))(R:List Addr)(n:Str)(t:Int),vs=[.ref b, .str n, .int t]/\LivesAt g.Lives H b bs ds R/\(has bs n=false->E (.ref g.NoPerson) none H)/\(∀ y,yr bs n=some y->Q (.int ((yr ds n).getD t - y)) H)
noncomputable def Xs (K:Frag)(g:Ga):Sp:=λ vs H Q E=>∃(b:Addr)(bs ds:List (Str×Int))(R:List Addr)(n:Str),vs=[.ref b, .str n]/\LivesAt g.Lives H b bs ds R/\(has bs n=false->E (.ref g.NoPerson) none H)/\(has bs n=true->∀ l H',Zp H H'->H l=none->H' l=some (.lst (Y2 n (nk bs n)))->Q (.ref l) H')
noncomputable def Jt (K:Frag)(g:Ga):Sp:=λ vs H Q E=>∃(b:Addr)(bs ds:List (Str×Int))(R:List Addr),vs=[.ref b]/\LivesAt g.Lives H b bs ds R/\∀ l H',Zp H H'->H l=none->H' l=some (.lst (bs.map λ p=>V.str p.1))->Q (.ref l) H'
noncomputable def Zdr (K:Frag)(g:Ga):Sp:=λ vs H Q E=>∃ a b:Int,vs=[.int a, .int b]/\0<=a/\0<=b/\Q (.int (Sh.G a b)) H
noncomputable def Zdp (K:Frag)(g:Ga):Sp:=λ vs H Q E=>∃ n d:Int,vs=[.int n, .int d]/\0<=n/\0<d/\d.natAbs<BIG/\∀ p,H p=none->Q (.ref p) (upd H p (.tup [.int (n / Sh.G n d), .int (d / Sh.G n d)]))
noncomputable def ZfM (K:Frag)(g:Ga):Sp:=λ vs H Q E=>∃(p q:Addr)(a b c d:Int),vs=[.ref p, .ref q]/\Two K H p q a b c d/\∀ r,H r=none->Q (.ref r) (upd H r (.tup (Zdk (a * d+c * b) (b * d))))
noncomputable def ZeE (K:Frag)(g:Ga):Sp:=λ vs H Q E=>∃(p q:Addr)(a b c d:Int),vs=[.ref p, .ref q]/\Two K H p q a b c d/\∀ r,H r=none->Q (.ref r) (upd H r (.tup (Zdk (a * c) (b * d))))
noncomputable def ZaL (K:Frag)(g:Ga):Sp:=λ vs H Q E=>∃(d:Addr)(es:List En),vs=[.ref d]/\Dic K H d es/\(Yk es).Nodup/\es.length<60/\(∀ e∈es,Zdf e)/\∀ l' H' es',Zp H H'->H l'=none->Led H' l' es'->Can es es'->Q (.ref l') H'
noncomputable def ZeG (K:Frag)(g:Ga):Sp:=λ vs H Q E=>∃(L:Addr)(ls:List (List Ut)),vs=[.ref L]/\LLs H L (ls.map (List.map ue))/\MixOk ls/\∀ l' H' es',Zp H H'->H l'=none->Led H' l' es'->Can ((ls.flatten.map (scU (ls.length:Nat))).map ue) es'->Q (.ref l') H'
noncomputable def Zb7 (j:Nat)(K:Frag)(g:Ga):Sp:=λ vs H Q E=>∃(b:Addr)(S:Mo)(R:List Addr)(n:Str),vs=[.ref b, .str n]/\LivesAt g.Lives H b S.bs S.ds R/\has S.bs n=true/\6<=ZJ n+j/\S.bs.length<60/\∀ l' H' es',Zp H H'->H l'=none->Led H' l' es'->Can ((lnN S (6 - ZJ n) n).map ue) es'->Q (.ref l') H'
noncomputable def ZeH (K:Frag)(g:Ga):Sp:=λ vs H Q E=>∃(b:Addr)(S:Mo)(R:List Addr)(n:Str),vs=[.ref b, .str n]/\LivesAt g.Lives H b S.bs S.ds R/\(has S.bs n=false->E (.ref g.NoPerson) none H)/\(has S.bs n=true->S.bs.length<60/\∀ l' H' es',Zp H H'->H l'=none->Led H' l' es'->Can ((hrs S n).map ue) es'->Q (.ref l') H')
noncomputable def Jc (K:Frag)(g:Ga):Sp:=λ vs H Q E=>∃ n lo hi:Int,vs=[.int n, .int lo, .int hi]/\(¬ (lo<=n/\n<=hi)->E (.ref g.OutOfBound) none H)/\(lo<=n/\n<=hi->Q .non H)
noncomputable def Xr (K:Frag)(g:Ga):Sp:=λ vs H Q E=>∃(w dx:Addr)(y:Int),vs=[.ref w, .int y]/\H w=some (.ins g.World dx [])/\(¬ (0<=y/\y<=9999)->E (.ref g.OutOfBound) none H)/\(0<=y/\y<=9999->∀ R H',ZS [w] H H'->(∀ a∈R,a=w\/H a=none)->WorldAt g H' w (mo0 y) R->Q .non H')
noncomputable def Y8 (K:Frag)(g:Ga):Sp:=λ vs H Q E=>∃(w:Addr)(S:Mo)(R:List Addr)(k:Int),vs=[.ref w, .int k]/\WorldAt g H w S R/\(¬ (1<=k/\k<=60)->E (.ref g.OutOfBound) none H)/\(1<=k/\k<=60->∀ H',ZS R H H'->WorldAt g H' w { S with y:=S.y+k } R->Q .non H')
noncomputable def Je (K:Frag)(g:Ga):Sp:=λ vs H Q E=>∃(w:Addr)(S:Mo)(R:List Addr)(n:Str)(a:Int),vs=[.ref w, .str n, .int a]/\WorldAt g H w S R/\n.length<=200/\S.bs.length<800/\(¬ (0<=a/\a<=120)->E (.ref g.OutOfBound) none H)/\(0<=a/\a<=120->gw n=false->E (.ref g.NoText) none H)/\(0<=a/\a<=120->gw n=true->has S.bs n=true->E (.ref g.Taken) none H)/\(0<=a/\a<=120->gw n=true->has S.bs n=false->∀ R' H',ZS R H H'->JX H R R'->WorldAt g H' w (S.step (.arrive n a)) R'->Q .non H')
noncomputable def Js (K:Frag)(g:Ga):Sp:=λ vs H Q E=>∃(w:Addr)(S:Mo)(R:List Addr)(n:Str),vs=[.ref w, .str n]/\WorldAt g H w S R/\S.bs.length<800/\nk S.bs n<99/\(has S.bs n=false->E (.ref g.NoPerson) none H)/\(has S.bs n=true->has S.ds n=true->E (.ref g.Gone) none H)/\(has S.bs n=true->has S.ds n=false->5<=ZJ n->E (.ref g.TooDeep) none H)/\(has S.bs n=true->has S.ds n=false->ZJ n<5->∀ R' H',ZS R H H'->JX H R R'->WorldAt g H' w (S.step (.birth n)) R'->Q (.str (kid n (nk S.bs n))) H')
noncomputable def Jq (K:Frag)(g:Ga):Sp:=λ vs H Q E=>∃(w:Addr)(S:Mo)(R:List Addr)(n:Str),vs=[.ref w, .str n]/\WorldAt g H w S R/\S.ds.length<800/\(has S.bs n=false->E (.ref g.NoPerson) none H)/\(has S.bs n=true->has S.ds n=true->E (.ref g.Gone) none H)/\(has S.bs n=true->has S.ds n=false->∀ H',ZS R H H'->WorldAt g H' w (S.step (.death n)) R->Q .non H')
noncomputable def Jr (K:Frag)(g:Ga):Sp:=λ vs H Q E=>∃(w:Addr)(S:Mo)(R:List Addr)(n:Str),vs=[.ref w, .str n]/\WorldAt g H w S R/\n.length<=200/\S.cs.length<800/\(gw n=false->E (.ref g.NoText) none H)/\(gw n=true->has S.cs n=true->E (.ref g.Taken) none H)/\(gw n=true->has S.cs n=false->∀ H',ZS R H H'->WorldAt g H' w (S.step (.comes n)) R->Q .non H')
noncomputable def ZaS (K:Frag)(g:Ga):Sp:=λ vs H Q E=>∃(w:Addr)(S:Mo)(R:List Addr)(n:Str),vs=[.ref w, .str n]/\WorldAt g H w S R/\(has S.bs n=false->E (.ref g.NoPerson) none H)/\(∀ y,yr S.bs n=some y->Q (.int ((yr S.ds n).getD S.y - y)) H)
noncomputable def Zck (K:Frag)(g:Ga):Sp:=λ vs H Q E=>∃ i:Int,vs=[.int i]/\Q (.bl true) H
noncomputable def Jo (K:Frag)(g:Ga):Sp:=λ vs H Q E=>∃(a:Addr)(ns:List Int)(k:Int),vs=[.ref a, .int k]/\SqL K H a (ns.map V.int)/\0<=k/\∀ c:Int,Q (.int c) H
noncomputable def ZbA (K:Frag)(g:Ga):Sp:=λ vs H Q E=>∃ c p:Int,vs=[.int c, .int p]/\∀ r:Int,Q (.int r) H
noncomputable def Zbz (K:Frag)(g:Ga):Sp:=λ vs H Q E=>∃ n:Int,vs=[.int n]/\∀ z:Str,gw z=true->Q (.str z) H
noncomputable def Zak (K:Frag)(g:Ga):Sp:=λ vs H Q E=>∃ a b:Int,vs=[.int a, .int b]/\0<=a/\0<=b/\Q (.int (Sh.G a b)) H
noncomputable def Zcl (K:Frag)(g:Ga):Sp:=λ vs H Q E=>∃ n d:Int,vs=[.int n, .int d]/\0<=n/\0<d/\d.natAbs<BIG/\∀ p,H p=none->Q (.ref p) (upd H p (.tup [.int (n / Sh.G n d), .int (d / Sh.G n d)]))
noncomputable def Zcj (K:Frag)(g:Ga):Sp:=λ vs H Q E=>∃(p q:Addr)(a b c d:Int),vs=[.ref p, .ref q]/\Two K H p q a b c d/\∀ r,H r=none->Q (.ref r) (upd H r (.tup (Zdk (a * d+c * b) (b * d))))
noncomputable def Jd (K:Frag)(g:Ga):Sp:=λ vs H Q E=>∃(p:Addr)(x y:Int),vs=[.ref p]/\H p=some (.tup [.int x, .int y])/\0<=x/\0<y/\Sh.G x y=1/\Q (.bl true) H
noncomputable def XV (K:Frag)(g:Ga):Sp:=λ vs H Q E=>∃(l:Addr)(es:List En),vs=[.ref l]/\Led H l es/\es.Pairwise (λ a b=>ltS a.1 b.1)/\(∀ e∈es,Zdf e/\e.2.1≠0)/\∀ H',Zp H H'->Q (.bl true) H'
noncomputable def ZaM (K:Frag)(g:Ga):Sp:=λ vs H Q E=>∃(a:Addr)(us:List Ut),vs=[.ref a]/\Led H a (us.map ue)/\One us/\us.length<=40/\(∀ e∈us,0<e.2/\e.2<=98 ^ 6)/\∀ p H',Zp H H'->H' p=some (.tup [.int 1, .int 1])->Q (.ref p) H'
noncomputable def Zaj (K:Frag)(g:Ga):Sp:=λ vs H Q E=>∃(d:Addr)(es:List En),vs=[.ref d]/\Dic K H d es/\(Yk es).Nodup/\es.length<60/\(∀ e∈es,Zdf e)/\∀ l' H' es',Zp H H'->H l'=none->Led H' l' es'->Can es es'->Q (.ref l') H'
noncomputable def ZaO (K:Frag)(g:Ga):Sp:=λ vs H Q E=>∃ y:Int,vs=[.int y]/\∀ m R H',Zp H H'->(∀ a∈R,H a=none)->Yt H' m (mo0 y) R->Q (.ref m) H'
noncomputable def ZbC (K:Frag)(g:Ga):Sp:=λ vs H Q E=>∃(m:Addr)(S:Mo)(R:List Addr)(n:Str),vs=[.ref m, .str n]/\Yt H m S R/\Wf S.bs S.ds/\n.length<=200/\nk S.bs n<=100/\∀ l H',Zp H H'->H l=none->H' l=some (.lst (Y2 n (nk S.bs n)))->Q (.ref l) H'
noncomputable def Zai (K:Frag)(g:Ga):Sp:=λ vs H Q E=>∃(m:Addr)(S:Mo)(R:List Addr),vs=[.ref m]/\Yt H m S R/\S.bs.length<=900/\∀ l H',Zp H H'->H l=none->H' l=some (.lst (ZcY S.bs S.ds))->Q (.ref l) H'
noncomputable def ZbB (K:Frag)(g:Ga):Sp:=λ vs H Q E=>∃(m:Addr)(S:Mo)(R:List Addr)(p:Addr)(d:Deed)(far:Int)(k:Nat),vs=[.ref m, .ref p]/\Yt H m S R/\H p=some (.tup d.vals)/\S.Ok k/\k<98/\S.good far d/\∀ H',ZS R H H'->Yt H' m (S.step d) R->Q .non H'
noncomputable def XU (K:Frag)(g:Ga):Sp:=λ vs H Q E=>∃(m:Addr)(S:Mo)(R:List Addr)(n far:Int),vs=[.ref m, .int n, .int far]/\Yt H m S R/\S.bs.length<=900/\0<far/\(∀ d p H',S.good far d->Zp H H'->H p=none->H' p=some (.tup d.vals)->Q (.ref p) H')
noncomputable def ZaN (K:Frag)(g:Ga):Sp:=λ vs H Q E=>∃ n:Int,vs=[.int n]/\∀ l was ps H',Zp H H'->(∀ a∈l::ps,H a=none)->First was->was≠[]->DeedsAt H' l (was.map arr) ps->Q (.ref l) H'
noncomputable def Zdq (K:Frag)(g:Ga):Sp:=λ vs H Q E=>∃(w:Addr)(S:Mo)(R:List Addr)(p:Addr)(d:Deed)(far:Int)(k:Nat),vs=[.ref w, .ref p]/\WorldAt g H w S R/\H p=some (.tup d.vals)/\S.Ok k/\k<98/\S.good far d/\far<=60/\∀ v R' H',ZS R H H'->JX H R R'->WorldAt g H' w (S.step d) R'->Q v H'
noncomputable def ZaP (K:Frag)(g:Ga):Sp:=λ vs H Q E=>∃(a t:Addr)(us ts:List Ut)(h:Str),vs=[.ref a, .str h, .ref t]/\Led H a (us.map ue)/\Led H t (ts.map ue)/\((sub h ts us).map (·.1)).Nodup/\(sub h ts us).length<60/\(∀ e∈us,0<e.2/\e.2<2 ^ 100)/\(∀ e∈ts,0<e.2/\e.2<2 ^ 100)/\∀ l' H' es',Zp H H'->H l'=none->Led H' l' es'->Can ((sub h ts us).map ue) es'->Q (.ref l') H'
noncomputable def ZaQ (K:Frag)(g:Ga):Sp:=λ vs H Q E=>∃(m:Addr)(S:Mo)(R:List Addr)(n:Str),vs=[.ref m, .str n]/\Yt H m S R/\Wf S.bs S.ds/\n.length<=200/\∀ b,(b=true↔blw S n)->Q (.bl b) H
noncomputable def ZbD (K:Frag)(g:Ga):Sp:=λ vs H Q E=>∃(w m:Addr)(S:Mo)(R RM:List Addr)(n:Str),vs=[.ref w, .ref m, .str n]/\WorldAt g H w S R/\Yt H m S RM/\has S.bs n=true/\S.bs.length<=40/\∀ H',Zp H H'->Q (.bl true) H'
noncomputable def ZdO (K:Frag)(g:Ga):Sp:=λ vs H Q E=>∃(a:Addr)(ns:List Int),vs=[.ref a]/\SqL K H a (ns.map V.int)/\ns.length<=63/\∀ H',Q (.bl true) H'
section
variable (P:Program)(w0:World)(K:Frag)(g:Ga)(mg:Str->Option Value)(base:Heap)
noncomputable abbrev Zc7:Prop:=Dn P w0 K mg base 1 "within" ["text","low","high"] (Zdo K g)
noncomputable abbrev JS:Prop:=Dn P w0 K mg base 2 "good_word" ["word"] (ZaR K g)
noncomputable abbrev JP:Prop:=Dx P w0 K mg base 3 "want_word" ["word"] (ZaI K g)
noncomputable abbrev Zap:Prop:=Dn P w0 K mg base 2 "good_number" ["text"] (Jp K g)
noncomputable abbrev Zgh:Prop:=Dx P w0 K mg base 3 "parts" ["name"] (ZeF K g)
noncomputable abbrev ZbM:Prop:=Dn P w0 K mg base 1 "shortened" ["name"] (ZaJ K g)
noncomputable abbrev ZbN:Prop:=Dn P w0 K mg base 4 "parent_of" ["name"] (ZaK K g)
noncomputable abbrev XQ:Prop:=Dm P w0 K mg base CX0 g.Lives 1 "enter" ["self","name","year"] (Jv K g)
noncomputable abbrev XO:Prop:=Dm P w0 K mg base CX0 g.Lives 1 "known" ["self","name"] (Ju K g)
noncomputable abbrev ZY:Prop:=Dm P w0 K mg base (CXR P w0 base) g.Lives 2 "want_known" ["self","name"] (Y9 K g)
noncomputable abbrev XR:Prop:=Dm P w0 K mg base CX0 g.Lives 1 "alive" ["self","name"] (Jy K g)
noncomputable abbrev Yy:Prop:=Dm P w0 K mg base (CXR P w0 base) g.Lives 3 "want_alive" ["self","name"] (Xa K g)
noncomputable abbrev JU:Prop:=Dm P w0 K mg base (CXR P w0 base) g.Lives 4 "arrive" ["self","word","born"] (Jf K g)
noncomputable abbrev Zau:Prop:=Dm P w0 K mg base (CXR P w0 base) g.Lives 4 "birth" ["self","name","year"] (Jx K g)
noncomputable abbrev Zat:Prop:=Dm P w0 K mg base (CXR P w0 base) g.Lives 4 "death" ["self","name","year"] (Jw K g)
noncomputable abbrev JV:Prop:=Dm P w0 K mg base (CXR P w0 base) g.Lives 3 "age_in" ["self","name","year"] (Jg K g)
noncomputable abbrev XZ:Prop:=Dm P w0 K mg base (CXR P w0 base) g.Lives 3 "children" ["self","name"] (Xs K g)
noncomputable abbrev Ze6:Prop:=Dn P w0 K mg base 1 "common" ["one","other"] (Zdr K g)
noncomputable abbrev Zc8:Prop:=Dn P w0 K mg base 2 "lowest" ["num","den"] (Zdp K g)
noncomputable abbrev Zh1:Prop:=Dn P w0 K mg base 3 "plus" ["one","other"] (ZfM K g)
noncomputable abbrev Zgg:Prop:=Dn P w0 K mg base 3 "times" ["one","other"] (ZeE K g)
noncomputable abbrev ZbO:Prop:=Dn P w0 K mg base 1 "ledger_of" ["held"] (ZaL K g)
noncomputable abbrev Zgi:Prop:=Dn P w0 K mg base 4 "mixed" ["ledgers"] (ZeG K g)
noncomputable abbrev Zh2:Prop:=Dn P w0 K mg base 12 "line" ["lives","name"] (Zb7 7 K g)
noncomputable abbrev Zev:Prop:=Dx P w0 K mg base 13 "heirs" ["lives","name"] (ZeH K g)
noncomputable abbrev YJ:Prop:=Dx P w0 K mg base 1 "want_between" ["number","low","high"] (Jc K g)
noncomputable abbrev Xq:Prop:=Dm P w0 K mg base (CXR P w0 base) g.World 2 "pass_years" ["self","many"] (Y8 K g)
noncomputable abbrev JT:Prop:=Dm P w0 K mg base (CXR P w0 base) g.World 5 "arrive" ["self","word","age"] (Je K g)
noncomputable abbrev Zas:Prop:=Dm P w0 K mg base (CXR P w0 base) g.World 5 "birth" ["self","name"] (Js K g)
noncomputable abbrev Zaq:Prop:=Dm P w0 K mg base (CXR P w0 base) g.World 5 "death" ["self","name"] (Jq K g)
noncomputable abbrev Zar:Prop:=Dm P w0 K mg base (CXR P w0 base) g.World 4 "comes" ["self","word"] (Jr K g)
noncomputable abbrev ZdG:Prop:=Dn P w0 K mg base 1 "_law_num" ["_law_found"] (Zck K g)
noncomputable abbrev Zao:Prop:=Dn P w0 K mg base 1 "_law_cell_at" ["_law_script","_law_k"] (Jo K g)
noncomputable abbrev Zc9:Prop:=Dn P w0 K mg base 1 "_law_rich" ["_law_cell","_law_place"] (ZbA K g)
noncomputable abbrev ZaG:Prop:=Dn P w0 K mg base 1 "_law_word" ["_law_n"] (Zbz K g)
noncomputable abbrev Ja:Prop:=Dn P w0 K mg base 1 "_law_common" ["_law_a","_law_b"] (Zak K g)
noncomputable abbrev ZdH:Prop:=Dn P w0 K mg base 2 "_law_low" ["_law_num_here","_law_den"] (Zcl K g)
noncomputable abbrev Zby:Prop:=Dn P w0 K mg base 3 "_law_sum" ["_law_one","_law_other"] (Zcj K g)
noncomputable abbrev JQ:Prop:=Dn P w0 K mg base 2 "_law_is_share" ["_law_found"] (Jd K g)
noncomputable abbrev Jk:Prop:=Dn P w0 K mg base 3 "_law_is_ledger" ["_law_found"] (XV K g)
noncomputable abbrev ZbP:Prop:=Dn P w0 K mg base 4 "_law_total" ["_law_ledger"] (ZaM K g)
noncomputable abbrev Zbh:Prop:=Dn P w0 K mg base 1 "_law_listed" ["_law_book"] (Zaj K g)
noncomputable abbrev ZbR:Prop:=Dn P w0 K mg base 1 "_law_model" ["_law_year"] (ZaO K g)
noncomputable abbrev Zdb:Prop:=Dn P w0 K mg base 1 "_law_kids" ["_law_model_here","_law_name"] (ZbC K g)
noncomputable abbrev Zbg:Prop:=Dn P w0 K mg base 1 "_law_living" ["_law_model_here"] (Zai K g)
noncomputable abbrev Zda:Prop:=Dn P w0 K mg base 2 "_law_play" ["_law_model_here","_law_deed"] (ZbB K g)
noncomputable abbrev Jj:Prop:=Dn P w0 K mg base 2 "_law_next_deed" ["_law_model_here","_law_n","_law_far"] (XU K g)
noncomputable abbrev ZbQ:Prop:=Dn P w0 K mg base 2 "_law_start" ["_law_n"] (ZaN K g)
noncomputable abbrev Ze5:Prop:=Dn P w0 K mg base 6 "_law_do" ["_law_world","_law_deed"] (Zdq K g)
noncomputable abbrev ZbS:Prop:=Dn P w0 K mg base 4 "_law_dealt" ["_law_ledger","_law_name","_law_takers"] (ZaP K g)
noncomputable abbrev JR:Prop:=Dn P w0 K mg base 1 "_law_below" ["_law_model_here","_law_name"] (ZaQ K g)
noncomputable abbrev Zdc:Prop:=Dn P w0 K mg base 14 "_law_fits" ["_law_world","_law_model_here","_law_name"] (ZbD K g)
noncomputable abbrev Ze3:Prop:=Dk P w0 K mg base CX0 g.Lives 1 "Lives" ["self"] (Xt K g)
noncomputable abbrev Ze2:Prop:=Dk P w0 K mg base (CXR P w0 base) g.World 3 "World" ["self","year"] (Xr K g)
end
section
variable {P:Program}{w0:World}{K:Frag}{g:Ga}{mg:Str->Option Value}{base:Heap}
theorem Zgz {f:Addr}{fd:FuncData}(F:Fun K "within" "within" Zcz f fd)(T:Txt K g mg)  : FnOk P w0 K mg base CX0 1 f fd ["text","low","high"] (Zdo K g):=by
  refine F.ok Zdt (λ vs H Q E h=>?_) (λ cdv A outer s H vs Q E hr h=>?_)
  . obtain⟨x,a,b,rfl,_⟩:=h;rfl
  obtain⟨x,a,b,rfl,q⟩:=h;refine⟨_,(
(Zd (Yp PassesOwn.never rfl (pi_str (pv 0)) (Zw (i:=3) Zdt.nd rfl (Or.inl rfl))
 (Zg (ZA (PW.pt (Xu (Zq Zgw (pv 3) (pv 1) (Zt _)) (Y6 (Zq Zgy (pv 3) (pv 2) (Zt _)))))
 (Zg (Zk YA))
 Zo)))
 (Zg (Zk YA)))),?_⟩
  have fin:∀ v,v=x.cps.toList.all (inR a b)->Q (.bl v) H:=λ v hv=>by rw[hv];exact q
  refine⟨_,rfl,x,rfl,ZiP (λ i σ H2=>H2=H/\(x.cps.toList.take i).all (inR a b)=true/\∃ v,σ=[some (.str x),some (.str ⟨#[a]⟩),some (.str ⟨#[b]⟩),v]) ⟨rfl,rfl,_,rfl⟩ ?_ ?_⟩
  . rintro i c σ H2 hc ⟨rfl,ha,v,rfl⟩;refine⟨_,rfl,_,rfl,_,_,rfl,rfl,_,rfl,?_⟩;refine Yg (λ e=>YB ?_) (λ e=>?_)
    . have e':c<a:=(Zel c a).mp (of_decide_eq_true e);exact fin _ (Zgn hc (by unfold inR;rw[decide_eq_false (by omega)];rfl)).symm
    . have e':¬ c<a:=λ z=>e (decide_eq_true ((Zel c a).mpr z));refine⟨_,rfl,_,rfl,_,_,rfl,rfl,_,rfl,?_⟩;refine Yg (λ f=>?_) (λ f=>?_)
      . have f':b<c:=(Zel b c).mp (of_decide_eq_true f);exact fin _ (Zgn hc (by unfold inR;rw[decide_eq_false (show ¬ c<=b by omega),Bool.and_false])).symm
      . have f':¬ b<c:=λ z=>f (decide_eq_true ((Zel b c).mpr z));exact⟨rfl,Zh7 ha hc (by unfold inR;rw[decide_eq_true (show a<=c by omega),decide_eq_true (show c<=b by omega)];rfl),_,rfl⟩
  . rintro σ H2 ⟨rfl,ha,v,rfl⟩;rw[take_length]at ha;exact fin _ ha.symm
theorem Zef {f:Addr}{fd:FuncData}(F:Fun K "good_word" "good_word" JK f fd)(T:Txt K g mg)(Qat:Zc7 P w0 K g mg base):FnOk P w0 K mg base CX0 2 f fd ["word"] (ZaR K g):=by
  refine F.ok ZdU (λ vs H Q E h=>?_) (λ cdv A outer s H vs Q E hr h=>?_)
  . obtain⟨x,rfl,_⟩:=h;rfl
  obtain⟨x,rfl,hx,q⟩:=h;refine⟨_,(
(Zg (Zk (Zbq (ZeM ZfU ZfU Zf (Zr ZD rfl T.z_len boot_len (Za (pv 0) Zc)) (YX (v:=.int 8) rfl T.QcN ⟨_,rfl⟩)) (Zbq (Zz Qat (h_ hr) (Za (pv 0) (Za Zs (Za Zs Zc)))) (Zd3 (Zb9 Zd5 (pv 0) (YX (v:=.ref g.BARRED) rfl T.QcP rfl) rfl))))))),?_⟩
  have fin:∀ v,v=gw x->Q (.bl v) H:=λ v hv=>by rw[hv];exact q
  refine⟨_,rfl,_,_,rfl,⟨ZI (by omega),rfl⟩,_,_,rfl,rfl,_,rfl,?_⟩;refine Yg (λ c=>?_) (λ c=>?_)
  . have c':1<=x.length:=by have:=of_decide_eq_true c;omega
    refine⟨_,_,rfl,rfl,_,rfl,?_⟩;refine Yg (λ d=>?_) (λ d=>?_)
    . have d':x.length<=8:=by have:=of_decide_eq_true d;omega
      refine⟨_,rfl,x,97,122,rfl,_,rfl,?_⟩;refine Yg (λ e=>?_) (λ e=>?_)
      . refine⟨_,rfl,g.BARRED,_,rfl, .inr (T.Qcm _),rfl,rfl,fin _ ?_⟩;unfold gw;rw[decide_eq_true c',decide_eq_true d',e];show(!(eqV (.str "crown") (.str x) || (eqV (.str "kids") (.str x) || false)))=_;show(!(("crown":Str) == x || (("kids":Str) == x || false)))=(!(decide (x="crown") || decide (x="kids")));rw[Bool.or_false,Zgm,Zgm]
      . refine fin _ ?_;unfold gw;rw[Bool.eq_false_iff.mpr e,Bool.and_false];rfl
    . refine fin _ ?_;unfold gw;rw[decide_eq_false (show ¬ x.length<=8 from λ z=>d (decide_eq_true (by omega))),Bool.and_false];rfl
  . refine⟨_,rfl,Z0 ?_⟩;refine fin _ ?_;unfold gw;rw[decide_eq_false (show ¬ 1<=x.length from λ z=>c (decide_eq_true (by omega)))];rfl
theorem Zd6 {f:Addr}{fd:FuncData}(F:Fun K "want_word" "want_word" JB f fd)(T:Txt K g mg)(Qau:JS P w0 K g mg base):FnOk P w0 K mg base (CXR P w0 base) 3 f fd ["word"] (ZaI K g):=by
  refine F.okX ZdP (λ vs H Q E h=>?_) (λ cdv A outer s H vs Q E hr h=>?_)
  . obtain⟨x,rfl,_⟩:=h;rfl
  obtain⟨x,rfl,hx,qe,q⟩:=h;refine⟨_,(
(Zg (ZA (Yo (Z4 (Zz Qau (h_ hr) (Za (pv 0) Zc))))
 (Zg (YE T.QaW.x T.QaV Zs))
 Zo))),?_⟩
  refine⟨_,rfl,x,rfl,hx,_,rfl,?_⟩;cases hg:gw x with
  |false=>exact YB ⟨rfl,qe hg⟩
  |true=>exact Z0 (q hg)
theorem ZcJ {f:Addr}{fd:FuncData}(F:Fun K "good_number" "good_number" XC f fd)(T:Txt K g mg)(Qat:Zc7 P w0 K g mg base):FnOk P w0 K mg base CX0 2 f fd ["text"] (Jp K g):=by
  refine F.ok Zcp (λ vs H Q E h=>?_) (λ cdv A outer s H vs Q E hr h=>?_)
  . obtain⟨x,rfl,_⟩:=h;rfl
  obtain⟨x,rfl,hx,q⟩:=h;refine⟨_,(
(Zg (Zk (Zbq (ZeM ZfU ZfU Zf (Zr ZD rfl T.z_len boot_len (Za (pv 0) Zc)) (YX (v:=.int 2) rfl T.QcO ⟨_,rfl⟩)) (Zbq (Zz Qat (h_ hr) (Za (pv 0) (Za Zs (Za Zs Zc)))) (Zd3 (Zb9 ZfT (Zl ZhL (pv 0) Zf (λ _ _=>rfl)) Zs (Zt _)))))))),?_⟩
  have fin:∀ v,v=gn x->Q (.bl v) H:=λ v hv=>by rw[hv];exact q
  refine⟨_,rfl,_,_,rfl,⟨ZI (by omega),rfl⟩,_,_,rfl,rfl,_,rfl,?_⟩;refine Yg (λ c=>?_) (λ c=>?_)
  . have c':1<=x.length:=by have:=of_decide_eq_true c;omega
    refine⟨_,_,rfl,rfl,_,rfl,?_⟩;refine Yg (λ d=>?_) (λ d=>?_)
    . have d':x.length<=2:=by have:=of_decide_eq_true d;omega
      refine⟨_,rfl,x,48,57,rfl,_,rfl,?_⟩;refine Yg (λ e=>?_) (λ e=>?_)
      . have hl:x.cps.toList.length=x.length:=length_toList;obtain⟨c0,hc0⟩:∃ c0,x.cps.toList[0]? = some c0:=⟨_,getElem?_eq_getElem (by omega)⟩;have hat:atI x.cps.toList ((0:Nat):Int)=some c0:=Xy hc0;refine⟨_,rfl,x,_,c0,rfl,rfl,ZI (by omega),hat,rfl,fin _ ?_⟩;unfold gn;rw[decide_eq_true c',decide_eq_true d',e];show(!decide (V.str ⟨#[c0]⟩=V.str "0"))=(!decide (x.cps.toList.head? = some 48));have z:(V.str ⟨#[c0]⟩=V.str "0")↔c0=48:=by
          rw[show("0":Str)=⟨#[48]⟩ by decide +kernel];constructor
          . intro w;injection w with w;injection w with w;simpa using w
          . rintro rfl;rfl
        rw[List.head?_eq_getElem?,hc0];congr 1;rw[Bool.eq_iff_iff,decide_eq_true_iff,decide_eq_true_iff,z];simp
      . refine fin _ ?_;unfold gn;rw[Bool.eq_false_iff.mpr e,Bool.and_false];rfl
    . refine fin _ ?_;unfold gn;rw[decide_eq_false (show ¬ x.length<=2 from λ z=>d (decide_eq_true (by omega))),Bool.and_false];rfl
  . refine⟨_,rfl,Z0 ?_⟩;refine fin _ ?_;unfold gn;rw[decide_eq_false (show ¬ 1<=x.length from λ z=>c (decide_eq_true (by omega)))];rfl
theorem Zhn {f:Addr}{fd:FuncData}(F:Fun K "parts" "parts" ZdX f fd)(T:Txt K g mg)(Qau:JS P w0 K g mg base)(QaY:Zap P w0 K g mg base):FnOk P w0 K mg base (CXR P w0 base) 3 f fd ["name"] (ZeF K g):=by
  refine F.okX ZaT (λ vs H Q E h=>?_) (λ cdv A outer s H vs Q E hr h=>?_)
  . obtain⟨x,rfl,_⟩:=h;rfl
  obtain⟨x,rfl,hx,qe,q⟩:=h;refine⟨_,(
(Zd (Zfq (Zam plainAttrs_str PySem.F.slot_str_split PySem.F.type_str_split ZcV (pv 0) (Za Zs Zc)) (Zit rfl (ZC (Zw (i:=1) ZaT.nd rfl (Or.inl rfl)) (ZC (Zw (i:=2) ZaT.nd rfl (Or.inl rfl)) Xv))))
 (Zd (ZA (PW.pt (Xu (Yo (Z4 (Zz Qau (h_ hr) (Za (pv 1) Zc)))) (Y6 (Zq Zan (Zr ZD rfl T.z_len boot_len (Za (pv 2) Zc)) (YX (v:=.int 5) rfl T.Qcl ⟨_,rfl⟩) (Zt _)))))
 (Zg (YE T.QaW.x T.QaV Zs))
 Zo)
 (Zd (Yp PassesOwn.leaving rfl (Ya (pv 2)) (Zw (i:=3) ZaT.nd rfl (Or.inl rfl))
 (Zg (ZA (Yo (Z4 (Zz QaY (h_ hr) (Za (pv 3) Zc))))
 (Zg (YE T.QaW.x T.QaV Zs))
 Zo)))
 (Zg (Zk (Zn op_cat (Xo (Za (pv 1) Zc)) (Zhj (x:="number") (cl:=[]) (caps:=[]) rfl (Ya (pv 2)) (λ _ _ _ _ _=>ZeK) (λ _ _ _ _ _=>(YO Zdl rfl T.z_int PyProof.Rows.boot_int (Za (pv 0) Zc))) rfl (by decide +kernel) rfl (by decide +kernel) rfl (λ _ _ h=>nomatch h) (ZaF rfl) (λ p hp=>nomatch hp) (by decide +kernel))))))))),?_⟩
  have h2:(Builtin.Str.partsBetween x (Builtin.Str.occurrences x dot 0 x.length (x.length+1)) dot.length).length<=sizeLine:=by
    rw[PyProof.Rows.len_partsBetween];have:=StrLaws.occ_length_le x dot 0 x.length (x.length+1);exact ZI (by omega)
  have nl:=ZiC x;refine⟨_,rfl,rfl,x,dot,rfl,rfl,by decide +kernel,ZI (by omega),h2,λ l hl=>?_⟩;have s1:=Zi hl (.lst ((Txt.split x dot).map V.str));have pe:(Txt.split x dot).map V.str = .str (wd x)::(nms x).map V.str:=by rw[show Txt.split x dot=wd x::nms x from YQ x];rfl
  refine⟨l, .str (wd x),(nms x).map V.str,rfl,SqL.of (by rw[Zb,pe]),by rw[length_map];omega,λ D hD=>?_⟩;have s2:=s1.trans (Zi hD (.lst ((nms x).map V.str)));have hD2:upd (upd H l (.lst ((Txt.split x dot).map V.str))) D (.lst ((nms x).map V.str)) D=some (.lst ((nms x).map V.str)):=Zb;generalize upd (upd H l (.lst ((Txt.split x dot).map V.str))) D (.lst ((nms x).map V.str))=H2 at *;have wl:(wd x).length<=200:=le_trans (Zhl (x:=x) (by rw[YQ];exact mem_cons_self ..)) hx;have pl:∀ p∈nms x,p.length<=200:=λ p hp=>le_trans (Zhl (x:=x) (by rw[YQ];exact mem_cons_of_mem _ hp)) hx;refine⟨_,_,rfl,_,_,rfl,rfl,?_⟩;refine⟨_,rfl,wd x,rfl,wl,_,rfl,?_⟩;cases g1:gw (wd x) with
  |false=>
    refine YB ?_;refine YB ⟨rfl,qe (by unfold pok;rw[g1];rfl) H2 s2⟩
  |true=>
    refine Z0 ?_;refine⟨_,rfl,_,_,rfl, .inl ⟨_,SqL.of hD2,rfl⟩,_,_,rfl,rfl,_,rfl,?_⟩;refine Yg (λ c=>?_) (λ c=>?_)
    . have c':¬ (nms x).length<=5:=by have:=of_decide_eq_true c;rw[length_map]at this;omega
      exact⟨rfl,qe (by unfold pok;rw[g1,decide_eq_false c'];rfl) H2 s2⟩
    . have c':(nms x).length<=5:=by
        have c2:¬ ((5:Int)<(((nms x).map V.str).length:Nat)):=λ z=>c (decide_eq_true z);rw[length_map]at c2;omega
      refine⟨_,rfl,D,rfl,⟨_,SqL.of hD2⟩,YI (xs:=(nms x).map V.str) (λ i σ H3=>H3=H2/\((nms x).take i).all gn=true/\∃ v,σ=[some (.str x),some (.str (wd x)),some (.ref D),v]) ⟨rfl,rfl,_,rfl⟩ ?_ ?_ ?_⟩
      . rintro i σ H3 _ ⟨rfl,_⟩;exact SqL.of hD2
      . rintro i v σ H3 hv ⟨rfl,ha,w,rfl⟩;rw[getElem?_map]at hv;have ci:i<(nms x).length:=by
          cases z:(nms x)[i]? with
          |none=>rw[z]at hv;cases hv
          |some y=>exact(List.getElem?_eq_some_iff.mp z).1
        rw[getElem?_eq_getElem ci]at hv;cases hv;refine⟨_,rfl,(nms x)[i],rfl,pl _ (getElem_mem ci),_,rfl,?_⟩;cases g2:gn (nms x)[i] with
        |false=>
          refine YB ⟨rfl,qe ?_ H3 s2⟩;unfold pok;have z:(nms x).all gn=false:=by
            cases e:(nms x).all gn with
            |false=>rfl
            |true=>
              have:=List.all_eq_true.mp e _ (getElem_mem ci);rw[g2]at this;cases this
          rw[z,Bool.and_false]
        |true=>
          refine Z0 ⟨rfl,?_,_,rfl⟩;rw[take_succ,getElem?_eq_getElem ci,all_append,ha];simp[g2]
      . rintro σ H3 ⟨rfl,ha,w,rfl⟩;rw[length_map,take_length]at ha;have pk:pok x=true:=by unfold pok;rw[g1,decide_eq_true c',ha];rfl
        refine⟨_,rfl,(by show 1<=sizeLine;decide),λ b1 hb1=>?_⟩;have s3:=Zi hb1 (.lst [V.str (wd x)]);have hb1':upd H3 b1 (.lst [V.str (wd x)]) b1=some (.lst [V.str (wd x)]):=Zb;have hD3:=s3 _ _ hD2;generalize upd H3 b1 (.lst [V.str (wd x)])=H4 at *;refine⟨_,rfl,D,rfl,⟨_,SqL.of hD3⟩,λ E1 hE1=>⟨λ i m H5=>i<=(nms x).length/\m=(nms x).length - i/\Zp H4 H5/\H5 E1=some (.lst (((nms x).take i).map λ p=>V.int (iv p))),⟨(nms x).length,zero_le _,rfl,Zi hE1 _,Zb⟩,?_⟩⟩;rintro i m H5 ⟨hi,rfl,s5,hE5⟩
        by_cases ci:i<(nms x).length
        . refine .inr ⟨⟨_, .str (nms x)[i],s5.seq (SqL.of hD3),by simp[ci]⟩,λ v H' ⟨e,ev⟩=>?_⟩;subst e;have ev':=ev _ (s5.seq (SqL.of hD3));rw[getElem?_map,getElem?_eq_getElem ci]at ev';cases ev';refine Zg5 ?_;have g3:=List.all_eq_true.mp ha _ (getElem_mem ci);refine⟨_,rfl,(nms x)[i],_,rfl,(iv_gn g3).1,by have:=pl _ (getElem_mem ci);omega,_,(nms x).length - (i+1),hE5,Zu (by rw[length_map,length_take];omega),by omega,ci,rfl,Z6 s5 hE1,?_⟩;rw[Zb,<- JZ ci,map_append];rfl
        . have e:i=(nms x).length:=by omega
          subst e;rw[take_length]at hE5;refine .inl ⟨⟨_,s5.seq (SqL.of hD3),by rw[length_map];exact le_refl _⟩,?_⟩;refine⟨b1,E1,_,_,rfl,rfl,s5 _ _ hb1',hE5,le_of_lt (Zu (by rw[length_map];show 1+(nms x).length<=1000;omega)),λ R hR=>?_⟩;have s6:=(s2.trans s3).trans s5;exact q pk R _ (s6.trans (Zi hR _)) (s6.free hR) Zb
theorem Zd7 {f:Addr}{fd:FuncData}(F:Fun K "shortened" "shortened" JC f fd)(T:Txt K g mg)  : FnOk P w0 K mg base CX0 1 f fd ["name"] (ZaJ K g):=by
  refine F.ok ZdQ (λ vs H Q E h=>?_) (λ cdv A outer s H vs Q E hr h=>?_)
  . obtain⟨x,rfl,_⟩:=h;rfl
  obtain⟨x,rfl,hx,q⟩:=h;refine⟨_,(
(Zg (Zk (Zl Zj (Zam plainAttrs_str PySem.F.slot_str_rpartition PySem.F.type_str_rpartition Zhu (pv 0) (Za Zs Zc)) Zf (λ _ _=>rfl))))),?_⟩
  refine⟨_,rfl,rfl,x,dot,rfl,rfl,by decide +kernel,ZI (by omega),λ l hl=>?_⟩;have s1:=Zi hl;cases e:Builtin.Str.lastOccurrence x dot 0 x.length with
  |some i=>
    have u:up x=Builtin.Str.strSub x 0 i:=by unfold up;rw[e]
    refine⟨l,_,_,_,rfl,rfl,SqT.of Zb,rfl,?_⟩;rw[<- u];exact q _ (s1 _)
  |none=>
    have u:up x=Str.empty:=by unfold up;rw[e]
    refine⟨l,_,_,_,rfl,rfl,SqT.of Zb,rfl,?_⟩;rw[<- u];exact q _ (s1 _)
theorem Zd8 {f:Addr}{fd:FuncData}(F:Fun K "parent_of" "parent_of" JD f fd)(T:Txt K g mg)(QaZ:Zgh P w0 K g mg base)(Qa0:ZbM P w0 K g mg base):FnOk P w0 K mg base CX0 4 f fd ["name"] (ZaK K g):=by
  refine F.ok ZdR (λ vs H Q E h=>?_) (λ cdv A outer s H vs Q E hr h=>?_)
  . obtain⟨x,rfl,_⟩:=h;rfl
  obtain⟨x,rfl,hp,q⟩:=h;refine⟨_,(
(Zd (ZH (XN Jh QaZ (h_ hr) (Za (pv 0) Zc)))
 (Zg (Zk (Zz Qa0 (h_ hr) (Za (pv 0) Zc)))))),?_⟩
  have xl:=Xc hp;have xl2:x.length<=200:=by omega
  walk_at "g";refine⟨(λ z=>by rw[hp]at z;cases z),λ _ l H1 s1 fl hl=>?_⟩;walk_at "g";exact λ H2 s2=>q H2 (s1.trans s2)
theorem Za7 {f:Addr}{fd:FuncData}(F:Fun K "__init__" "Lives.__init__" YN f fd)(T:Txt K g mg)  : FnOk P w0 K mg base CX0 1 f fd ["self"] (Xt K g):=by
  refine F.ok ZaY (λ vs H Q E h=>?_) (λ cdv A outer s H vs Q E hr h=>?_)
  . obtain⟨b,dx,rfl,_⟩:=h;rfl
  obtain⟨b,dx,rfl,hb,q⟩:=h;refine⟨_,(
(Zd (Zbo (pv 0) Yr rfl)
 (Zd (Zbo (pv 0) Yr rfl)
 (Zg (Zbo (pv 0) Yr rfl))))),?_⟩
  intro d1 h1;have n1:b≠d1:=Zm hb h1;refine⟨_,rfl,b,_,dx,_,rfl,(by rw[Ze n1];exact hb),T.Qaa,T.Qao,by decide,?_⟩;intro d2 h2;have z2:d2≠b:=λ e=>by rw[e,Zb]at h2;cases h2
  rw[Ze z2]at h2;have z21:d2≠d1:=λ e=>by rw[e,Zb]at h2;cases h2
  rw[Ze z21]at h2;refine⟨_,rfl,b,_,dx,_,rfl,(by rw[Ze (Ne.symm z2),Zb]),T.Qaa,T.QaD,(by show 1<1000;decide),?_⟩;intro d3 h3;have z3:d3≠b:=λ e=>by rw[e,Zb]at h3;cases h3
  rw[Ze z3]at h3;have z32:d3≠d2:=λ e=>by rw[e,Zb]at h3;cases h3
  rw[Ze z32,Ze z3]at h3;have z31:d3≠d1:=λ e=>by rw[e,Zb]at h3;cases h3
  rw[Ze z31]at h3;refine⟨_,rfl,b,_,dx,_,rfl,(by rw[Ze (Ne.symm z3),Zb]),T.Qaa,T.Qar,(by show 2<1000;decide),?_⟩;refine q (JO b d1 d2 d3 []) _ ⟨λ a o na e=>?_,λ a e=>?_⟩ (λ a ha=>?_) ⟨⟨d1,d2,d3,[],⟨⟨dx,Zb⟩,?_,?_,?_,Ne.symm z21,Ne.symm z31,Ne.symm z32,(λ _ h=>nomatch h), .nil⟩,rfl,(λ _ h=>nomatch h),rfl⟩,Wf.nil⟩
  . have na:a≠b:=λ z=>na (by simp[z]);have a1:a≠d1:=Zm e h1;have a2:a≠d2:=Zm e h2;have a3:a≠d3:=Zm e h3;rw[Ze na,Ze a3,Ze na,Ze a2,Ze na,Ze a1];exact e
  . by_cases na:a=b
    . rw[na,Zb]at e;cases e
    . rw[Ze na]at e
      by_cases a3:a=d3
      . rw[a3,Zb]at e;cases e
      . rw[Ze a3,Ze na]at e
        by_cases a2:a=d2
        . rw[a2,Zb]at e;cases e
        . rw[Ze a2,Ze na]at e
          by_cases a1:a=d1
          . rw[a1,Zb]at e;cases e
          . rw[Ze a1]at e;exact e
  . unfold JO at ha;simp only[mem_cons,map_nil,not_mem_nil,or_false]at ha;rcases ha with rfl|rfl|rfl|rfl
    . exact .inl rfl
    . exact .inr h1
    . exact .inr h2
    . exact .inr h3
  . rw[Ze (Ne.symm n1),Ze (Ne.symm z31),Ze (Ne.symm n1),Ze (Ne.symm z21),Ze (Ne.symm n1),Zb];rfl
  . rw[Ze z2,Ze (Ne.symm z32),Ze z2,Zb];rfl
  . rw[Ze z3,Zb];rfl
theorem ZcP {f:Addr}{fd:FuncData}(F:Fun K "enter" "Lives.enter" XI f fd)(T:Txt K g mg)  : FnOk P w0 K mg base CX0 1 f fd ["self","name","year"] (Jv K g):=by
  refine F.ok Zcv (λ vs H Q E h=>?_) (λ cdv A outer s H vs Q E hr h=>?_)
  . obtain⟨b,d1,d2,d3,bs,ds,ws,n,y,rfl,_⟩:=h;rfl
  obtain⟨b,d1,d2,d3,bs,ds,ws,n,y,rfl,B,hn,hw,l1,l2,q⟩:=h;refine⟨_,(
(Zd (Yu (ZF hr) (ZM (pv 0) rfl) (pv 1) (pv 2) rfl)
 (Zg (Yu (ZF hr) (ZM (pv 0) rfl) (pv 1) (Xo Zc) rfl)))),?_⟩
  obtain⟨dx,hb⟩:=B.obj;obtain⟨nb1,nb2,nb3⟩:=B.bne;have v0:Z7 (yrs bs) (Sum.inr n:Key)=none:=by
    have z:=ZW bs n;rw[hn]at z;cases e:Z7 (yrs bs) (Sum.inr n:Key) with
    |none=>rfl
    |some v=>rw[e]at z;cases z
  refine⟨_,rfl,_,rfl,b,_,dx,_,_,rfl,hb,T.Qaa,T.Qao,rfl,_,rfl,d1,_,rfl,Jm.k (k:=Sum.inr n) B.h1 (Zu (by unfold yrs;rw[length_map];omega)),?_⟩;rw[YD _ v0];have e1:yrs bs++[((Sum.inr n:Key),V.int y)]=yrs (bs++[(n,y)]):=by unfold yrs;rw[map_append];rfl
  rw[e1];refine⟨zero_le _,λ l hl=>?_⟩;obtain⟨B2,kp⟩:=B.entered (n:=n) (y:=y) hl rfl rfl;have hl0:H l=none:=by
    have z:d1≠l:=λ e=>by rw[<- e,Zb]at hl;cases hl
    rw[Ze (Ne.symm z)]at hl;exact hl
  have nlb:b≠l:=λ e=>by rw[e,hl0]at hb;cases hb
  have nl3:d3≠l:=λ e=>by have:=B.h3;rw[e,hl0]at this;cases this
  refine⟨_,rfl,b,_,dx,_,_,rfl,(by rw[Ze nlb,Ze nb1];exact hb),T.Qaa,T.Qar,rfl,_,rfl,d3,_,rfl,Jm.k (k:=Sum.inr n) (by rw[Ze nl3,Ze (Ne.symm B.n13)];exact B.h3) (Zu (by unfold brs;rw[length_map];omega)),?_⟩;rw[YD _ hw];have e3:brs ws++[((Sum.inr n:Key),V.ref l)]=brs (ws++[(n,l,0)]):=by unfold brs;rw[map_append];rfl
  rw[e3];exact q l _ hl0 kp B2
theorem ZcO {f:Addr}{fd:FuncData}(F:Fun K "known" "Lives.known" XH f fd)(T:Txt K g mg)  : FnOk P w0 K mg base CX0 1 f fd ["self","name"] (Ju K g):=by
  refine F.ok Zcu (λ vs H Q E h=>?_) (λ cdv A outer s H vs Q E hr h=>?_)
  . obtain⟨b,bs,ds,R,n,rfl,_⟩:=h;rfl
  obtain⟨b,bs,ds,R,n,rfl,L,q⟩:=h;refine⟨_,(
(Zg (Zk (Zfr (ZaD (ZF hr) (pv 1) (ZM (pv 0) rfl)))))),?_⟩
  obtain⟨d1,d2,d3,ws,B,k1,k2,eR⟩:=id L.ex;obtain⟨dx,hb⟩:=B.obj;refine⟨_,rfl,_,rfl,b,_,dx,_,_,rfl,hb,T.Qaa,T.Qao,rfl,d1,_,rfl,B.births n,?_⟩;rw[ZW];exact q
theorem Zae {f:Addr}{fd:FuncData}(F:Fun K "want_known" "Lives.want_known" Yw f fd)(T:Txt K g mg)(Qav:XO P w0 K g mg base):FnOk P w0 K mg base (CXR P w0 base) 2 f fd ["self","name"] (Y9 K g):=by
  refine F.okX Zab (λ vs H Q E h=>?_) (λ cdv A outer s H vs Q E hr h=>?_)
  . obtain⟨b,bs,ds,R,n,rfl,_⟩:=h;rfl
  obtain⟨b,bs,ds,R,n,rfl,L,qe,q⟩:=h;refine⟨_,(
(Zg (ZA (Yo (Z4 (Yn ZbF Qav (h_ hr) (pv 0) (Za (pv 1) Zc))))
 (Zg (YE T.QcI.x T.QcE Zs))
 Zo))),?_⟩
  obtain⟨d1,d2,d3,ws,B,k1,k2,eR⟩:=id L.ex;obtain⟨dx,hb⟩:=B.obj;refine⟨_,rfl,b,dx,_,rfl,hb,rfl,_,rfl,b,bs,ds,R,n,rfl,L,_,rfl,?_⟩;cases e:has bs n with
  |false=>exact YB ⟨rfl,qe e⟩
  |true=>exact Z0 (q e)
theorem ZcS {f:Addr}{fd:FuncData}(F:Fun K "alive" "Lives.alive" XM f fd)(T:Txt K g mg)  : FnOk P w0 K mg base CX0 1 f fd ["self","name"] (Jy K g):=by
  refine F.ok Zcx (λ vs H Q E h=>?_) (λ cdv A outer s H vs Q E hr h=>?_)
  . obtain⟨b,bs,ds,R,n,rfl,_⟩:=h;rfl
  obtain⟨b,bs,ds,R,n,rfl,L,q⟩:=h;refine⟨_,(
(Zg (Zk (Zbq (Zfr (ZaD (ZF hr) (pv 1) (ZM (pv 0) rfl))) (Zd3 (Zfr (YR (ZF hr) (pv 1) (ZM (pv 0) rfl)))))))),?_⟩
  obtain⟨d1,d2,d3,ws,B,k1,k2,eR⟩:=id L.ex;obtain⟨dx,hb⟩:=B.obj;refine⟨_,rfl,_,rfl,b,_,dx,_,_,rfl,hb,T.Qaa,T.Qao,rfl,d1,_,rfl,B.births n,_,rfl,?_⟩;unfold al at q;rw[ZW];cases e:has bs n with
  |false=>
    rw[e]at q;exact Z0 q
  |true=>
    rw[e]at q;refine YB ⟨_,rfl,_,rfl,b,_,dx,_,_,rfl,hb,T.Qaa,T.QaD,rfl,d2,_,rfl,B.deaths n,?_⟩;rw[ZW];exact q
theorem Zaf {f:Addr}{fd:FuncData}(F:Fun K "want_alive" "Lives.want_alive" Yx f fd)(T:Txt K g mg)(Qae:ZY P w0 K g mg base)(Qaw:XR P w0 K g mg base):FnOk P w0 K mg base (CXR P w0 base) 3 f fd ["self","name"] (Xa K g):=by
  refine F.okX Zac (λ vs H Q E h=>?_) (λ cdv A outer s H vs Q E hr h=>?_)
  . obtain⟨b,bs,ds,R,n,rfl,_⟩:=h;rfl
  obtain⟨b,bs,ds,R,n,rfl,L,q1,q2,q⟩:=h;refine⟨_,(
(Zd (ZH (Yn Xp Qae (h_ hr) (pv 0) (Za (pv 1) Zc)))
 (Zg (ZA (Yo (Z4 (Yn ZbF Qaw (h_ hr) (pv 0) (Za (pv 1) Zc))))
 (Zg (YE T.QcH.x T.QcF Zs))
 Zo)))),?_⟩
  obtain⟨d1,d2,d3,ws,B,k1,k2,eR⟩:=id L.ex;obtain⟨dx,hb⟩:=B.obj;refine⟨_,rfl,b,dx,_,rfl,hb,rfl,_,rfl,b,bs,ds,R,n,rfl,L,q1,λ hn=>?_⟩;refine⟨_,rfl,b,dx,_,rfl,hb,rfl,_,rfl,b,bs,ds,R,n,rfl,L,_,rfl,?_⟩;unfold al;rw[hn];cases e:has ds n with
  |false=>exact Z0 (q hn e)
  |true=>exact YB ⟨rfl,q2 hn e⟩
theorem Zb1 {f:Addr}{fd:FuncData}(F:Fun K "arrive" "Lives.arrive" Xl f fd)(T:Txt K g mg)(Qax:JP P w0 K g mg base)(Qav:XO P w0 K g mg base)(Qay:XQ P w0 K g mg base):FnOk P w0 K mg base (CXR P w0 base) 4 f fd ["self","word","born"] (Jf K g):=by
  refine F.okX ZbW (λ vs H Q E h=>?_) (λ cdv A outer s H vs Q E hr h=>?_)
  . obtain⟨b,bs,ds,R,n,y,rfl,_⟩:=h;rfl
  obtain⟨b,bs,ds,R,n,y,rfl,L,hx,hl,q1,q2,q⟩:=h;refine⟨_,(
(Zd (ZH (XN Xp Qax (h_ hr) (Za (pv 1) Zc)))
 (Zd (ZA (Z4 (Yn ZbF Qav (h_ hr) (pv 0) (Za (pv 1) Zc)))
 (Zg (YE T.Qck.x T.Qcj Zs))
 Zo)
 (Zg (ZH (Yn ZbF Qay (h_ hr) (pv 0) (Za (pv 1) (Za (pv 2) Zc)))))))),?_⟩
  obtain⟨d1,d2,d3,ws,B,k1,k2,eR⟩:=id L.ex;obtain⟨dx,hb⟩:=B.obj;have wl:ws.length=bs.length:=by rw[<- length_map (f:=λ p=>p.1),k1,length_map]
  refine⟨_,rfl,n,rfl,hx,q1,λ hg=>?_⟩;refine⟨_,rfl,b,dx,_,rfl,hb,rfl,_,rfl,b,bs,ds,R,n,rfl,L,_,rfl,?_⟩;cases hn:has bs n with
  |true=>exact YB ⟨rfl,q2 hg hn⟩
  |false=>
    refine Z0 ?_;refine⟨_,rfl,b,dx,_,rfl,hb,rfl,_,rfl,_,rfl,b,d1,d2,d3,bs,ds,ws,n,y,rfl,B,hn,Zhr k1 hn,by omega,by omega,λ l H' hl0 kp B2=>?_⟩;have c:=Ze7 (l:=l) (y:=y) L.wf k1 k2 hg hn;subst eR;exact q hg hn _ H' (kp.wide (λ a ha=>by simp only[mem_cons,not_mem_nil,or_false]at ha;rcases ha with rfl|rfl;exact J9.2.1;exact J9.2.2.2.1)) (ZdE rfl hl0) ⟨⟨d1,d2,d3,_,B2,c.1,c.2,rfl⟩,L.wf.arrive hg hn (by omega)⟩
theorem ZcR {f:Addr}{fd:FuncData}(F:Fun K "birth" "Lives.birth" XL f fd)(T:Txt K g mg)(Qaz:Yy P w0 K g mg base)(Qay:XQ P w0 K g mg base):FnOk P w0 K mg base (CXR P w0 base) 4 f fd ["self","name","year"] (Jx K g):=by
  refine F.okX JA (λ vs H Q E h=>?_) (λ cdv A outer s H vs Q E hr h=>?_)
  . obtain⟨b,bs,ds,R,n,y,rfl,_⟩:=h;rfl
  obtain⟨b,bs,ds,R,n,y,rfl,L,hl,h99,q1,q2,q3,q⟩:=h;refine⟨_,(
(Zd (ZH (Yn Xp Qaz (h_ hr) (pv 0) (Za (pv 1) Zc)))
 (Zd (ZA (Zq op_ge (Zam plainAttrs_str PySem.F.slot_str_count PySem.F.type_str_count ZeW (pv 1) (Za Zs Zc)) (YX (v:=.int 5) rfl T.Qcl ⟨_,rfl⟩) (Zt _))
 (Zg (YE T.QcK.x T.QcG Zs))
 Zo)
 (Zd (Zv (i:=3) JA.nd rfl (Or.inl rfl) (pe_fs (pv 1) (Zn Z5 (Zr ZD rfl T.z_len boot_len (Za (YF (ZF hr) (ZM (pv 0) rfl) (pv 1) (λ _ _=>rfl)) Zc)) Zf)))
 (Zd (ZH (Zam plainAttrs_list PySem.F.slot_list_append PySem.F.type_list_append XX (YF (ZF hr) (ZM (pv 0) rfl) (pv 1) (λ _ _=>rfl)) (Za (pv 3) Zc)))
 (Zd (ZH (Yn ZbF Qay (h_ hr) (pv 0) (Za (pv 3) (Za (pv 2) Zc))))
 (Zg (Zk (pv 3))))))))),?_⟩
  obtain⟨d1,d2,d3,ws,B,k1,k2,eR⟩:=id L.ex;obtain⟨dx,hb⟩:=B.obj;have wl:ws.length=bs.length:=by rw[<- length_map (f:=λ p=>p.1),k1,length_map]
  refine⟨_,rfl,b,dx,_,rfl,hb,rfl,_,rfl,b,bs,ds,R,n,rfl,L,q1,q2,λ hn hd=>?_⟩;refine⟨_,rfl,rfl,n,dot,rfl,rfl,_,_,rfl,rfl,_,rfl,Yg (λ z=>?_) (λ z=>?_)⟩
  . exact⟨rfl,q3 hn hd (by have z':=of_decide_eq_true z;unfold ZJ;omega)⟩
  have hdot:ZJ n<5:=by
    have z':¬ ((5:Int)<=(ZJ n:Nat)):=λ w=>z (decide_eq_true w);omega
  have hx:=Xc (L.wf.wrt n hn);obtain⟨a,hw⟩:=Zh5 k1 k2 hn;have g0:ZU H d3 (.str n) (Z7 (brs ws) (Sum.inr n:Key)):=ZU.k (k:=Sum.inr n) B.h3;rw[Zcf,hw]at g0;have ha:=B.kids _ (Zcc hw);have kl:(Y2 n (nk bs n)).length=nk bs n:=by unfold Y2;rw[length_map,length_range]
  have c0:(0:Int)<=((nk bs n:Nat):Int)+1:=by omega
  have c1:((nk bs n:Nat):Int)+1<131:=by omega
  have tl:=Zfh c0 c1;have l3:(n++dot).length=n.length+1:=by rw[Y0];rfl
  refine⟨_,rfl,n,rfl,ZI (by omega),ZI (by rw[show(n++(".":Str)).length=n.length+1 from l3];omega),?_⟩;refine⟨_,rfl,b,_,dx,_,_,rfl,hb,T.Qaa,T.Qar,rfl,_,rfl,d3,_,rfl,g0,_,_,rfl, .inl ⟨_,SqL.of ha,rfl⟩,_,_,rfl,rfl,((nk bs n:Nat):Int)+1,(by rw[kl]),J5 c0 c1,ZI (by rw[Y0,show(n++(".":Str)).length=n.length+1 from l3];omega),?_⟩;refine⟨_,rfl,b,_,dx,_,_,rfl,hb,T.Qaa,T.Qar,rfl,_,rfl,d3,_,rfl,g0, .inl ⟨rfl,_,SqL.of ha⟩,_,rfl,a,_,_,rfl,rfl,ha,Zu (by rw[kl];omega),?_⟩;rw[show Y2 n (nk bs n)++[V.str (n++(".":Str)++(toString (((nk bs n:Nat):Int)+1):Str))]=Y2 n (nk bs n+1) from ZdB n (nk bs n)];have hk:(ws.map λ p=>p.1).Nodup:=by rw[k1];exact L.wf.nod
  have B2:=B.grown hk (Zcc hw);obtain⟨dx2,hb2⟩:=B2.obj;have hn2:=L.wf.no_kid n;refine⟨_,rfl,b,dx2,_,rfl,hb2,rfl,_,rfl,_,rfl,b,d1,d2,d3,bs,ds,L2.bump ws n,kid n (nk bs n),y,rfl,B2,hn2,by rw[Zfc];exact Zhr k1 hn2,by omega,by unfold L2.bump;rw[length_map];omega,λ l H' hl1 kp B3=>?_⟩;have hl0:H l=none:=by
    have z:l≠a:=λ e=>by rw[e,Zb]at hl1;cases hl1
    rw[Ze z]at hl1;exact hl1
  have c:=Ze8 (l:=l) (y:=y) L.wf k1 k2 hn (by omega);subst eR;refine⟨_,rfl,q hn hd hdot _ H' ?_ (ZdE (Zfe ws n) hl0) ⟨⟨d1,d2,d3,_,B3,c.1,c.2,rfl⟩,L.wf.birth hn hdot (by omega) h99⟩⟩;have k0:ZS (JO b d1 d2 d3 ws) H (upd H a (.lst (Y2 n (nk bs n+1)))):=YG.wide (λ x hx=>by rw[List.mem_singleton.mp hx];exact J9.2.2.2.2 _ (Zcc hw));exact k0.tr kp (λ x hx=>by simp only[mem_cons,not_mem_nil,or_false]at hx;rcases hx with rfl|rfl;exact .inl J9.2.1;exact .inl J9.2.2.2.1)
theorem ZcQ {f:Addr}{fd:FuncData}(F:Fun K "death" "Lives.death" XJ f fd)(T:Txt K g mg)(Qaz:Yy P w0 K g mg base):FnOk P w0 K mg base (CXR P w0 base) 4 f fd ["self","name","year"] (Jw K g):=by
  refine F.okX Zcw (λ vs H Q E h=>?_) (λ cdv A outer s H vs Q E hr h=>?_)
  . obtain⟨b,bs,ds,R,n,y,rfl,_⟩:=h;rfl
  obtain⟨b,bs,ds,R,n,y,rfl,L,hl,q1,q2,q⟩:=h;refine⟨_,(
(Zd (ZH (Yn Xp Qaz (h_ hr) (pv 0) (Za (pv 1) Zc)))
 (Zg (Yu (ZF hr) (ZM (pv 0) rfl) (pv 1) (pv 2) rfl)))),?_⟩
  obtain⟨d1,d2,d3,ws,B,k1,k2,eR⟩:=id L.ex;obtain⟨dx,hb⟩:=B.obj;refine⟨_,rfl,b,dx,_,rfl,hb,rfl,_,rfl,b,bs,ds,R,n,rfl,L,q1,q2,λ hn hd=>?_⟩;refine⟨_,rfl,_,rfl,b,_,dx,_,_,rfl,hb,T.Qaa,T.QaD,rfl,_,rfl,d2,_,rfl,Jm.k (k:=Sum.inr n) B.h2 (Zu (by unfold yrs;rw[length_map];omega)),?_⟩;rw[YD _ (J4 hd),JY];obtain⟨B2,kp⟩:=B.died (ds':=ds++[(n,y)]);subst eR;exact q hn hd _ (kp.wide (λ a ha=>by rw[List.mem_singleton.mp ha];exact J9.2.2.1)) ⟨⟨d1,d2,d3,ws,B2,k1,k2,rfl⟩,L.wf.death hn⟩
theorem Zb2 {f:Addr}{fd:FuncData}(F:Fun K "age_in" "Lives.age_in" Xm f fd)(T:Txt K g mg)(Qae:ZY P w0 K g mg base):FnOk P w0 K mg base (CXR P w0 base) 3 f fd ["self","name","year"] (Jg K g):=by
  refine F.okX ZbX (λ vs H Q E h=>?_) (λ cdv A outer s H vs Q E hr h=>?_)
  . obtain⟨b,bs,ds,R,n,t,rfl,_⟩:=h;rfl
  obtain⟨b,bs,ds,R,n,t,rfl,L,q1,q⟩:=h;refine⟨_,(
(Zd (ZH (Yn Xp Qae (h_ hr) (pv 0) (Za (pv 1) Zc)))
 (Zg (Zk (Zn ZcH (Za3 (ZF hr) (ZM (pv 0) rfl) (pv 1) (pv 2) ⟨rfl,rfl,rfl,rfl⟩) (YF (ZF hr) (ZM (pv 0) rfl) (pv 1) (λ _ _=>rfl))))))),?_⟩
  obtain⟨d1,d2,d3,ws,B,k1,k2,eR⟩:=id L.ex;obtain⟨dx,hb⟩:=B.obj;refine⟨_,rfl,b,dx,_,rfl,hb,rfl,_,rfl,b,bs,ds,R,n,rfl,L,q1,λ hn=>?_⟩;have hn':=hn;unfold has at hn';cases hy:yr bs n with
  |none=>rw[hy]at hn';cases hn'
  |some y=>
    have g0:=B.births n;rw[Zce,hy]at g0;have g1:=B.deaths n;rw[Zce]at g1;refine⟨_,rfl,b,_,dx,_,_,rfl,hb,T.Qaa,T.QaD,rfl,d2,rfl, .inl ⟨_, .inl B.h2⟩,_,rfl,_,rfl,_,g1,_,rfl,b,_,dx,_,_,rfl,hb,T.Qaa,T.Qao,rfl,_,rfl,d1,_,rfl,g0,(yr ds n).getD t,y,?_,rfl,q y hy⟩;cases yr ds n <;> rfl
theorem Za6 {f:Addr}{fd:FuncData}(F:Fun K "children" "Lives.children" YM f fd)(T:Txt K g mg)(Qae:ZY P w0 K g mg base):FnOk P w0 K mg base (CXR P w0 base) 3 f fd ["self","name"] (Xs K g):=by
  refine F.okX ZaX (λ vs H Q E h=>?_) (λ cdv A outer s H vs Q E hr h=>?_)
  . obtain⟨b,bs,ds,R,n,rfl,_⟩:=h;rfl
  obtain⟨b,bs,ds,R,n,rfl,L,q1,q⟩:=h;refine⟨_,(
(Zd (ZH (Yn Xp Qae (h_ hr) (pv 0) (Za (pv 1) Zc)))
 (Zg (Zk (YO (show X1 _ (.type "list") (Zhg K) from ZfE) rfl T.z_list boot_list (Za (YF (ZF hr) (ZM (pv 0) rfl) (pv 1) (λ _ _=>rfl)) Zc)))))),?_⟩
  obtain⟨d1,d2,d3,ws,B,k1,k2,eR⟩:=id L.ex;obtain⟨dx,hb⟩:=B.obj;refine⟨_,rfl,b,dx,_,rfl,hb,rfl,_,rfl,b,bs,ds,R,n,rfl,L,q1,λ hn=>?_⟩;obtain⟨a,hw⟩:=Zh5 k1 k2 hn;have g0:ZU H d3 (.str n) (Z7 (brs ws) (Sum.inr n:Key)):=ZU.k (k:=Sum.inr n) B.h3;rw[Zcf,hw]at g0;exact⟨_,rfl,b,_,dx,_,_,rfl,hb,T.Qaa,T.Qar,rfl,_,rfl,d3,_,rfl,g0,a,_,rfl, .inl (SqL.of (B.kids _ (Zcc hw))),λ l hl=>q hn l _ (Zi hl _) hl Zb⟩
theorem ZcN {f:Addr}{fd:FuncData}(F:Fun K "names" "Lives.names" XG f fd)(T:Txt K g mg)  : FnOk P w0 K mg base CX0 1 f fd ["self"] (Jt K g):=by
  refine F.ok Zct (λ vs H Q E h=>?_) (λ cdv A outer s H vs Q E hr h=>?_)
  . obtain⟨b,bs,ds,R,rfl,_⟩:=h;rfl
  obtain⟨b,bs,ds,R,rfl,L,q⟩:=h;refine⟨_,(
(Zg (Zk (YO (Zde rfl) rfl T.z_list boot_list (Za (ZM (pv 0) rfl) Zc))))),?_⟩
  obtain⟨d1,d2,d3,ws,B,k1,k2,eR⟩:=id L.ex;obtain⟨dx,hb⟩:=B.obj;refine⟨_,rfl,b,_,dx,_,_,rfl,hb,T.Qaa,T.Qao,rfl,d1,_,rfl, .inl B.h1,λ l hl=>?_⟩;have e:(yrs bs).map (λ p=>kV p.1)=bs.map λ p=>V.str p.1:=by
    unfold yrs;rw[map_map];rfl
  rw[e];exact q l _ (Zi hl _) hl Zb
theorem ZgC {f:Addr}{fd:FuncData}(F:Fun K "common" "common" ZcC f fd)(T:Txt K g mg)  : FnOk P w0 K mg base CX0 1 f fd ["one","other"] (Zdr K g):=by
  refine F.ok Zdv (λ vs H Q E h=>?_) (λ cdv A outer s H vs Q E hr h=>?_)
  . obtain⟨a,b,rfl,_⟩:=h;rfl
  obtain⟨a,b,rfl,ha,hb,q⟩:=h;refine⟨_,(
(Zd (Za1 PassesOwn.never (Zq Zan (pv 1) Zf (Zt _))
 (Zg (Zhh (i:=0) (j:=1) rfl Zdv.nd rfl rfl (by decide) rfl rfl (Za (pv 1) (Za (Zn Yq (pv 0) (pv 1)) Zc)) rfl)))
 (Zg (Zk (pv 0))))),?_⟩
  refine Zcd (λ σ H'=>∃ x y:Int,σ=[some (.int x),some (.int y)]/\0<=x/\0<=y/\Sh.G x y=Sh.G a b/\H'=H) (λ σ _=>match σ with|[_,some (.int y)]=>y.toNat|_=>0) ⟨a,b,rfl,ha,hb,rfl,rfl⟩ ?_ ?_
  . rintro σ H' ⟨x,y,rfl,hx,hy,hg,rfl⟩;refine⟨_,rfl,_,_,rfl,rfl,_,rfl,?_⟩;refine Yg (λ c=>?_) (λ c=>?_)
    . have c':0<y:=of_decide_eq_true c;refine⟨_,rfl,_,rfl,_,rfl,_,_,rfl,rfl,c',_,_,rfl,⟨y,x % y,rfl,hy,emod_nonneg x (by omega),(Sh.G_step hx c').trans hg,rfl⟩,?_⟩;have h1:=emod_lt_of_pos x c';have h2:=emod_nonneg x (show y≠0 by omega);show(x % y).toNat<y.toNat;omega
    . have c':¬ 0<y:=of_decide_eq_false (Bool.eq_false_iff.mpr c);refine⟨_,rfl,?_⟩;have e:x=Sh.G a b:=(Sh.G_zero hx hy c').trans hg;rw[e];exact q
  . rintro σ H Q Q' h ⟨v,e,i,j,e1,e2,k,e3,q⟩;exact⟨v,e,i,j,e1,e2,k,e3,h _ _ q⟩
theorem ZgA {f:Addr}{fd:FuncData}(F:Fun K "lowest" "lowest" ZcA f fd)(T:Txt K g mg)(Qa1:Ze6 P w0 K g mg base):FnOk P w0 K mg base CX0 2 f fd ["num","den"] (Zdp K g):=by
  refine F.ok Zdu (λ vs H Q E h=>?_) (λ cdv A outer s H vs Q E hr h=>?_)
  . obtain⟨n,d,rfl,_⟩:=h;rfl
  obtain⟨n,d,rfl,hn,hd,hs,q⟩:=h;refine⟨_,(
(Zd (Zv (i:=2) Zdu.nd rfl (Or.inl rfl) (Zz Qa1 (h_ hr) (Za (pv 0) (Za (pv 1) Zc))))
 (Zg (Zk (ZO (Za (Zn Za4 (pv 0) (pv 2)) (Za (Zn Za4 (pv 1) (pv 2)) Zc))))))),?_⟩
  have g0:=Sh.G_pos (a:=n) hd;have g1:=Sh.G_le (a:=n) hd;have g2:(Sh.G n d).natAbs<BIG:=Nat.lt_of_le_of_lt (by omega) hs;refine⟨_,rfl,_,rfl,n,d,rfl,hn,Int.le_of_lt hd,?_⟩;exact⟨_,rfl,_,rfl,_,_,rfl,rfl,⟨g0,g2⟩,_,rfl,_,rfl,_,_,rfl,rfl,⟨g0,g2⟩,(by show 2<=sizeLine;decide),q⟩
theorem Ziy {f:Addr}{fd:FuncData}(F:Fun K "plus" "plus" Zfl f fd)(T:Txt K g mg)(QaA:Zc8 P w0 K g mg base):FnOk P w0 K mg base CX0 3 f fd ["one","other"] (ZfM K g):=by
  refine F.ok Zih (λ vs H Q E h=>?_) (λ cdv A outer s H vs Q E hr h=>?_)
  . obtain⟨p,q,a,b,c,d,rfl,_⟩:=h;rfl
  obtain⟨p,q,a,b,c,d,rfl,t,k⟩:=h;refine⟨_,(
(Zg (Zk (Zz QaA (h_ hr) (Za (Zn Z5 (Zn YY (Zl Zj (pv 0) Zf (λ _ _=>rfl)) (Zl Zj (pv 1) Zf (λ _ _=>rfl))) (Zn YY (Zl Zj (pv 1) Zf (λ _ _=>rfl)) (Zl Zj (pv 0) Zf (λ _ _=>rfl)))) (Za (Zn YY (Zl Zj (pv 0) Zf (λ _ _=>rfl)) (Zl Zj (pv 1) Zf (λ _ _=>rfl))) Zc)))))),?_⟩
  exact⟨_,rfl,p,_,_,_,rfl,rfl,t.h1,rfl,_,rfl,q,_,_,_,rfl,rfl,t.h2,rfl,_,_,rfl,rfl,⟨t.ba,t.bdd⟩,_,rfl,q,_,_,_,rfl,rfl,t.h2,rfl,_,rfl,p,_,_,_,rfl,rfl,t.h1,rfl,_,_,rfl,rfl,⟨t.bc,t.bb⟩,_,_,rfl,rfl,
    _,rfl,p,_,_,_,rfl,rfl,t.h1,rfl,_,rfl,q,_,_,_,rfl,rfl,t.h2,rfl,_,_,rfl,rfl,⟨t.bb,t.bdd⟩,_,_,rfl,Int.add_nonneg t.ad.1 t.cb.1,t.bd.1,t.bBD,k⟩
theorem Zhm {f:Addr}{fd:FuncData}(F:Fun K "times" "times" ZdW f fd)(T:Txt K g mg)(QaA:Zc8 P w0 K g mg base):FnOk P w0 K mg base CX0 3 f fd ["one","other"] (ZeE K g):=by
  refine F.ok Zhb (λ vs H Q E h=>?_) (λ cdv A outer s H vs Q E hr h=>?_)
  . obtain⟨p,q,a,b,c,d,rfl,_⟩:=h;rfl
  obtain⟨p,q,a,b,c,d,rfl,t,k⟩:=h;refine⟨_,(
(Zg (Zk (Zz QaA (h_ hr) (Za (Zn YY (Zl Zj (pv 0) Zf (λ _ _=>rfl)) (Zl Zj (pv 1) Zf (λ _ _=>rfl))) (Za (Zn YY (Zl Zj (pv 0) Zf (λ _ _=>rfl)) (Zl Zj (pv 1) Zf (λ _ _=>rfl))) Zc)))))),?_⟩
  exact⟨_,rfl,p,_,_,_,rfl,rfl,t.h1,rfl,_,rfl,q,_,_,_,rfl,rfl,t.h2,rfl,_,_,rfl,rfl,⟨t.ba,t.bc⟩,
    _,rfl,p,_,_,_,rfl,rfl,t.h1,rfl,_,rfl,q,_,_,_,rfl,rfl,t.h2,rfl,_,_,rfl,rfl,⟨t.bb,t.bdd⟩,_,_,rfl,t.ac.1,t.bd.1,t.bBD,k⟩
theorem Zd9 {f:Addr}{fd:FuncData}(F:Fun K "ledger_of" "ledger_of" JE f fd)(T:Txt K g mg)  : FnOk P w0 K mg base CX0 1 f fd ["held"] (ZaL K g):=by
  refine F.ok ZdS (λ vs H Q E h=>?_) (λ cdv A outer s H vs Q E hr h=>?_)
  . obtain⟨d,es,rfl,_⟩:=h;rfl
  obtain⟨d,es,rfl,hD,hnd,hlen,hN,q⟩:=h;refine⟨_,(
(Zg (Zk (Zhj (x:="name") (cl:=[("held",s.heap.objs.size+1)]) (caps:=[("held",0)]) rfl (Ya (Zr (Zbi rfl) rfl T.z_sorted PyProof.Rows.boot_sorted (Za (pv 0) Zc))) (λ _ _ _ _ _=>Za2 (Zq (show OpR _ (compareOp .NotEq) (rEqD K true) from Zfs hr.units) (YF (ZF hr) (pv 1) (pv 0) (λ _ _=>rfl)) (YX (v:=.ref g.NOUGHT) rfl T.Qcn rfl) (Zt _))) (λ _ _ _ _ _=>(ZO (Za (pv 0) (Za (Zl (show IxR _ (ZeJ K) from Zj) (YF (ZF hr) (pv 1) (pv 0) (λ _ _=>rfl)) Zf (λ _ _=>rfl)) (Za (Zl (show IxR _ (ZeJ K) from Zj) (YF (ZF hr) (pv 1) (pv 0) (λ _ _=>rfl)) Zf (λ _ _=>rfl)) Zc))))) rfl (by decide +kernel) rfl (by decide +kernel) rfl (λ _ _ h=>h) (ZaF rfl) (λ p hp=>by rw[List.mem_singleton.mp hp];exact⟨rfl,rfl,by first|exact .inl rfl|exact .inr rfl⟩) (by decide +kernel))))),?_⟩
  obtain⟨ws,hw,hW⟩:=id hD;refine⟨_,rfl,d,_,Yk es,rfl, .inl hW.1,ZeZ hw,by rw[Zbu hw];omega,λ ss l hp hs hl=>?_⟩;have s1:Zp H (upd H l (.lst (ss.map V.str))):=Zi hl _;have hsl:ss.length<=60:=by rw[hp.length_eq];unfold Yk;rw[length_map];omega
  refine⟨l,rfl,⟨_,SqL.of Zb⟩,λ D hD0=>⟨λ i m H2=>i<=ss.length/\m=ss.length - i/\Zp (upd H l (.lst (ss.map V.str))) H2/\Led H2 D (ZcG es (ss.take i)),⟨ss.length,zero_le _,rfl,Zi hD0 _,[],rfl,Zb,λ _ h=>nomatch h⟩,?_⟩⟩;rintro i m H2 ⟨hi,rfl,sm,hled⟩;have hl2:SqL K H2 l (ss.map V.str):=sm.seq (SqL.of Zb)
  by_cases ci:i<ss.length
  . refine .inr ⟨⟨_, .str ss[i],hl2,by simp[ci]⟩,λ x H' ⟨e,ex⟩=>?_⟩;subst e;have ex':=ex _ hl2;rw[getElem?_map,getElem?_eq_getElem ci]at ex';cases ex';obtain⟨ws2,hw2,hW2⟩:=hD.same (s1.trans sm);have kin:ss[i]∈Yk es:=hp.mem_iff.mp (getElem_mem ci);rcases Dic.get (k:=ss[i]) hw2 hW2 with ⟨p,g1,g2,_⟩|⟨_,_,nk⟩
    . have hget:ZU H' d (.str ss[i]) (some (.ref p)):=by rw[<- g1];exact ZU.k (k:=Sum.inr ss[i]) hW2.1
      have hn:=hN _ (ZcX kin);refine⟨_,rfl,_,rfl,d,_,rfl,hget,shD _ _,shD 0 1,Zd1 g2,Zd1 (T.QaX _),Zds _ _,Zds _ _,_,rfl,?_⟩;refine Yg (λ c=>?_) (λ c=>?_)
      . have c':(look es ss[i]).1≠0:=(ZfW (k:=ss[i]) (n:=(look es ss[i]).1) (d:=(look es ss[i]).2) hn).mp c;refine⟨_,rfl,_,rfl,_,rfl,d,_,rfl,hget,p,_,_,_,rfl,rfl,g2,rfl,_,rfl,_,rfl,d,_,rfl,hget,p,_,_,_,rfl,rfl,g2,rfl,(by show 3<=sizeLine;decide),λ r hr0=>?_⟩;obtain⟨ys,y1,y2,y3⟩:=Led.push (e:=(ss[i],look es ss[i])) hled hr0;refine⟨ys,ss.length - (i+1),y2,Zu ?_,by omega,ci,rfl,Zcy sm hD0 hr0,?_⟩
        . rw[y1];unfold ZcG;rw[length_map];exact le_trans (length_filter_le _ _) (by rw[length_take];omega)
        . rw[J1 ci,if_pos c'];exact y3
      . have c':¬ (look es ss[i]).1≠0:=λ z=>c ((ZfW (k:=ss[i]) (n:=(look es ss[i]).1) (d:=(look es ss[i]).2) hn).mpr z);exact⟨ss.length - (i+1),by omega,ci,rfl,sm,by rw[J1 ci,if_neg c'];exact hled⟩
    . exact absurd kin nk
  . have e:i=ss.length:=by omega
    subst e;rw[take_length]at hled;exact .inl ⟨⟨_,hl2,by simp⟩,q D H2 _ (s1.trans sm) (s1.free hD0) hled (Zfa hnd hp hs)⟩
theorem Zho {f:Addr}{fd:FuncData}(F:Fun K "mixed" "mixed" ZdY f fd)(T:Txt K g mg)(Qa2:ZbO P w0 K g mg base)(Qa3:Zh1 P w0 K g mg base)(Qa4:Zgg P w0 K g mg base):FnOk P w0 K mg base CX0 4 f fd ["ledgers"] (ZeG K g):=by
  refine F.ok Xg (λ vs H Q E h=>?_) (λ cdv A outer s H vs Q E hr h=>?_)
  . obtain⟨L,ls,rfl,_⟩:=h;rfl
  obtain⟨L,ls,rfl,hL,mo,q⟩:=h;refine⟨_,(
(Zd (Zv (i:=1) Xg.nd rfl (Or.inr rfl) Yr)
 (Zd (Yp PassesOwn.never rfl (Ya (pv 0)) (Zw (i:=2) Xg.nd rfl (Or.inl rfl))
 (Zg (Yp PassesOwn.never rfl (Ya (pv 2)) (ZaB rfl (ZC (Zw (i:=3) Xg.nd rfl (Or.inl rfl)) (ZC (Zw (i:=4) Xg.nd rfl (Or.inl rfl)) (ZC (Zw (i:=5) Xg.nd rfl (Or.inl rfl)) Xv))))
 (Zg (Yu (ZF hr) (pv 1) (pv 3) (Zz Qa3 (h_ hr) (Za (Za3 (ZF hr) (pv 1) (pv 3) (YX (v:=.ref g.NOUGHT) rfl T.Qcn rfl) ⟨rfl,rfl,rfl,rfl⟩) (Za (ZO (Za (pv 4) (Za (pv 5) Zc))) Zc))) rfl)))))
 (Zd (Zv (i:=6) Xg.nd rfl (Or.inr rfl) (ZO (Za Zf (Za (Zr ZD rfl T.z_len boot_len (Za (pv 0) Zc)) Zc))))
 (Zg (Zk (Zz Qa2 (h_ hr) (Za (pe_dc (xs:=["name"]) (cl:=[("part",s.heap.objs.size+1+1),("held",s.heap.objs.size+1)]) (caps:=[("held",1),("part",6)]) rfl (Zd2 (pv 1)) (λ _ _ _ _ _=>Zw (i:=0) (show List.Nodup (["name","held","part"]:List Str) by decide +kernel) rfl (Or.inl rfl)) (λ _ _ _ _ _=>pv 0) (λ _ _ _ _ _=>Zz Qa4 (h_ hr) (Za (YF (ZF hr) (pv 1) (pv 0) (λ _ _=>rfl)) (Za (pv 2) Zc))) rfl (by decide +kernel) rfl (by decide +kernel) (λ _ _ h=>h) (ZaF rfl) (λ p hp=>by rcases List.mem_cons.mp hp with rfl|hp;exact⟨rfl,rfl,by first|exact .inl rfl|exact .inr rfl⟩;rw[List.mem_singleton.mp hp];exact⟨rfl,rfl,by first|exact .inl rfl|exact .inr rfl⟩)) Zc)))))))),?_⟩
  intro d hd0;have s0:Zp H (upd H d (.dK [])):=Zi hd0 _;obtain⟨xs,hx,hxl⟩:=hL.len;rw[length_map]at hxl;refine⟨_,rfl,L,rfl,⟨xs,s0.seq (SqL.of hx)⟩,YI (xs:=xs) (λ i σ H2=>Zp H H2/\Dic K H2 d ((ls.take i).flatten.map ue)/\∃ v2 v3 v4 v5,σ=[some (.ref L),some (.ref d),v2,v3,v4,v5,none]) ⟨s0,⟨[],rfl,Zb,λ _ h=>nomatch h⟩,_,_,_,_,rfl⟩ ?_ ?_ ?_⟩
  . rintro i σ H2 _ ⟨sm,_⟩;exact sm.seq (SqL.of hx)
  . rintro i x σ H2 hxi ⟨sm,hD,v2,v3,v4,v5,rfl⟩;obtain⟨p,es0,rfl,he0,hp⟩:=(hL.same sm).at (sm _ _ hx) hxi;rw[getElem?_map]at he0;obtain⟨es,he,rfl⟩:=Option.map_eq_some_iff.mp he0;have ci:i<ls.length:=(List.getElem?_eq_some_iff.mp he).1;obtain⟨ys,hy,hyl⟩:=hp.len;rw[length_map]at hyl;refine⟨_,rfl,p,rfl,⟨ys,SqL.of hy⟩,YI (xs:=ys) (λ j σ H3=>Zp H H3/\Led H3 p (es.map ue)/\H3 p=some (.lst ys)/\Dic K H3 d (((ls.take i).flatten++es.take j).map ue)/\∃ v3 v4 v5,σ=[some (.ref L),some (.ref d),some (.ref p),v3,v4,v5,none]) ⟨sm,hp,hy,by rw[List.take_zero,append_nil];exact hD,_,_,_,rfl⟩ ?_ ?_ ?_⟩
    . rintro j σ H3 _ ⟨_,_,z,_⟩;exact SqL.of z
    . rintro j y σ H3 hyj ⟨s3,hp3,hy3,hD3,v3,v4,v5,rfl⟩;obtain⟨r,e0,rfl,hej0,hr⟩:=hp3.at hy3 hyj;rw[getElem?_map]at hej0;obtain⟨e,hej,rfl⟩:=Option.map_eq_some_iff.mp hej0;have cj:j<es.length:=(List.getElem?_eq_some_iff.mp hej).1;obtain⟨fa,ft⟩:=ZiR he hej;have nk:=Zic mo.nod fa;rw[ft]at nk;have lF:((ls.take i).flatten++es.take j).length<60:=by
        have:=(List.getElem?_eq_some_iff.mp fa).1;have:=mo.len;omega
      have hE:=mo.den e (mem_of_getElem? fa);have w2:(ls.take i).flatten++es.take (j+1)=((ls.take i).flatten++es.take j)++[e]:=by rw[take_succ,hej,append_assoc];rfl
      rw[w2];generalize (ls.take i).flatten++es.take j=F at *;refine⟨r,_,rfl,SqT.of hr,rfl,_,_,rfl,_,_,rfl,_,_,rfl,rfl,?_⟩;obtain⟨ws,hw,hW⟩:=id hD3;obtain⟨o,o1,o2⟩:∃(o:Option V),ZU H3 d (.str e.1) o/\o.getD (.ref g.NOUGHT) = .ref g.NOUGHT:=by
        rcases Dic.get (k:=e.1) hw hW with ⟨p',g1,g2,g3⟩|⟨g1,g2,_⟩
        . exact absurd g3 nk
        . exact⟨_,ZU.k (k:=Sum.inr e.1) hW.1,by rw[g1];rfl⟩
      refine⟨_,rfl,d,rfl, .inl ⟨_, .inl hW.1⟩,_,rfl,o,o1,_,rfl,_,rfl,(by show 2<=sizeLine;decide),λ pt hpt=>?_⟩;have s4:=Zi hpt (.tup [.int 1, .int e.2]);have tw:Two K (upd H3 pt (.tup [.int 1, .int e.2])) g.NOUGHT pt 0 1 1 e.2:=Zci (s4.tupq (T.QaX _)) (SqT.of Zb) ⟨by decide,Yc (m:=1) (by decide) (by decide),by decide,Yc (m:=1) (by decide) (by decide)⟩ ⟨by decide,Yc (m:=1) (by decide) (by decide),hE.1,Yc hE.2 (by decide)⟩;refine⟨g.NOUGHT,pt,0,1,1,e.2,by rw[o2],tw,λ rr hrr=>?_⟩;rw[Zhz];have s5:=s4.trans (Zi hrr (.tup [.int 1, .int e.2]));have n1:=s5 _ _ hW.1;have dW:ZfG K _ d ws:=⟨n1,λ w hx=>s5.tupq (hW.2 w hx)⟩;refine⟨_,rfl,_,rfl,d,_,rfl,Jm.k (k:=Sum.inr e.1) n1 (Zu (by rw[Zbu hw,length_map];omega)),Z6 (s3.trans s5) hd0,?_,?_,?_,_,_,_,rfl⟩
      . exact(hp3.same s5).at1 n1 (ZcU hy3 hW.1 (by intro z;cases z)) λ _ z=>by cases z
      . rw[Ze (ZcU hy3 hW.1 (by intro z;cases z))];exact s5 _ _ hy3
      . have z:=Dic.put (k:=e.1) hw dW (SqT.of (Zb (a:=rr) (o:=.tup [.int 1, .int e.2])));rw[ZcD nk]at z;rw[map_append];exact z
    . rintro σ H3 ⟨s3,hp3,hy3,hD3,v3,v4,v5,rfl⟩;rw[hyl,take_length]at hD3;have e1:(ls.take i).flatten++es=(ls.take (i+1)).flatten:=by rw[take_succ,he,List.flatten_append];simp
      rw[e1]at hD3;exact⟨s3,hD3,_,_,_,_,rfl⟩
  . rintro σ H2 ⟨sm,hD,v2,v3,v4,v5,rfl⟩;rw[hxl,take_length]at hD;obtain⟨ws,hw,hW⟩:=id hD;have lw:(ws.map λ w=>((Sum.inr w.1.1:Key),V.ref w.2)).length=ls.flatten.length:=(Zbu hw).trans (length_map _);have hln:=mo.len;have hnd:=mo.nod;have hden:=mo.den;have hpos:=mo.pos;have hfew:=mo.few;rw[<- hxl]at q hpos hfew;generalize ls.flatten=FL at *;refine⟨_,rfl,_,_,rfl, .inl ⟨xs,sm.seq (SqL.of hx),rfl⟩,(by show 2<=sizeLine;decide),λ pp hpp=>?_⟩;have s3:=Zi hpp (.tup [.int 1, .int (xs.length:Nat)]);have W3:=s3 _ _ hW.1;refine⟨_,rfl,d,_,rfl,W3,λ o D hD0=>?_⟩;have sf:=Z6 (u:=.frz o (.dK (ws.map λ w=>((Sum.inr w.1.1:Key),V.ref w.2)))) (sm.trans s3) hd0;have pq:=tupU (u:=.frz o (.dK (ws.map λ w=>((Sum.inr w.1.1:Key),V.ref w.2)))) (SqT.of (K:=K) (Zb (H:=H2) (a:=pp) (o:=.tup [.int 1, .int (xs.length:Nat)]))) W3;have tq:∀ p ys,SqT K H2 p ys->SqT K (upd (upd H2 pp (.tup [.int 1, .int (xs.length:Nat)])) d (.frz o (.dK (ws.map λ w=>((Sum.inr w.1.1:Key),V.ref w.2))))) p ys:=λ p ys z=>tupU (s3.tupq z) W3;have fz:upd (upd H2 pp (.tup [.int 1, .int (xs.length:Nat)])) d (.frz o (.dK (ws.map λ w=>((Sum.inr w.1.1:Key),V.ref w.2)))) d=some (.frz o (.dK (ws.map λ w=>((Sum.inr w.1.1:Key),V.ref w.2)))):=Zb;generalize upd (upd H2 pp (.tup [.int 1, .int (xs.length:Nat)])) d (.frz o (.dK (ws.map λ w=>((Sum.inr w.1.1:Key),V.ref w.2))))=Hf at *;have nd':(Yk ((FL.map (scU (xs.length:Nat))).map ue)).Nodup:=by rw[ZhJ];exact hnd
    have le:((FL.map (scU (xs.length:Nat))).map ue).length=FL.length:=by rw[length_map,length_map]
    refine⟨λ i m H4=>i<=FL.length/\m=FL.length - i/\Zp Hf H4/\Dic K H4 D (((FL.map (scU (xs.length:Nat))).map ue).take i),⟨FL.length,zero_le _,rfl,Zi hD0 _,[],rfl,Zb,λ _ h=>nomatch h⟩,?_⟩;rintro i m H4 ⟨hi,rfl,s4,hD4⟩;have fz4:=s4 _ _ fz
    by_cases ci:i<FL.length
    . refine .inr ⟨⟨fz4,by rw[lw];exact ci⟩,λ x H' ⟨e,k,v,hk,hxe⟩ vals hv=>?_⟩;subst e;subst hxe;rw[getElem?_map]at hk;have ciw:i<ws.length:=by
        have z:=congrArg List.length hw;rw[length_map,length_map]at z;omega
      rw[getElem?_eq_getElem ciw]at hk;cases hk;have ew:ue FL[i]=ws[i].1:=by
        have z:(ws.map (·.1))[i]? = some ws[i].1:=by rw[getElem?_map,getElem?_eq_getElem ciw];rfl
        rw[hw,getElem?_map,getElem?_eq_getElem ci]at z;exact Option.some.inj z
      have hde:=hden FL[i] (getElem_mem ci);generalize hu:FL[i]=u at ew hde
      match vals,hv with
      |[a0],_=>
        rw[<- ew];rcases Dic.get (k:=u.1) hw hW with ⟨p',g1,g2,_⟩|⟨_,_,nk⟩
        . have hlk:look (FL.map ue) u.1=(1,u.2):=ZfX (e:=ue u) (by rw[J6];exact hnd) (List.mem_map.mpr ⟨u,by rw[<- hu];exact getElem_mem ci,rfl⟩);rw[hlk]at g2;have hg:ZU H' d (.str u.1) (some (.ref p')):=.inl ⟨_,Sum.inr u.1, .inr ⟨o,fz4⟩,rfl,g1.symm⟩;have tw:Two K H' p' pp 1 u.2 1 (xs.length:Nat):=Zci (s4.tupq (tq _ _ g2)) (s4.tupq pq) ⟨by decide,Yc (m:=1) (by decide) (by decide),hde.1,Yc hde.2 (by decide)⟩ ⟨by decide,Yc (m:=1) (by decide) (by decide),by omega,Yc (m:=10) (by omega) (by decide)⟩;refine⟨[_],rfl,rfl,_,rfl,_,rfl,_,rfl,d,_,rfl,hg,_,rfl,p',pp,_,_,1,_,rfl,tw,λ r hr0=>?_⟩;rw[Zhy];obtain⟨kvs2,k1,k2,k3⟩:=Dic.step hD4 (by rw[le];exact ci) nd' hr0;have e5:((FL.map (scU (xs.length:Nat))).map ue)[i]'(by rw[le];exact ci)=ue (scU (xs.length:Nat) u):=by rw[List.getElem_map,List.getElem_map,hu]
          rw[e5]at k2 k3;exact⟨kvs2,Sum.inr u.1,FL.length - (i+1),rfl,k2,Zu (by omega),by omega,ci,rfl,Zcy s4 hD0 hr0,k3⟩
        . exact absurd (by rw[J6];exact List.mem_map.mpr ⟨u,by rw[<- hu];exact getElem_mem ci,rfl⟩) nk
    . have e:i=FL.length:=by omega
      subst e;rw[<- le,take_length]at hD4;refine .inl ⟨⟨fz4,by rw[lw];exact le_refl _⟩,D,_,rfl,hD4,nd',by omega,?_,λ l' H' es' s' hl' hL' hc=>q l' H' es' ((sf.trans s4).trans s') ((sf.trans s4).free hl') hL' hc⟩;intro e he;obtain⟨u,hu,rfl⟩:=List.mem_map.mp he;obtain⟨u0,hu0,rfl⟩:=List.mem_map.mp hu;exact Zeh (Int.mul_pos (hden u0 hu0).1 (by omega))
theorem Ziz {f:Addr}{fd:FuncData}{j:Nat}(F:Fun K "line" "line" Zfm f fd)(T:Txt K g mg)(Qaw:XR P w0 K g mg base)(Qa5:Zgi P w0 K g mg base)(Qa6:XZ P w0 K g mg base)(QaE:Dn P w0 K mg base (5+j) "line" ["lives","name"] (Zb7 j K g)):FnOk P w0 K mg base CX0 (5+j+1) f fd ["lives","name"] (Zb7 (j+1) K g):=by
  refine F.ok Zb8 (λ vs H Q E h=>?_) (λ cdv A outer s H vs Q E hr h=>?_)
  . obtain⟨b,S,R,n,rfl,_⟩:=h;rfl
  obtain⟨b,S,R,n,rfl,L,hn,hj,hlen,q⟩:=h;refine⟨_,(
(Zd (ZA (Z4 (Yn ZbF Qaw (hr.mono (by omega)) (pv 0) (Za (pv 1) Zc)))
 (Zg (Zk (Xo (Za (ZO (Za (pv 1) (Za Zf (Za Zf Zc)))) Zc))))
 Zo)
 (Zd (ZcE (i:=2) Zb8.nd rfl (Or.inl rfl) (x:="child") (cl:=[("lives",s.heap.objs.size+1)]) (caps:=[("lives",0)]) rfl (Ya (Yn Jh Qa6 (hr.mono (by omega)) (pv 0) (Za (pv 1) Zc))) (λ _ _ _ _ _=>ZeK) (λ _ _ _ _ _=>(Zz QaE (hr.mono (by omega)) (Za (pv 1) (Za (pv 0) Zc)))) rfl (by decide +kernel) rfl (by decide +kernel) rfl (λ _ _ h=>h) (ZaF rfl) (λ p hp=>by rw[List.mem_singleton.mp hp];exact⟨rfl,rfl,by first|exact .inl rfl|exact .inr rfl⟩) (by decide +kernel))
 (Zd (ZcE (i:=3) Zb8.nd rfl (Or.inl rfl) (x:="stem") (cl:=[]) (caps:=[]) rfl (Ya (pv 2)) (λ _ _ _ _ _=>Za2 (show PT _ _ (λ σ H Q=>tVar 0 σ H λ x H'=>∃ k,TruV K x H' k/\Q k H') from Za0 (pv 0) (λ _=>rfl))) (λ _ _ _ _ _=>(pv 0)) rfl (by decide +kernel) rfl (by decide +kernel) rfl (λ _ _ h=>nomatch h) (ZaF rfl) (λ p hp=>nomatch hp) (by decide +kernel))
 (Zg (Zk (Zhk (Za0 (pv 3) (λ _=>rfl)) (Zz Qa5 (hr.mono (by omega)) (Za (pv 3) Zc)) (Xo Zc)))))))),?_⟩
  obtain⟨dx,y1,y2,y3,hb⟩:=L.obj;have W:=L.wf;have pn:=W.wrt n hn;have d5:ZJ n<=5:=by
    have hx:=pn;unfold pok at hx;simp only[and_eq_true,decide_eq_true_eq]at hx;rw[Xw];exact hx.1.2
  walk_at "g";obtain⟨k,hk⟩:∃ k,6 - ZJ n=k+1:=⟨5 - ZJ n,by omega⟩;cases ha:al S.bs S.ds n with
  |true=>
    refine YB ?_;have hd:has S.ds n=false:=by rw[Zfd hn]at ha;simpa using ha
    walk_at "g";intro p hp;walk_at "g";intro l hl;have s1:=Zi hp (.tup [.str n, .int 1, .int 1]);have s2:=Zi hl (.lst [.ref p]);refine q l _ [(n,1,1)] (s1.trans s2) (s1.free hl) ⟨[((n,1,1),p)],rfl,Zb,λ w hw=>?_⟩ ?_
    . rw[List.mem_singleton.mp hw];exact s2 _ _ Zb
    . rw[hk,Zbb hd];exact⟨by simp,λ e=>⟨λ z=>by rw[List.mem_singleton.mp z];exact⟨by simp[ue],by show(1:Int)≠0;decide⟩,λ z=>by simpa [ue] using z.1⟩,le_refl _⟩
  |false=>
    refine Z0 ?_;have hd:has S.ds n=true:=by rw[Zfd hn]at ha;simpa using ha
    unfold tSeq tAsg;dsimp only;have hk5:k<=5:=by omega
    have nkf:=W.few n;walk_at "g";refine⟨(λ z=>by rw[hn]at z;cases z),λ _ lc H1 s1 fc hc=>?_⟩;rw[kidVL]at hc;have kl:(Zbv n (nk S.bs n)).length=nk S.bs n:=by unfold Zbv;rw[length_map,length_range]
    have ka:∀ t,t<nk S.bs n->((Zbv n (nk S.bs n)).map V.str)[t]? = some (V.str (kid n t)):=λ t ht=>by
      unfold Zbv;rw[getElem?_map,getElem?_map,List.getElem?_range ht];rfl
    refine⟨lc,rfl,⟨_,SqL.of hc⟩,λ D hD=>?_⟩;refine⟨λ i m H2=>∃ ess:List (List En),i<=nk S.bs n/\m=nk S.bs n - i/\Zp H1 H2/\LLx H2 D ess/\ess.length=i/\∀ t es,ess[t]? = some es->Can ((lnN S k (kid n t)).map ue) es,⟨nk S.bs n,[],zero_le _,rfl,Zi hD _,⟨[],rfl,Zb,λ _ h=>nomatch h⟩,rfl,λ t es h=>by cases h⟩,?_⟩;rintro i m H2 ⟨ess,hi,rfl,sm,LX,le,hc2⟩;have hcS:SqL K H2 lc ((Zbv n (nk S.bs n)).map V.str):=SqL.of (sm _ _ hc)
    by_cases ci:i<nk S.bs n
    . refine .inr ⟨⟨_,V.str (kid n i),hcS,ka i ci⟩,λ x H' ⟨e,ex⟩=>?_⟩;subst e;have ex':=ex _ hcS;rw[ka i ci]at ex';cases ex';refine Zg5 ?_;have e6:6 - ZJ (kid n i)=k:=by rw[ZX];omega
      refine⟨_,rfl,_,rfl,b,S,R,kid n i,rfl,(L.same s1).same sm,(W.cnt n i (by omega)).mpr ci,by rw[ZX];omega,hlen,λ l' H3 es' s3 fl' led can=>?_⟩;rw[e6]at can;obtain⟨xs,hx,hxl⟩:=LX.ll.len;have ne:l'≠D:=λ z=>by rw[z,hx]at fl';cases fl'
      refine⟨xs,nk S.bs n - (i+1),s3 _ _ hx,Zu (by omega),by omega,ess++[es'],ci,rfl,Z6 (sm.trans s3) hD,(LX.same s3).push (s3 _ _ hx) led ne,by rw[length_append,le];rfl,λ t es h=>?_⟩;rcases Nat.lt_or_ge t ess.length with ht|ht
      . rw[getElem?_append_left ht]at h;exact hc2 t es h
      . rw[getElem?_append_right ht]at h;have:t=ess.length:=by
          rcases Nat.eq_or_lt_of_le ht with z|z
          . exact z.symm
          . rw[show t - ess.length=(t - ess.length - 1)+1 by omega]at h;cases h
        rw[this,sub_self]at h;cases h;rw[this,le];exact can
    have e:i=nk S.bs n:=by omega
    subst e;refine .inl ⟨⟨_,hcS,by rw[length_map,kl];exact le_refl _⟩,?_⟩;obtain⟨LP1,LP2,LP3⟩:=ZgG W hlen hn hd hk5 le hc2;have hcn:∀ es∈ess,es.length<60:=λ es hes=>by
      obtain⟨t,ht⟩:=List.mem_iff_getElem?.mp hes;have z:=(hc2 t es ht).2.2;have ht2:=(List.getElem?_eq_some_iff.mp ht).1;have lo:=Y7 W (by omega) k (kid n t) ((W.cnt n t (by omega)).mpr (by omega));have:=Za8 lo.nd (m:=S.bs.map (·.1)) (λ x hx=>by
        obtain⟨u,hu,rfl⟩:=List.mem_map.mp hx;exact(Yl S.bs u.1).mp (lo.bk u hu))
      rw[length_map,length_map]at this;rw[length_map]at z;omega
    obtain⟨xs,hx,hxl⟩:=LX.ll.len;have s12:=s1.trans sm;walk_at "g";intro D2 hD2;refine⟨λ i m H3=>i<=ess.length/\m=ess.length - i/\Zp H2 H3/\LLx H3 D2 ((ess.take i).filter λ l => !l.isEmpty),⟨ess.length,zero_le _,rfl,Zi hD2 _,⟨[],rfl,Zb,λ _ h=>nomatch h⟩⟩,?_⟩;rintro i m H3 ⟨hi3,rfl,s3,LX3⟩;have hxS:SqL K H3 D xs:=SqL.of (s3 _ _ hx)
    by_cases ci:i<ess.length
    . have ex0:xs[i]? = some xs[i]:=getElem?_eq_getElem (by omega);refine .inr ⟨⟨_,xs[i],hxS,ex0⟩,λ x H' ⟨e,ex⟩=>?_⟩;subst e;have ex':=ex _ hxS;rw[ex0]at ex';cases ex';obtain⟨p,es,ep,hes,hled⟩:=((LX.ll).same s3).at (s3 _ _ hx) ex0;rw[ep];obtain⟨ys,hy,hyl⟩:=hled.len;have tk:(ess.take (i+1)).filter (λ l => !l.isEmpty)=((ess.take i).filter λ l => !l.isEmpty)++(if es.isEmpty=true then [] else [es]):=by
        rw[take_succ,hes,filter_append];congr 1;cases es <;> rfl
      refine⟨_,rfl,!ys.isEmpty, .inl ⟨ys,SqL.of hy,rfl⟩,?_⟩;have eb:ys.isEmpty=es.isEmpty:=Zf5 hyl;rw[eb];cases hb:es.isEmpty with
      |true=>
        refine Z0 ?_;refine⟨ess.length - (i+1),by omega,ci,rfl,s3,?_⟩;rw[tk,hb];simpa using LX3
      |false=>
        refine YB ?_;obtain⟨zs,hz,hzl⟩:=LX3.ll.len;have ne:p≠D2:=λ z=>by
          obtain⟨p',es',ep',hes',hled'⟩:=(LX.ll).at hx ex0;rw[ep]at ep';cases ep';obtain⟨us,hu,_⟩:=hled'.len;rw[z,hD2]at hu;cases hu
        have zl:zs.length<900:=by
          rw[hzl];have:=length_filter_le (λ l:List En => !l.isEmpty) (ess.take i);rw[length_take]at this;omega
        refine⟨_,rfl,zs,ess.length - (i+1),hz,Zu (by omega),by omega,ci,rfl,Z6 s3 hD2,?_⟩;have z:=LX3.push hz hled ne;rw[tk,hb];simpa using z
    have e:i=ess.length:=by omega
    subst e;rw[take_length]at LX3;refine .inl ⟨⟨_,hxS,by omega⟩,?_⟩;obtain⟨zs,hz,hzl⟩:=LX3.ll.len;rw[<- LP1]at LX3 hzl;rw[length_map]at hzl;refine⟨_,rfl,!zs.isEmpty, .inl ⟨zs,SqL.of hz,rfl⟩,?_⟩;have s13:=s12.trans s3
    by_cases he:fil (ess.map (List.map bk))=[]
    . have ez:zs.isEmpty=true:=by rw[he]at hzl;cases zs <;> simp_all
      rw[ez];refine Z0 ?_;walk_at "g";intro l hl;refine q l _ [] (s13.trans (Zi hl _)) (s13.free hl) ⟨[],rfl,Zb,λ _ h=>nomatch h⟩ ?_;rw[hk];refine Can.perm ?_ LP2;rw[he];exact⟨List.Pairwise.nil,λ e=>by simp,le_refl _⟩
    . have ez:zs.isEmpty=false:=by
        have:=List.length_pos_iff.mpr he;cases zs with
        |nil=>simp at hzl;omega
        |cons x r=>rfl
      rw[ez];refine YB ?_;refine⟨_,rfl,D2,fil (ess.map (List.map bk)),rfl,LX3.ll,LP3 he,λ l' H' es' s' fl' led can=>?_⟩;refine q l' H' es' (s13.trans s') (s13.free fl') led ?_;rw[hk];exact can.perm LP2
theorem ZiB:∀ vs H Q E,¬ Zb7 0 K g vs H Q E:=by
 rintro vs H Q E ⟨b,S,R,n,_,L,hn,hj,_⟩;have hx:=L.wf.wrt n hn;unfold pok at hx;simp only[and_eq_true,decide_eq_true_eq]at hx;rw[Xw]at hj;have:=hx.1.2;omega
theorem Zhp {f:Addr}{fd:FuncData}(F:Fun K "heirs" "heirs" ZdZ f fd)(T:Txt K g mg)(Qae:ZY P w0 K g mg base)(QaE:Zh2 P w0 K g mg base)(Qa7:ZbN P w0 K g mg base):FnOk P w0 K mg base (CXR P w0 base) 13 f fd ["lives","name"] (ZeH K g):=by
  refine F.okX ZaV (λ vs H Q E h=>?_) (λ cdv A outer s H vs Q E hr h=>?_)
  . obtain⟨b,S,R,n,rfl,_⟩:=h;rfl
  obtain⟨b,S,R,n,rfl,L,q1,q⟩:=h;refine⟨_,(
(Zd (ZH (Yn Xp Qae (h_ hr) (pv 0) (Za (pv 1) Zc)))
 (Zd (Zv (i:=2) ZaV.nd rfl (Or.inl rfl) (pv 1))
 (Zd (Za1 PassesOwn.leaving (Za0 (pv 2) (λ _=>rfl))
 (Zd (Zv (i:=3) ZaV.nd rfl (Or.inl rfl) (Zz QaE (h_ hr) (Za (pv 0) (Za (pv 2) Zc))))
 (Zd (ZA (Za0 (pv 3) (λ _=>rfl))
 (Zg (Zk (pv 3)))
 Zo)
 (Zg (Zv (i:=2) ZaV.nd rfl (Or.inl rfl) (Zz Qa7 (h_ hr) (Za (pv 2) Zc)))))))
 (Zg (Zk (Xo (Za (ZO (Za Zs (Za Zf (Za Zf Zc)))) Zc)))))))),?_⟩
  obtain⟨dx,y1,y2,y3,hb⟩:=L.obj;walk_at "g";intro hn;obtain⟨hlen,q⟩:=q hn;have W:=L.wf;refine⟨_,rfl,?_⟩;unfold Ze0 tSeq;dsimp only;refine Zcd (λ σ H'=>∃(x:Str)(v3:Option V),σ=[some (.ref b),some (.str n),some (.str x),v3]/\Zp H H'/\hrs S x=hrs S n/\(x.length=0\/has S.bs x=true)) (λ σ _=>match σ with|[_,_,some (.str x),_]=>x.length|_=>0) ⟨n,_,rfl,Zp.refl _,rfl, .inr hn⟩ ?_ ?_
  . rintro σ H1 ⟨x,v3,rfl,s1,hx,hk⟩;have xl:x.length<=200:=by
      rcases hk with z|z
      . omega
      . have:=Xc (W.wrt x z);omega
    refine⟨_,rfl,_,⟨ZI (by omega),rfl⟩,?_⟩
    by_cases c:x.length=0
    . rw[show((x.length:Int) != 0)=false by rw[c];rfl];refine Z0 ?_;walk_at "g";intro p hp;walk_at "g";intro l hl;have s2:=Zi hp (.tup [.str "crown", .int 1, .int 1]);have s3:=Zi hl (.lst [.ref p]);refine q l _ [("crown",1,1)] (s1.trans (s2.trans s3)) (s1.free (s2.free hl)) ⟨[(("crown",1,1),p)],rfl,Zb,λ w hw=>?_⟩ ?_
      . rw[List.mem_singleton.mp hw];exact s3 _ _ Zb
      . rw[<- hx,J7 c];exact⟨by simp,λ e=>⟨λ z=>by rw[List.mem_singleton.mp z];exact⟨by simp[ue],by show(1:Int)≠0;decide⟩,λ z=>by simpa [ue] using z.1⟩,le_refl _⟩
    . rw[show((x.length:Int) != 0)=true from bne_iff_ne.mpr (by omega)];refine YB ?_;have hb2:has S.bs x=true:=hk.resolve_left c;refine⟨_,rfl,_,rfl,b,S,R,x,rfl,L.same s1,hb2,by omega,hlen,λ l' H2 es' s2 fl' led can=>?_⟩;obtain⟨ys,hy,hyl⟩:=led.len;have can:Can ((ln S x).map ue) es':=can;have es_e:ys.isEmpty=(ln S x).isEmpty:=by
        have lo:=Y7 W (by omega) (6 - ZJ x) x hb2;have:=(Zdd lo.nd can).length_eq;rw[length_map]at this;have e2:ys.length=(ln S x).length:=by rw[hyl];exact this
        exact Zf5 e2
      refine⟨_,rfl,!ys.isEmpty, .inl ⟨ys,SqL.of hy,rfl⟩,?_⟩;rw[es_e];cases he:(ln S x).isEmpty with
      |false=>
        refine YB ?_;refine⟨_,rfl,?_⟩;refine q l' H2 es' (s1.trans s2) (s1.free fl') led ?_;rw[<- hx,Zc3 c he];exact can
      |true=>
        refine Z0 ?_;have px:=W.wrt x hb2;walk_at "g";intro H3 s3;have ux:(up x).length=0\/has S.bs (up x)=true:=by
          rcases Yj px with hg|⟨p,i,hi,rfl,pp,hd⟩
          . left;rw[ZfJ hg];rfl
          . right;rw[Yd];exact W.par p i hb2
        exact⟨⟨up x,_,rfl,(s1.trans s2).trans s3,by rw[<- hx,Zeq c he],ux⟩,Zav c⟩
  . rintro σ H Q Q' h ⟨v,e,k,t,q⟩;exact⟨v,e,k,t,h _ _ q⟩
theorem ZbY {f:Addr}{fd:FuncData}(F:Fun K "want_between" "want_between" Xh f fd)(T:Txt K g mg)  : FnOk P w0 K mg base (CXR P w0 base) 1 f fd ["number","low","high"] (Jc K g):=by
  refine F.okX ZbT (λ vs H Q E h=>?_) (λ cdv A outer s H vs Q E hr h=>?_)
  . obtain⟨n,lo,hi,rfl,_⟩:=h;rfl
  obtain⟨n,lo,hi,rfl,q1,q⟩:=h;refine⟨_,(
(Zg (ZA (PW.pt (Xu (Zq ZbG (pv 0) (pv 1) (Zt _)) (Y6 (Zq Zan (pv 0) (pv 2) (Zt _)))))
 (Zg (YE T.QcJ.x T.QcD Zs))
 Zo))),?_⟩
  refine⟨_,rfl,_,rfl,_,_,rfl,rfl,_,rfl,Yg (λ c=>YB ⟨rfl,q1 ?_⟩) (λ c=>?_)⟩
  . have:=of_decide_eq_true c;omega
  refine⟨_,rfl,_,rfl,_,_,rfl,rfl,_,rfl,Yg (λ c2=>⟨rfl,q1 ?_⟩) (λ c2=>q ?_)⟩
  . have:=of_decide_eq_true c2;omega
  . have z1:¬ n<lo:=λ z=>c (decide_eq_true z);have z2:¬ hi<n:=λ z=>c2 (decide_eq_true z);omega
theorem Za5 {f:Addr}{fd:FuncData}(F:Fun K "__init__" "World.__init__" YL f fd)(T:Txt K g mg)(Qal:YJ P w0 K g mg base)(Qa8:Ze3 P w0 K g mg base):FnOk P w0 K mg base (CXR P w0 base) 3 f fd ["self","year"] (Xr K g):=by
  refine F.okX ZaW (λ vs H Q E h=>?_) (λ cdv A outer s H vs Q E hr h=>?_)
  . obtain⟨w,dx,y,rfl,_⟩:=h;rfl
  obtain⟨w,dx,y,rfl,hw,q1,q⟩:=h;refine⟨_,(
(Zd (ZH (XN Xp Qal (h_ hr) (Za (pv 1) (Za Zf (Za (YX (v:=.int 9999) rfl T.QcQ ⟨_,rfl⟩) Zc)))))
 (Zd (Zbo (pv 0) (pv 1) rfl)
 (Zd (Zbo (pv 0) (pe_mk0 ZbF Qa8 (h_ hr) rfl) rfl)
 (Zg (Zbo (pv 0) Yr rfl)))))),?_⟩
  refine⟨_,rfl,y,0,9999,rfl,q1,λ hy=>?_⟩;refine⟨_,rfl,_,rfl,w,_,dx,_,rfl,hw,T.Qac,T.Qam,by decide,?_⟩;intro b dxb nb ndb neb;have nwb:b≠w:=λ e=>by rw[e,Zb]at nb;cases nb
  have hb0:H b=none:=by rw[Ze nwb]at nb;exact nb
  refine⟨b,dxb,rfl,Zb,λ RL H1 kp fr L=>⟨rfl,?_⟩⟩;have s1:=made nb ndb kp;have hw1:=s1 _ _ (Zb (H:=H) (a:=w));have fRL:∀ a∈RL,upd H w (.ins g.World dx [("year", .int y)]) a=none:=λ a ha=>(fr a ha).elim (λ e=>by rw[e];exact nb) ZdA;have nwRL:w∉RL:=λ z=>by have:=fRL w z;rw[Zb]at this;cases this
  refine⟨_,rfl,w,_,dx,_,rfl,hw1,T.Qac,T.Qas,(by show 1<1000;decide),?_⟩;intro hd hhd;have nhw:hd≠w:=λ e=>by rw[e,Zb]at hhd;cases hhd
  have hhd1:H1 hd=none:=by rw[Ze nhw]at hhd;exact hhd
  have nhRL:hd∉RL:=λ z=>by obtain⟨o,e⟩:=L.live hd z;rw[hhd1]at e;cases e
  refine⟨_,rfl,w,_,dx,_,rfl,(by rw[Ze (Ne.symm nhw),Zb]),T.Qac,T.QaJ,(by show 2<1000;decide),?_⟩;have f0:∀ a,upd H w (.ins g.World dx [("year", .int y)]) a=none->H a=none:=λ a e=>by
    have n:a≠w:=λ z=>by rw[z,Zb]at e;cases e
    rw[Ze n]at e;exact e
  have hd0:H hd=none:=f0 hd (s1.free hhd1);refine q hy (w::hd::RL) _ ⟨λ a o hn e=>?_,λ a e=>?_⟩ (λ a ha=>?_) ⟨dx,b,hd,RL,Zb,?_,?_,rfl,nwRL,nhRL⟩
  . have na:a≠w:=λ z=>hn (by simp[z]);have nh:a≠hd:=Zm e hd0;rw[Ze na,Ze nh,Ze na];exact s1 _ _ (by rw[Ze na];exact e)
  . have na:a≠w:=λ z=>by rw[z,Zb]at e;cases e
    rw[Ze na]at e;have nh:a≠hd:=λ z=>by rw[z,Zb]at e;cases e
    rw[Ze nh,Ze na]at e;exact f0 a (s1.free e)
  . rcases List.mem_cons.mp ha with rfl|ha
    . exact .inl rfl
    rcases List.mem_cons.mp ha with rfl|ha
    . exact .inr hd0
    exact .inr (f0 a (fRL a ha))
  . refine L.mv λ a ha o e=>?_;have na:a≠w:=λ z=>nwRL (z▸ha);have nh:a≠hd:=λ z=>nhRL (z▸ha);rw[Ze na,Ze nh,Ze na];exact e
  . rw[Ze nhw,Zb];rfl
theorem Zad {f:Addr}{fd:FuncData}(F:Fun K "pass_years" "World.pass_years" Yv f fd)(T:Txt K g mg)(Qal:YJ P w0 K g mg base):FnOk P w0 K mg base (CXR P w0 base) 2 f fd ["self","many"] (Y8 K g):=by
  refine F.okX Zaa (λ vs H Q E h=>?_) (λ cdv A outer s H vs Q E hr h=>?_)
  . obtain⟨w,S,R,k,rfl,_⟩:=h;rfl
  obtain⟨w,S,R,k,rfl,W,q1,q⟩:=h;refine⟨_,(
(Zd (ZH (XN Xp Qal (h_ hr) (Za (pv 1) (Za Zf (Za (YX (v:=.int 60) rfl T.QcR ⟨_,rfl⟩) Zc)))))
 (Zg (Zgu (pv 0) (pv 1) in_add)))),?_⟩
  obtain⟨dx,b,hd,RL,hw,L,hh,eR,n1,n2⟩:=W.ex;obtain⟨dy,y1,y2,y3,hb⟩:=L.obj;refine⟨_,rfl,k,1,60,rfl,q1,λ hk=>?_⟩;refine⟨_,rfl,w,_,dx,_,_,rfl,hw,T.Qac,T.Qam,rfl,_,rfl,_,_,rfl,rfl,dx,_,hw,(by show 3<1000;decide),?_⟩;have nwh:hd≠w:=ZB hh hw (λ z=>by cases z);subst eR;exact q hk _ (YG.wide (λ a ha=>by rw[List.mem_singleton.mp ha];simp)) ⟨dx,b,hd,RL,Zb,L.mv (λ a ha o e=>by rw[Ze (show a≠w from λ z=>n1 (by rw[<- z];exact ha))];exact e),by rw[Ze nwh];exact hh,rfl,n1,n2⟩
theorem Zb0 {f:Addr}{fd:FuncData}(F:Fun K "arrive" "World.arrive" Xk f fd)(T:Txt K g mg)(Qal:YJ P w0 K g mg base)(Qa9:JU P w0 K g mg base):FnOk P w0 K mg base (CXR P w0 base) 5 f fd ["self","word","age"] (Je K g):=by
  refine F.okX ZbV (λ vs H Q E h=>?_) (λ cdv A outer s H vs Q E hr h=>?_)
  . obtain⟨w,S,R,n,a,rfl,_⟩:=h;rfl
  obtain⟨w,S,R,n,a,rfl,W,hx,hl,q0,q1,q2,q⟩:=h;refine⟨_,(
(Zd (ZH (XN Xp Qal (h_ hr) (Za (pv 2) (Za Zf (Za (YX (v:=.int 120) rfl T.QcS ⟨_,rfl⟩) Zc)))))
 (Zg (ZH (Yn Xp Qa9 (h_ hr) (ZM (pv 0) rfl) (Za (pv 1) (Za (Zn ZcH (ZM (pv 0) rfl) (pv 2)) Zc))))))),?_⟩
  obtain⟨dx,b,hd,RL,hw,L,hh,eR,n1,n2⟩:=W.ex;obtain⟨dy,y1,y2,y3,hb⟩:=L.obj;refine⟨_,rfl,a,0,120,rfl,q0,λ ha=>?_⟩;refine⟨_,rfl,w,_,dx,_,_,rfl,hw,T.Qac,T.Qas,rfl,b,dy,_,rfl,hb,rfl,_,rfl,_,rfl,w,_,dx,_,_,rfl,hw,T.Qac,T.Qam,rfl,_,rfl,_,_,rfl,rfl,b,S.bs,S.ds,RL,n,_,rfl,L,hx,hl,q1 ha,q2 ha,λ e1 e2 R' H' kp gr L'=>?_⟩;subst eR;obtain⟨W',k',g'⟩:=WorldAt.book (S:=S) hw hh n1 n2 kp gr L';exact q ha e1 e2 _ H' k' g' W'
theorem ZcM {f:Addr}{fd:FuncData}(F:Fun K "birth" "World.birth" XF f fd)(T:Txt K g mg)(Qba:Zau P w0 K g mg base):FnOk P w0 K mg base (CXR P w0 base) 5 f fd ["self","name"] (Js K g):=by
  refine F.okX Zcs (λ vs H Q E h=>?_) (λ cdv A outer s H vs Q E hr h=>?_)
  . obtain⟨w,S,R,n,rfl,_⟩:=h;rfl
  obtain⟨w,S,R,n,rfl,W,hl,h99,q0,q1,q2,q⟩:=h;refine⟨_,(
(Zg (Zk (Yn Xp Qba (h_ hr) (ZM (pv 0) rfl) (Za (pv 1) (Za (ZM (pv 0) rfl) Zc)))))),?_⟩
  obtain⟨dx,b,hd,RL,hw,L,hh,eR,n1,n2⟩:=W.ex;obtain⟨dy,y1,y2,y3,hb⟩:=L.obj;refine⟨_,rfl,w,_,dx,_,_,rfl,hw,T.Qac,T.Qas,rfl,b,dy,_,rfl,hb,rfl,_,rfl,_,rfl,w,_,dx,_,_,rfl,hw,T.Qac,T.Qam,rfl,b,S.bs,S.ds,RL,n,_,rfl,L,hl,h99,q0,q1,q2,λ e1 e2 e3 R' H' kp gr L'=>?_⟩;subst eR;obtain⟨W',k',g'⟩:=WorldAt.book (S:=S) hw hh n1 n2 kp gr L';exact q e1 e2 e3 _ H' k' g' W'
theorem ZcK {f:Addr}{fd:FuncData}(F:Fun K "death" "World.death" XD f fd)(T:Txt K g mg)(Qbb:Zat P w0 K g mg base):FnOk P w0 K mg base (CXR P w0 base) 5 f fd ["self","name"] (Jq K g):=by
  refine F.okX Zcq (λ vs H Q E h=>?_) (λ cdv A outer s H vs Q E hr h=>?_)
  . obtain⟨w,S,R,n,rfl,_⟩:=h;rfl
  obtain⟨w,S,R,n,rfl,W,hl,q0,q1,q⟩:=h;refine⟨_,(
(Zg (ZH (Yn Xp Qbb (h_ hr) (ZM (pv 0) rfl) (Za (pv 1) (Za (ZM (pv 0) rfl) Zc)))))),?_⟩
  obtain⟨dx,b,hd,RL,hw,L,hh,eR,n1,n2⟩:=W.ex;obtain⟨dy,y1,y2,y3,hb⟩:=L.obj;refine⟨_,rfl,w,_,dx,_,_,rfl,hw,T.Qac,T.Qas,rfl,b,dy,_,rfl,hb,rfl,_,rfl,_,rfl,w,_,dx,_,_,rfl,hw,T.Qac,T.Qam,rfl,b,S.bs,S.ds,RL,n,_,rfl,L,hl,q0,q1,λ e1 e2 H' kp L'=>?_⟩;subst eR;obtain⟨W',k',g'⟩:=WorldAt.book (S:=S) hw hh n1 n2 kp (JX.refl _ _) L';exact q e1 e2 H' k' W'
theorem ZcL {f:Addr}{fd:FuncData}(F:Fun K "comes" "World.comes" XE f fd)(T:Txt K g mg)(Qax:JP P w0 K g mg base):FnOk P w0 K mg base (CXR P w0 base) 4 f fd ["self","word"] (Jr K g):=by
  refine F.okX Zcr (λ vs H Q E h=>?_) (λ cdv A outer s H vs Q E hr h=>?_)
  . obtain⟨w,S,R,n,rfl,_⟩:=h;rfl
  obtain⟨w,S,R,n,rfl,W,hx,hl,q0,q1,q⟩:=h;refine⟨_,(
(Zd (ZH (XN Xp Qax (h_ hr) (Za (pv 1) Zc)))
 (Zd (ZA (Xn (ZaD (ZF hr) (pv 1) (ZM (pv 0) rfl)))
 (Zg (YE T.Qck.x T.Qcj Zs))
 Zo)
 (Zg (Yu (ZF hr) (ZM (pv 0) rfl) (pv 1) (ZM (pv 0) rfl) rfl))))),?_⟩
  obtain⟨dx,b,hd,RL,hw,L,hh,eR,n1,n2⟩:=W.ex;obtain⟨dy,y1,y2,y3,hb⟩:=L.obj;refine⟨_,rfl,n,rfl,hx,q0,λ hg=>?_⟩;refine⟨_,rfl,_,rfl,w,_,dx,_,_,rfl,hw,T.Qac,T.QaJ,rfl,hd,_,rfl,ZU.k (k:=Sum.inr n) hh,_,rfl,?_⟩;rw[ZW];cases hc:has S.cs n with
  |true=>exact YB ⟨rfl,q1 hg hc⟩
  |false=>
    refine Z0 ⟨_,rfl,w,_,dx,_,_,rfl,hw,T.Qac,T.Qam,rfl,_,rfl,w,_,dx,_,_,rfl,hw,T.Qac,T.QaJ,rfl,_,rfl,hd,_,rfl,Jm.k (k:=Sum.inr n) hh (Zu (by unfold yrs;rw[length_map];omega)),?_⟩;rw[YD _ (J4 hc),JY];have nwh:w≠hd:=ZB hw hh (λ z=>by cases z);subst eR;exact q hg hc _ (YG.wide (λ a ha=>by rw[List.mem_singleton.mp ha];simp)) ⟨dx,b,hd,RL,by rw[Ze nwh];exact hw,L.mv (λ a ha o e=>by rw[Ze (show a≠hd from λ z=>n2 (by rw[<- z];exact ha))];exact e),Zb,rfl,n1,n2⟩
theorem Zeg {f:Addr}{fd:FuncData}(F:Fun K "age" "World.age" JL f fd)(T:Txt K g mg)(Qbc:JV P w0 K g mg base):FnOk P w0 K mg base (CXR P w0 base) 4 f fd ["self","name"] (ZaS K g):=by
  refine F.okX ZdV (λ vs H Q E h=>?_) (λ cdv A outer s H vs Q E hr h=>?_)
  . obtain⟨w,S,R,n,rfl,_⟩:=h;rfl
  obtain⟨w,S,R,n,rfl,W,q0,q⟩:=h;refine⟨_,(
(Zg (Zk (Yn Xp Qbc (h_ hr) (ZM (pv 0) rfl) (Za (pv 1) (Za (ZM (pv 0) rfl) Zc)))))),?_⟩
  obtain⟨dx,b,hd,RL,hw,L,hh,eR,n1,n2⟩:=W.ex;obtain⟨dy,y1,y2,y3,hb⟩:=L.obj;exact⟨_,rfl,w,_,dx,_,_,rfl,hw,T.Qac,T.Qas,rfl,b,dy,_,rfl,hb,rfl,_,rfl,_,rfl,w,_,dx,_,_,rfl,hw,T.Qac,T.Qam,rfl,b,S.bs,S.ds,RL,n,_,rfl,L,q0,q⟩
theorem Zfu {f:Addr}{fd:FuncData}(F:Fun K "_law_num" "_law_num" Zbl f fd)(T:Txt K g mg)  : FnOk P w0 K mg base CX0 1 f fd ["_law_found"] (Zck K g):=by
  refine F.ok Zfk (λ vs H Q E h=>?_) (λ cdv A outer s H vs Q E hr h=>?_)
  . obtain⟨i,rfl,_⟩:=h;rfl
  obtain⟨i,rfl,q⟩:=h;refine⟨_,(
(Zg (Zk (Zbq (Zr X0 rfl T.z_isinstance PyProof.Rows.boot_isinstance (Za (pv 0) (Za (J3 (v:=V.ty "int") rfl T.z_int PyProof.Rows.boot_int rfl) Zc))) (Zd3 (pe_not (Zr X0 rfl T.z_isinstance PyProof.Rows.boot_isinstance (Za (pv 0) (Za (J3 (v:=V.ty "bool") rfl T.z_bool PyProof.Rows.boot_bool rfl) Zc))))))))),?_⟩
  refine⟨_,rfl,_,_,_,_,rfl, .int _,kit_ii,_,rfl,YB ?_⟩;exact⟨_,rfl,_,_,_,_,rfl, .int _,kit_ib,_,rfl,q⟩
theorem ZcI {f:Addr}{fd:FuncData}(F:Fun K "_law_cell_at" "_law_cell_at" XB f fd)(T:Txt K g mg)  : FnOk P w0 K mg base CX0 1 f fd ["_law_script","_law_k"] (Jo K g):=by
  refine F.ok Zco (λ vs H Q E h=>?_) (λ cdv A outer s H vs Q E hr h=>?_)
  . obtain⟨a,ns,k,rfl,_⟩:=h;rfl
  obtain⟨a,ns,k,rfl,hS,h0,q⟩:=h;refine⟨_,(
(Zd (ZA (Zq ZbG (pv 1) (Zr ZD rfl T.z_len boot_len (Za (pv 0) Zc)) (Zt _))
 (Zg (Zk (Zl Yb (pv 0) (pv 1) (λ _ _=>rfl))))
 Zo)
 (Zg (Zk Zf)))),?_⟩
  have hl:(ns.map V.int).length=ns.length:=length_map _;refine⟨_,rfl,_,rfl,_,_,rfl, .inl ⟨_,hS,rfl⟩,_,_,rfl,rfl,_,rfl,?_⟩;refine Yg (λ c=>?_) (λ c=>?_)
  . have c':k<(((ns.map V.int).length:Nat):Int):=of_decide_eq_true c;rw[hl]at c';have hk:k.toNat<ns.length:=by omega
    have e:atI (ns.map V.int) ((k.toNat:Nat):Int)=some (.int ns[k.toNat]):=Xy (by rw[getElem?_map,getElem?_eq_getElem hk] <;> rfl);rw[show((k.toNat:Nat):Int)=k by omega]at e;exact⟨_,rfl,_,rfl,a,_,_,_,rfl,rfl,hS,e,q _⟩
  . exact q 0
theorem ZeQ {f:Addr}{fd:FuncData}(F:Fun K "_law_rich" "_law_rich" Zax f fd)(T:Txt K g mg)  : FnOk P w0 K mg base CX0 1 f fd ["_law_cell","_law_place"] (ZbA K g):=by
  refine F.ok Jz (λ vs H Q E h=>?_) (λ cdv A outer s H vs Q E hr h=>?_)
  . obtain⟨c,p,rfl,_⟩:=h;rfl
  obtain⟨c,p,rfl,q⟩:=h;refine⟨_,(
(Zd (ZA (Zq op_ge (pv 0) (Zn op_pow Zf Zf) (Zt _))
 (Zg (Zk (pv 0)))
 Zo)
 (Zd (Zv (i:=2) Jz.nd rfl (Or.inl rfl) (Zn Yq (Zn Z5 (Zn Z5 (Zn ZaE (pv 0) Zf) (Zn ZaE (pv 1) Zf)) Zf) Zf))
 (Zd (Zv (i:=3) Jz.nd rfl (Or.inl rfl) (Zn Yq (Zn Z5 (Zn Z5 (Zn ZaE (pv 2) (pv 2)) (Zn ZaE (pv 0) Zf)) (Zn ZaE (pv 1) Zf)) Zf))
 (Zg (Zk (Zn Z5 (Zn ZaE (pv 2) Zf) (pv 3)))))))),?_⟩
  refine⟨_,rfl,_,_,rfl,rfl,⟨by decide,by decide,by decide⟩,_,_,rfl,rfl,_,rfl,?_⟩;refine Yg (λ _=>?_) (λ _=>?_)
  . exact⟨_,rfl,q _⟩
  . have small:∀ z:Int,(-(2 ^ 64)<z % 2147483647/\z % 2147483647<2 ^ 64):=λ z=>⟨by omega,by omega⟩;refine⟨_,rfl,_,_,rfl,rfl, .inr ⟨by decide,by decide⟩,_,rfl,_,_,rfl,rfl, .inr ⟨by decide,by decide⟩,_,_,rfl,rfl,_,_,rfl,rfl,_,_,rfl,rfl,(by show(0:Int)<2147483647;decide),?_⟩;refine⟨_,rfl,_,rfl,_,_,rfl,rfl, .inl (small _),_,rfl,_,_,rfl,rfl, .inr ⟨by decide,by decide⟩,_,_,rfl,rfl,_,rfl,_,_,rfl,rfl, .inr ⟨by decide,by decide⟩,_,_,rfl,rfl,_,_,rfl,rfl,(by show(0:Int)<2147483629;decide),?_⟩;exact⟨_,rfl,_,_,rfl,rfl, .inr ⟨by decide,by decide⟩,_,rfl,_,_,rfl,rfl,q _⟩
theorem ZeP {f:Addr}{fd:FuncData}(F:Fun K "_law_word" "_law_word" Zaw f fd)(T:Txt K g mg)  : FnOk P w0 K mg base CX0 1 f fd ["_law_n"] (Zbz K g):=by
  refine F.ok Ye (λ vs H Q E h=>?_) (λ cdv A outer s H vs Q E hr h=>?_)
  . obtain⟨n,rfl,_⟩:=h;rfl
  obtain⟨n,rfl,q⟩:=h;refine⟨_,(
(Zd (Zv (i:=1) Ye.nd rfl (Or.inl rfl) (Zn Z5 Zf (Zn Yq (pv 0) Zf)))
 (Zd (Zv (i:=0) Ye.nd rfl (Or.inl rfl) (Zn YZ (pv 0) Zf))
 (Zd (Zv (i:=2) Ye.nd rfl (Or.inl rfl) Zs)
 (Zd (Yp PassesOwn.never rfl (J2 rfl T.z_range (Za (pv 1) Zc)) (Zw (i:=3) Ye.nd rfl (Or.inl rfl))
 (Zd (Zv (i:=2) Ye.nd rfl (Or.inl rfl) (Zn Yf (pv 2) (Zl ZhL Zs (Zn Yq (pv 0) Zf) (λ _ _=>rfl))))
 (Zg (Zv (i:=0) Ye.nd rfl (Or.inl rfl) (Zn YZ (pv 0) Zf)))))
 (Zd (ZA (PW.pt (Xu (Zq YK (pv 2) Zs (Zt _)) (Y6 (Zq YK (pv 2) Zs (Zt _)))))
 (Zg (Zk (ZeL Zg9 (pv 2) ZfQ (ZfP Zf))))
 Zo)
 (Zg (Zk (pv 2))))))))),?_⟩
  refine⟨_,rfl,_,_,rfl,rfl,(by show(0:Int)<8;decide),_,_,rfl,rfl,?_⟩;refine⟨_,rfl,_,_,rfl,rfl,⟨by decide,by decide⟩,?_⟩;have b1:=emod_lt_of_pos n (show(0:Int)<8 by decide);have b0:=emod_nonneg n (show(8:Int)≠0 by decide);refine⟨_,rfl,1+n % 8,rfl,by omega,by omega,J8 (n:=(1+n % 8).toNat) (λ i σ H2=>H2=H/\∃(n':Int)(z:Str)(v:Option V),σ=[some (.int n'),some (.int (1+n % 8)),some (.str z),v]/\z.length=i/\z.cps.toList.all (inR 97 122)=true) ⟨rfl,_,_,_,rfl,rfl,by decide +kernel⟩ ?_ ?_⟩
  . rintro i σ H2 hi ⟨rfl,n',z,v,rfl,hz,hk⟩;obtain⟨c,hc,hc2⟩:=abc_in (emod_nonneg n' (show(26:Int)≠0 by decide)) (emod_lt_of_pos n' (show(0:Int)<26 by decide));refine⟨_,rfl,_,rfl,_,_,rfl,rfl,(by show(0:Int)<26;decide),abc,_,c,rfl,rfl,by decide +kernel,hc,z,_,rfl,rfl,?_,?_⟩
    . have:(⟨#[c]⟩:Str).length=1:=rfl;have:=Zu (n:=9) (by decide);omega
    . refine⟨_,rfl,_,_,rfl,rfl,⟨by decide,by decide⟩,rfl,_,_,_,rfl,?_,?_⟩
      . rw[Y0,hz];rfl
      . rw[Ym,all_append,hk];simp[hc2]
  . rintro σ H2 ⟨rfl,n',z,v,rfl,hz,hk⟩;have hz8:z.length<=8:=by omega
    have hz1:1<=z.length:=by omega
    have cut:gw (Txt.slice z none (some 3))=true->tRet (tSl (λ x lo hi H Q=>∃ z,x = .str z/\z.length<=sizeLine/\Q (.str (Txt.slice z lo hi)) H) (tVar 2) ZfK (tPart (tC (.int 3)))) { nx:=λ _ H'=>Q .non H',rt:=Q } [some (.int n'),some (.int (1+n % 8)),some (.str z),v] H2:=
      λ hg=>⟨_,rfl,_,rfl,z,rfl,le_of_lt (Zu (by omega)),q _ hg⟩
    refine⟨_,rfl,rfl,_,rfl,?_⟩;refine Yg (λ c=>YB (cut ?_)) (λ c1=>?_)
    . have e:z="crown":=by injection (of_decide_eq_true c)
      rw[e];decide +kernel
    refine⟨_,rfl,rfl,_,rfl,?_⟩;refine Yg (λ c=>cut ?_) (λ c2=>?_)
    . have e:z="kids":=by injection (of_decide_eq_true c)
      rw[e];decide +kernel
    refine⟨_,rfl,q z ?_⟩;unfold gw;rw[decide_eq_true hz1,decide_eq_true hz8,hk,decide_eq_false (λ e=>c1 (by rw[e];rfl)),decide_eq_false (λ e=>c2 (by rw[e];rfl))];rfl
theorem Zdj {f:Addr}{fd:FuncData}(F:Fun K "_law_common" "_law_common" X7 f fd)(T:Txt K g mg)  : FnOk P w0 K mg base CX0 1 f fd ["_law_a","_law_b"] (Zak K g):=by
  refine F.ok Zal (λ vs H Q E h=>?_) (λ cdv A outer s H vs Q E hr h=>?_)
  . obtain⟨a,b,rfl,_⟩:=h;rfl
  obtain⟨a,b,rfl,ha,hb,q⟩:=h;refine⟨_,(
(Zd (Za1 PassesOwn.never (Zq Zan (pv 1) Zf (Zt _))
 (Zg (Zhh (i:=0) (j:=1) rfl Zal.nd rfl rfl (by decide) rfl rfl (Za (pv 1) (Za (Zn Yq (pv 0) (pv 1)) Zc)) rfl)))
 (Zg (Zk (pv 0))))),?_⟩
  refine Zcd (λ σ H'=>∃ x y:Int,σ=[some (.int x),some (.int y)]/\0<=x/\0<=y/\Sh.G x y=Sh.G a b/\H'=H) (λ σ _=>match σ with|[_,some (.int y)]=>y.toNat|_=>0) ⟨a,b,rfl,ha,hb,rfl,rfl⟩ ?_ ?_
  . rintro σ H' ⟨x,y,rfl,hx,hy,hg,rfl⟩;refine⟨_,rfl,_,_,rfl,rfl,_,rfl,?_⟩;refine Yg (λ c=>?_) (λ c=>?_)
    . have c':0<y:=of_decide_eq_true c;refine⟨_,rfl,_,rfl,_,rfl,_,_,rfl,rfl,c',_,_,rfl,⟨y,x % y,rfl,hy,emod_nonneg x (by omega),(Sh.G_step hx c').trans hg,rfl⟩,?_⟩;have h1:=emod_lt_of_pos x c';have h2:=emod_nonneg x (show y≠0 by omega);show(x % y).toNat<y.toNat;omega
    . have c':¬ 0<y:=of_decide_eq_false (Bool.eq_false_iff.mpr c);refine⟨_,rfl,?_⟩;have e:x=Sh.G a b:=(Sh.G_zero hx hy c').trans hg;rw[e];exact q
  . rintro σ H Q Q' h ⟨v,e,i,j,e1,e2,k,e3,q⟩;exact⟨v,e,i,j,e1,e2,k,e3,h _ _ q⟩
theorem Zfv {f:Addr}{fd:FuncData}(F:Fun K "_law_low" "_law_low" Zbm f fd)(T:Txt K g mg)(QaB:Ja P w0 K g mg base):FnOk P w0 K mg base CX0 2 f fd ["_law_num_here","_law_den"] (Zcl K g):=by
  refine F.ok Zcn (λ vs H Q E h=>?_) (λ cdv A outer s H vs Q E hr h=>?_)
  . obtain⟨n,d,rfl,_⟩:=h;rfl
  obtain⟨n,d,rfl,hn,hd,hs,q⟩:=h;refine⟨_,(
(Zd (Zv (i:=2) Zcn.nd rfl (Or.inl rfl) (Zz QaB (h_ hr) (Za (pv 0) (Za (pv 1) Zc))))
 (Zg (Zk (ZO (Za (Zn Za4 (pv 0) (pv 2)) (Za (Zn Za4 (pv 1) (pv 2)) Zc))))))),?_⟩
  have g0:=Sh.G_pos (a:=n) hd;have g1:=Sh.G_le (a:=n) hd;have g2:(Sh.G n d).natAbs<BIG:=Nat.lt_of_le_of_lt (by omega) hs;refine⟨_,rfl,_,rfl,n,d,rfl,hn,Int.le_of_lt hd,?_⟩;exact⟨_,rfl,_,rfl,_,_,rfl,rfl,⟨g0,g2⟩,_,rfl,_,rfl,_,_,rfl,rfl,⟨g0,g2⟩,(by show 2<=sizeLine;decide),q⟩
theorem Zft {f:Addr}{fd:FuncData}(F:Fun K "_law_sum" "_law_sum" Zbk f fd)(T:Txt K g mg)(Qbd:ZdH P w0 K g mg base):FnOk P w0 K mg base CX0 3 f fd ["_law_one","_law_other"] (Zcj K g):=by
  refine F.ok Zfj (λ vs H Q E h=>?_) (λ cdv A outer s H vs Q E hr h=>?_)
  . obtain⟨p,q,a,b,c,d,rfl,_⟩:=h;rfl
  obtain⟨p,q,a,b,c,d,rfl,t,k⟩:=h;refine⟨_,(
(Zg (Zk (Zz Qbd (h_ hr) (Za (Zn Z5 (Zn YY (Zl Zj (pv 0) Zf (λ _ _=>rfl)) (Zl Zj (pv 1) Zf (λ _ _=>rfl))) (Zn YY (Zl Zj (pv 1) Zf (λ _ _=>rfl)) (Zl Zj (pv 0) Zf (λ _ _=>rfl)))) (Za (Zn YY (Zl Zj (pv 0) Zf (λ _ _=>rfl)) (Zl Zj (pv 1) Zf (λ _ _=>rfl))) Zc)))))),?_⟩
  exact⟨_,rfl,p,_,_,_,rfl,rfl,t.h1,rfl,_,rfl,q,_,_,_,rfl,rfl,t.h2,rfl,_,_,rfl,rfl,⟨t.ba,t.bdd⟩,_,rfl,q,_,_,_,rfl,rfl,t.h2,rfl,_,rfl,p,_,_,_,rfl,rfl,t.h1,rfl,_,_,rfl,rfl,⟨t.bc,t.bb⟩,_,_,rfl,rfl,
    _,rfl,p,_,_,_,rfl,rfl,t.h1,rfl,_,rfl,q,_,_,_,rfl,rfl,t.h2,rfl,_,_,rfl,rfl,⟨t.bb,t.bdd⟩,_,_,rfl,Int.add_nonneg t.ad.1 t.cb.1,t.bd.1,t.bBD,k⟩
theorem ZbZ {f:Addr}{fd:FuncData}(F:Fun K "_law_is_share" "_law_is_share" Xi f fd)(T:Txt K g mg)(QaB:Ja P w0 K g mg base)(QaK:ZdG P w0 K g mg base):FnOk P w0 K mg base CX0 2 f fd ["_law_found"] (Jd K g):=by
  refine F.ok ZbU (λ vs H Q E h=>?_) (λ cdv A outer s H vs Q E hr h=>?_)
  . obtain⟨p,x,y,rfl,_⟩:=h;rfl
  obtain⟨p,x,y,rfl,hp,hx,hy,hg,q⟩:=h;refine⟨_,(
(Zd (ZA (PW.pt (Xu (Yo (Z4 (Zr X0 rfl T.z_isinstance PyProof.Rows.boot_isinstance (Za (pv 0) (Za (J3 (v:=V.ty "tuple") rfl T.z_tuple PyProof.Rows.boot_tuple rfl) Zc))))) (Y6 (Zq ZfT (Zr ZD rfl T.z_len boot_len (Za (pv 0) Zc)) Zf (Zt _)))))
 (Zg (Zk YA))
 Zo)
 (Zd (ZA (PW.pt (Xu (Yo (Z4 (Zz QaK (h_ hr) (Za (Zl Zj (pv 0) Zf (λ _ _=>rfl)) Zc)))) (Y6 (Yo (Z4 (Zz QaK (h_ hr) (Za (Zl Zj (pv 0) Zf (λ _ _=>rfl)) Zc)))))))
 (Zg (Zk YA))
 Zo)
 (Zd (ZA (PW.pt (Xu (Zq ZbG (Zl Zj (pv 0) Zf (λ _ _=>rfl)) Zf (Zt _)) (Y6 (Zq ZbG (Zl Zj (pv 0) Zf (λ _ _=>rfl)) Zf (Zt _)))))
 (Zg (Zk YA))
 Zo)
 (Zg (Zk (Zb9 YK (Zz QaB (h_ hr) (Za (Zl Zj (pv 0) Zf (λ _ _=>rfl)) (Za (Zl Zj (pv 0) Zf (λ _ _=>rfl)) Zc))) Zf (Zt _)))))))),?_⟩
  have t0:SqT K H p [.int x, .int y]:=SqT.of hp;have a0:atI [V.int x,V.int y] 0=some (.int x):=rfl;have a1:atI [V.int x,V.int y] 1=some (.int y):=rfl;refine⟨_,rfl,_,_,_,_,rfl, .tup hp,ZhF,_,rfl,Z0 ?_⟩;refine⟨_,rfl,_,_,rfl, .inr ⟨_,t0,rfl⟩,rfl,_,rfl,Z0 ?_⟩;refine⟨_,rfl,p,_,_,_,rfl,rfl,t0,a0,x,rfl,_,rfl,Z0 ?_⟩;refine⟨_,rfl,p,_,_,_,rfl,rfl,t0,a1,y,rfl,_,rfl,Z0 ?_⟩;refine⟨_,rfl,p,_,_,_,rfl,rfl,t0,a0,_,_,rfl,rfl,_,rfl,?_⟩;rw[decide_eq_false (show ¬ x<0 by omega)];refine Z0 ?_;refine⟨_,rfl,p,_,_,_,rfl,rfl,t0,a1,_,_,rfl,rfl,_,rfl,?_⟩;rw[decide_eq_false (show ¬ y<1 by omega)];refine Z0 ?_;refine⟨_,rfl,p,_,_,_,rfl,rfl,t0,a0,_,rfl,p,_,_,_,rfl,rfl,t0,a1,x,y,rfl,hx,Int.le_of_lt hy,rfl,?_⟩;rw[hg];exact q
theorem Zbs {f:Addr}{fd:FuncData}(F:Fun K "_law_is_ledger" "_law_is_ledger" Y5 f fd)(T:Txt K g mg)(Qbe:JQ P w0 K g mg base):FnOk P w0 K mg base CX0 3 f fd ["_law_found"] (XV K g):=by
  refine F.ok Z3 (λ vs H Q E h=>?_) (λ cdv A outer s H vs Q E hr h=>?_)
  . obtain⟨l,es,rfl,_⟩:=h;rfl
  obtain⟨l,es,rfl,hL,hP,hN,q⟩:=h;refine⟨_,(
(Zd (ZA (Yo (Z4 (Zr X0 rfl T.z_isinstance PyProof.Rows.boot_isinstance (Za (pv 0) (Za (J3 (v:=V.ty "list") rfl T.z_list boot_list rfl) Zc)))))
 (Zg (Zk YA))
 Zo)
 (Zd (Zv (i:=1) Z3.nd rfl (Or.inl rfl) Zs)
 (Zd (Yp PassesOwn.never rfl (Zis rfl T.z_enumerate (Za (pv 0) Zc)) (ZaB rfl (ZC (Zw (i:=2) Z3.nd rfl (Or.inl rfl)) (ZC (Zw (i:=3) Z3.nd rfl (Or.inl rfl)) Xv)))
 (Zd (ZA (PW.pt (Xu (Yo (Z4 (Zr X0 rfl T.z_isinstance PyProof.Rows.boot_isinstance (Za (pv 3) (Za (J3 (v:=V.ty "tuple") rfl T.z_tuple PyProof.Rows.boot_tuple rfl) Zc))))) (Xu (Zq ZfT (Zr ZD rfl T.z_len boot_len (Za (pv 3) Zc)) Zf (Zt _)) (Y6 (Yo (Z4 (Zr X0 rfl T.z_isinstance PyProof.Rows.boot_isinstance (Za (Zl Zj (pv 3) Zf (λ _ _=>rfl)) (Za (J3 (v:=V.ty "str") rfl T.z_str boot_str rfl) Zc)))))))))
 (Zg (Zk YA))
 Zo)
 (Zd (ZA (PW.pt (Xu (Yo (Z4 (Zz Qbe (h_ hr) (Za (ZO (Za (Zl Zj (pv 3) Zf (λ _ _=>rfl)) (Za (Zl Zj (pv 3) Zf (λ _ _=>rfl)) Zc))) Zc)))) (Y6 (Zq YK (Zl Zj (pv 3) Zf (λ _ _=>rfl)) Zf (Zt _)))))
 (Zg (Zk YA))
 Zo)
 (Zd (ZA (PW.pt (ZaA (Zq Zan (pv 2) Zf (Zt _)) (J0 (Zq Zgx (Zl Zj (pv 3) Zf (λ _ _=>rfl)) (pv 1) (Zt _)))))
 (Zg (Zk YA))
 Zo)
 (Zg (Zv (i:=1) Z3.nd rfl (Or.inl rfl) (Zl Zj (pv 3) Zf (λ _ _=>rfl))))))))
 (Zg (Zk YA)))))),?_⟩
  obtain⟨xs,hl,hx⟩:=hL.len;refine⟨_,rfl,_,_,_,_,rfl, .lst hl,kit_ll,_,rfl,Z0 ?_⟩;refine⟨_,rfl,l,rfl,⟨xs,SqL.of hl⟩,ZhT (xs:=xs) (λ i σ H2=>Zp H H2/\∃(vk ve:Option V)(last:Str),σ=[some (.ref l),some (.str last),vk,ve]/\∀ j,j+1=i->∃ e,es[j]? = some e/\last=e.1) ⟨Zp.refl _,_,_,_,rfl,λ j hj=>by omega⟩ ?_ ?_ ?_⟩
  . rintro i σ H2 _ ⟨sm,_⟩;exact sm.seq (SqL.of hl)
  . rintro i x σ H2 Tt hxi ⟨sm,vk,ve,last,rfl,hlast⟩ hT;obtain⟨p,e,rfl,he,hp⟩:=hL.at hl hxi;have hp3:upd H2 Tt (.tup [.int i, .ref p]) p=some (.tup [.str e.1, .int e.2.1, .int e.2.2]):=by
      rw[Ze (Zm (sm _ _ hp) hT)];exact sm _ _ hp
    have ne:=hN e (mem_of_getElem? he);refine⟨Tt,_,rfl,SqT.of Zb,rfl,_,_,rfl,_,_,rfl,rfl,?_⟩;refine⟨_,rfl,_,_,_,_,rfl, .tup hp3,ZhF,_,rfl,Z0 ?_⟩;refine⟨_,rfl,_,_,rfl, .inr ⟨_,SqT.of hp3,rfl⟩,rfl,_,rfl,Z0 ?_⟩;refine⟨_,rfl,p,_,_,_,rfl,rfl,SqT.of hp3,rfl,_,_,_,_,rfl, .str _,kit_ss,_,rfl,Z0 ?_⟩;refine⟨_,rfl,p,_,_,_,rfl,rfl,SqT.of hp3,rfl,_,rfl,p,_,_,_,rfl,rfl,SqT.of hp3,rfl,(by show 2<=sizeLine;decide),λ r hr0=>?_⟩;refine⟨r,_,_,rfl,Zb,ne.1.1,ne.1.2.1,ne.1.2.2,_,rfl,Z0 ?_⟩;have hp4:∀ o,upd (upd H2 Tt (.tup [.int i, .ref p])) r o p=some (.tup [.str e.1, .int e.2.1, .int e.2.2]):=λ o=>by
      rw[Ze (Zm hp3 hr0)];exact hp3
    refine⟨_,rfl,p,_,_,_,rfl,rfl,SqT.of (hp4 _),rfl,rfl,_,rfl,?_⟩;refine Yg (λ c=>absurd (V.int.inj (of_decide_eq_true c)) ne.2) (λ _=>?_);have sN:∀ o u,Zp H (upd (upd H2 Tt o) r u):=λ o u b w z=>by
      have z2:=sm b w z;rw[Ze,Ze (Zm z2 hT)]
      . exact z2
      . intro y;subst y
        by_cases y2:b=Tt
        . subst y2;rw[hT]at z2;cases z2
        . rw[Ze y2,z2]at hr0;cases hr0
    refine⟨_,rfl,_,_,rfl,rfl,_,rfl,?_⟩;have fin:∃ v,([some (V.ref l),some (V.str last),some (V.int i),some (V.ref p)]:St)[3]? = some (some v)/\True:=⟨_,rfl,trivial⟩;refine Yg (λ c=>?_) (λ c=>?_)
    . have c':(0:Int)<(i:Int):=of_decide_eq_true c;refine⟨_,rfl,p,_,_,_,rfl,rfl,SqT.of (hp4 _),rfl,_,rfl,_,_,rfl,rfl,_,rfl,?_⟩;obtain⟨e0,he0,rfl⟩:=hlast (i - 1) (by omega);have lt:ltS e0.1 e.1:=by
        obtain⟨i0,j0⟩:=List.getElem?_eq_some_iff.mp he0;obtain⟨i1,j1⟩:=List.getElem?_eq_some_iff.mp he;rw[<- j0,<- j1];exact List.pairwise_iff_getElem.mp hP (i - 1) i i0 i1 (by omega)
      have z:(!decide (e0.1.cps.toList<e.1.cps.toList))=false:=by
        rw[decide_eq_true (show e0.1.cps.toList<e.1.cps.toList from lt)];rfl
      refine Yg (λ c=>?_) (λ _=>?_)
      . have c2:(!decide (e0.1.cps.toList<e.1.cps.toList))=true:=c;rw[z]at c2;cases c2
      . exact⟨_,rfl,p,_,_,_,rfl,rfl,SqT.of (hp4 _),rfl,sN _ _,_,_,_,rfl,λ j hj=>by
        have ej:j=i:=by omega
        subst ej;exact⟨e,he,rfl⟩⟩
    . refine Z0 ?_;exact⟨_,rfl,p,_,_,_,rfl,rfl,SqT.of (hp4 _),rfl,sN _ _,_,_,_,rfl,λ j hj=>by
        have ej:j=i:=by omega
        subst ej;exact⟨e,he,rfl⟩⟩
  . rintro σ H2 ⟨sm,_⟩;exact q H2 sm
theorem Zea {f:Addr}{fd:FuncData}(F:Fun K "_law_total" "_law_total" JF f fd)(T:Txt K g mg)(Qap:Zby P w0 K g mg base):FnOk P w0 K mg base CX0 4 f fd ["_law_ledger"] (ZaM K g):=by
  refine F.ok Yh (λ vs H Q E h=>?_) (λ cdv A outer s H vs Q E hr h=>?_)
  . obtain⟨a,us,rfl,_⟩:=h;rfl
  obtain⟨a,us,rfl,hL,ho,hl,hd,q⟩:=h;refine⟨_,(
(Zd (Zv (i:=1) Yh.nd rfl (Or.inl rfl) (ZO (Za Zf (Za Zf Zc))))
 (Zd (Yp PassesOwn.never rfl (Ya (pv 0)) (ZaB rfl (ZC (Zw (i:=2) Yh.nd rfl (Or.inl rfl)) (ZC (Zw (i:=3) Yh.nd rfl (Or.inl rfl)) (ZC (Zw (i:=4) Yh.nd rfl (Or.inl rfl)) Xv))))
 (Zg (Zv (i:=1) Yh.nd rfl (Or.inl rfl) (Zz Qap (h_ hr) (Za (pv 1) (Za (ZO (Za (pv 3) (Za (pv 4) Zc))) Zc))))))
 (Zg (Zk (pv 1)))))),?_⟩
  obtain⟨xs,hx,hxl⟩:=hL.len;rw[length_map]at hxl;walk_at "g";intro p0 hp0;have s0:=Zi hp0 (.tup [.int 0, .int 1]);have bnd:∀ i,0<=(rs (us.take i)).1/\0<(rs (us.take i)).2/\(rs (us.take i)).1+(rs (us.take i)).2<=2 ^ 1700:=λ i=>by
    have h1:=Zfn (us.take i) (λ e he=>(hd e (List.mem_of_mem_take he)).1) (0,1) (by decide) (by decide);have h2:=rs_bd (us.take i) (0,1) 0 (λ e he=>hd e (List.mem_of_mem_take he)) (by decide) (by decide) (by decide);refine⟨h1.1,h1.2,Int.le_trans h2 ?_⟩;have:41 * (0+(us.take i).length)<=1700:=by rw[length_take];omega
    have q:=Nat.pow_le_pow_right (show 0<2 by decide) this;have q2:((2 ^ (41 * (0+(us.take i).length)):Nat):Int)<=((2 ^ 1700:Nat):Int):=by omega
    rw[Int.natCast_pow,Int.natCast_pow]at q2;exact q2
  refine⟨_,rfl,a,rfl,⟨xs,SqL.of (s0 _ _ hx)⟩,YI (xs:=xs) (λ i σ H2=>∃(p:Addr)(v2 v3 v4:Option V),σ=[some (.ref a),some (.ref p),v2,v3,v4]/\Zp H H2/\H2 p=some (.tup [.int (lo1 (rs (us.take i)).1 (rs (us.take i)).2), .int (lo2 (rs (us.take i)).1 (rs (us.take i)).2)])) ⟨p0,_,_,_,rfl,s0,by rw[Zb];show _=some (HO.tup [V.int (lo1 0 1),V.int (lo2 0 1)]);rw[show lo1 0 1=0 by decide +kernel,show lo2 0 1=1 by decide +kernel]⟩ ?_ ?_ ?_⟩
  . rintro i σ H2 _ ⟨p,v2,v3,v4,rfl,s2,_⟩;exact SqL.of (s2 _ _ hx)
  . rintro i x σ H2 hxi ⟨p,v2,v3,v4,rfl,s2,hp⟩;obtain⟨r,e0,rfl,hej0,hr⟩:=(hL.same s2).at (s2 _ _ hx) hxi;rw[getElem?_map]at hej0;obtain⟨e,he,rfl⟩:=Option.map_eq_some_iff.mp hej0;have hde:=hd e (mem_of_getElem? he);have hrT:=SqT.of (K:=K) hr;obtain⟨b1,b2,b3⟩:=bnd i;have L:=Sh.low b1 b2;have l1:=lo_le1 b1 b2;have nx:rs (us.take (i+1))=stp (rs (us.take i)) e:=by
      rw[take_succ,he];show List.foldl stp (0,1) (us.take i++[e])=_;rw[List.foldl_append];rfl
    walk_at "g";intro p3 hp3;have s3:=Zi hp3 (.tup [.int 1, .int e.2]);have x1:lo1 (rs (us.take i)).1 (rs (us.take i)).2<2 ^ 1800:=by
      have:(2:Int) ^ 1700<2 ^ 1800:=by decide +kernel
      omega
    have x2:lo2 (rs (us.take i)).1 (rs (us.take i)).2<2 ^ 1800:=by
      have:(2:Int) ^ 1700<2 ^ 1800:=by decide +kernel
      omega
    have x3:e.2<2 ^ 1800:=by
      have:(98:Int) ^ 6<2 ^ 1800:=by decide +kernel
      omega
    have tw:Two K (upd H2 p3 (.tup [.int 1, .int e.2])) p p3 (lo1 (rs (us.take i)).1 (rs (us.take i)).2) (lo2 (rs (us.take i)).1 (rs (us.take i)).2) 1 e.2:=Zci (SqT.of (s3 _ _ hp)) (SqT.of Zb) ⟨L.q0,x1,L.r0,x2⟩ ⟨by decide,Yc (m:=1) (by decide) (by decide),hde.1,x3⟩;refine⟨p,p3,_,_,_,_,rfl,tw,λ r4 hr4=>?_⟩;rw[ZiD b1 b2 hde.1];have s4:=s3.trans (Zi hr4 (.tup [.int (lo1 ((rs (us.take i)).1 * e.2+(rs (us.take i)).2) ((rs (us.take i)).2 * e.2)), .int (lo2 ((rs (us.take i)).1 * e.2+(rs (us.take i)).2) ((rs (us.take i)).2 * e.2))]));exact⟨r4,_,_,_,rfl,s2.trans s4,by rw[nx];exact Zb⟩
  . rintro σ H2 ⟨p,v2,v3,v4,rfl,s2,hp⟩;rw[hxl,take_length]at hp;have b2:=(bnd us.length).2.1;rw[take_length]at b2;have ho:(rs us).1=(rs us).2:=ho;rw[ho,(ZfY b2).1,(ZfY b2).2]at hp;walk_at "g";exact q p H2 s2 hp
theorem Zdi {f:Addr}{fd:FuncData}(F:Fun K "_law_listed" "_law_listed" X6 f fd)(T:Txt K g mg)  : FnOk P w0 K mg base CX0 1 f fd ["_law_book"] (Zaj K g):=by
  refine F.ok XA (λ vs H Q E h=>?_) (λ cdv A outer s H vs Q E hr h=>?_)
  . obtain⟨d,es,rfl,_⟩:=h;rfl
  obtain⟨d,es,rfl,hD,hnd,hlen,hN,q⟩:=h;refine⟨_,(
(Zd (Zv (i:=1) XA.nd rfl (Or.inl rfl) (Xo Zc))
 (Zd (Yp PassesOwn.never rfl (Ya (Zr (Zbi rfl) rfl T.z_sorted PyProof.Rows.boot_sorted (Za (pv 0) Zc))) (Zw (i:=2) XA.nd rfl (Or.inl rfl))
 (Zg (ZA (Zq Zan (Zl Zj (YF (ZF hr) (pv 0) (pv 2) (λ _ _=>rfl)) Zf (λ _ _=>rfl)) Zf (Zt _))
 (Zg (ZH (Zam plainAttrs_list PySem.F.slot_list_append PySem.F.type_list_append XX (pv 1) (Za (ZO (Za (pv 2) (Za (Zl Zj (YF (ZF hr) (pv 0) (pv 2) (λ _ _=>rfl)) Zf (λ _ _=>rfl)) (Za (Zl Zj (YF (ZF hr) (pv 0) (pv 2) (λ _ _=>rfl)) Zf (λ _ _=>rfl)) Zc)))) Zc))))
 Zo)))
 (Zg (Zk (pv 1)))))),?_⟩
  refine⟨zero_le _,λ D hD0=>?_⟩;have s0:Zp H (upd H D (.lst [])):=Zi hD0 _;obtain⟨ws,hw,hW⟩:=hD.same s0;refine⟨_,rfl,d,_,Yk es,rfl, .inl hW.1,ZeZ hw,by rw[Zbu hw];omega,λ ss l hp hs hl=>?_⟩;have hsl:ss.length<=60:=by rw[hp.length_eq];unfold Yk;rw[length_map];omega
  have hlD:D≠l:=Zm Zb hl;refine⟨l,rfl,⟨_,SqL.of Zb⟩,YI (xs:=ss.map V.str) (λ i σ H2=>∃ v,σ=[some (.ref d),some (.ref D),v]/\Zp H H2/\H2 l=some (.lst (ss.map V.str))/\Led H2 D (ZcG es (ss.take i))) ⟨_,rfl,λ b o e=>by rw[Ze (Zm (s0 b o e) hl)];exact s0 b o e,Zb,[],rfl,by rw[Ze hlD];exact Zb,λ _ h=>nomatch h⟩ ?_ ?_ ?_⟩
  . rintro i σ H2 _ ⟨v,rfl,sm,hl2,_⟩;exact SqL.of hl2
  . rintro i x σ H2 hx ⟨v,rfl,sm,hl2,hled⟩;rw[getElem?_map]at hx;have ci:i<ss.length:=by
      cases z:ss[i]? with
      |none=>rw[z]at hx;cases hx
      |some y=>exact(List.getElem?_eq_some_iff.mp z).1
    rw[getElem?_eq_getElem ci]at hx;cases hx;obtain⟨ws2,hw2,hW2⟩:=hD.same sm;have kin:ss[i]∈Yk es:=hp.mem_iff.mp (getElem_mem ci);rcases Dic.get (k:=ss[i]) hw2 hW2 with ⟨p,g1,g2,_⟩|⟨_,_,nk⟩
    . have hget:ZU H2 d (.str ss[i]) (some (.ref p)):=by rw[<- g1];exact ZU.k (k:=Sum.inr ss[i]) hW2.1
      have hn:=hN _ (ZcX kin);refine⟨_,rfl,_,rfl,d,_,rfl,hget,p,_,_,_,rfl,rfl,g2,rfl,_,_,rfl,rfl,_,rfl,?_⟩;refine Yg (λ c=>?_) (λ c=>?_)
      . have c0:0<(look es ss[i]).1:=of_decide_eq_true c;have c':(look es ss[i]).1≠0:=by omega
        obtain⟨xs,hx1,hx2⟩:=hled.len;refine⟨_,rfl, .inl ⟨rfl,_,SqL.of hx1⟩,_,rfl,_,rfl,_,rfl,d,_,rfl,hget,p,_,_,_,rfl,rfl,g2,rfl,_,rfl,_,rfl,d,_,rfl,hget,p,_,_,_,rfl,rfl,g2,rfl,(by show 3<=sizeLine;decide),λ r hr0=>?_⟩;obtain⟨ys,y1,y2,y3⟩:=Led.push (e:=(ss[i],look es ss[i])) hled hr0;refine⟨D,ys,_,rfl,rfl,y2,Zu ?_,_,rfl,Zcy sm hD0 hr0,?_,?_⟩
        . rw[y1];unfold ZcG;rw[length_map];exact le_trans (length_filter_le _ _) (by rw[length_take];omega)
        . rw[Ze (Ne.symm hlD),Ze (Zm hl2 hr0)];exact hl2
        . rw[J1 ci,if_pos c'];exact y3
      . have c0:¬ 0<(look es ss[i]).1:=of_decide_eq_false (Bool.eq_false_iff.mpr c);have c1:0<=(look es ss[i]).1:=hn.1;have c':¬ (look es ss[i]).1≠0:=by omega
        exact⟨_,rfl,sm,hl2,by rw[J1 ci,if_neg c'];exact hled⟩
    . exact absurd kin nk
  . rintro σ H2 ⟨v,rfl,sm,hl2,hled⟩;rw[length_map,take_length]at hled;exact⟨_,rfl,q D H2 _ sm hD0 hled (Zfa hnd hp hs)⟩
theorem Zec {f:Addr}{fd:FuncData}(F:Fun K "_law_model" "_law_model" JH f fd)(T:Txt K g mg)  : FnOk P w0 K mg base CX0 1 f fd ["_law_year"] (ZaO K g):=by
  refine F.ok ZdT (λ vs H Q E h=>?_) (λ cdv A outer s H vs Q E hr h=>?_)
  . obtain⟨y,rfl,_⟩:=h;rfl
  obtain⟨y,rfl,q⟩:=h;refine⟨_,(
(Zg (Zk (ZO (Za (Xo (Za (pv 0) Zc)) (Za Yr (Za Yr (Za Yr Zc)))))))),?_⟩
  refine⟨_,rfl,(by show 1<=sizeLine;decide),λ c hc=>?_⟩;intro e1 h1 e2 h2 e3 h3;refine⟨(by show 4<=sizeLine;decide),λ m hm=>?_⟩;have s1:=Zi hc (.lst [V.int y]);have s2:=Zi h1 (.dK []);have s3:=Zi h2 (.dK []);have s4:=Zi h3 (.dK []);have s5:=Zi hm (.tup [V.ref c,V.ref e1,V.ref e2,V.ref e3]);have t2:=s1.trans s2;have t3:=t2.trans s3;have t4:=t3.trans s4;have u1:upd (upd H c (.lst [V.int y])) e1 (.dK []) e1=some (.dK []):=Zb;have v1:=s3 _ _ u1;have u2:upd (upd (upd H c (.lst [V.int y])) e1 (.dK [])) e2 (.dK []) e2=some (.dK []):=Zb;have v2:=s4 _ _ u2;refine q m (Xb m c e1 e2 e3) _ (t4.trans s5) (λ a ha=>?_) ⟨c,e1,e2,e3,
    ⟨Zb,s5 _ _ (s4 _ _ (s3 _ _ (s2 _ _ Zb))),s5 _ _ (s4 _ _ v1),s5 _ _ v2,s5 _ _ Zb,Zm u1 h2,Zm v1 h3,Zm u2 h3⟩,rfl⟩
  unfold Xb at ha;simp only[mem_cons,not_mem_nil,or_false]at ha;rcases ha with rfl|rfl|rfl|rfl|rfl
  . exact t4.free hm
  . exact hc
  . exact s1.free h1
  . exact t2.free h2
  . exact t3.free h3
theorem ZeS {f:Addr}{fd:FuncData}(F:Fun K "_law_kids" "_law_kids" Zaz f fd)(T:Txt K g mg)  : FnOk P w0 K mg base CX0 1 f fd ["_law_model_here","_law_name"] (ZbC K g):=by
  refine F.ok ZbE (λ vs H Q E h=>?_) (λ cdv A outer s H vs Q E hr h=>?_)
  . obtain⟨m,S,R,n,rfl,_⟩:=h;rfl
  obtain⟨m,S,R,n,rfl,MM,W,hx,hk,q⟩:=h;obtain⟨c,e1,e2,e3,M,eR⟩:=MdlAt.ex MM;have h1:∀ i,i<nk S.bs n->has S.bs (kid n i)=true:=λ i hi=>(W.cnt n i (by omega)).mpr hi;have h2:=W.no_kid n;generalize nk S.bs n=k at *;refine⟨_,(
(Zd (Zv (i:=2) ZbE.nd rfl (Or.inl rfl) (Xo Zc))
 (Zd (Za1 PassesOwn.never (Xn (ZaD (ZF hr) (Zn Yf (Zn Yf (pv 1) Zs) (YO Jb rfl T.z_str boot_str (Za (Zn Z5 (Zr ZD rfl T.z_len boot_len (Za (pv 2) Zc)) Zf) Zc))) (Zl Zj (pv 0) Zf (λ _ _=>rfl))))
 (Zg (ZH (Zam plainAttrs_list PySem.F.slot_list_append PySem.F.type_list_append XX (pv 2) (Za (Zn Yf (Zn Yf (pv 1) Zs) (YO Jb rfl T.z_str boot_str (Za (Zn Z5 (Zr ZD rfl T.z_len boot_len (Za (pv 2) Zc)) Zf) Zc))) Zc)))))
 (Zg (Zk (pv 2)))))),?_⟩
  refine⟨zero_le _,λ l hl=>?_⟩;have nm:m≠l:=Zm M.tup hl;have n1:e1≠l:=Zm M.h1 hl;refine⟨λ mm σ H2=>∃ i,i<=k/\mm=k - i/\σ=[some (.ref m),some (.str n),some (.ref l)]/\H2=upd H l (.lst (Y2 n i)),⟨k,0,zero_le _,rfl,rfl,rfl⟩,?_⟩;rintro mm σ H2 ⟨i,hi,rfl,rfl,rfl⟩;have kl:(Y2 n i).length=i:=by unfold Y2;rw[length_map,length_range]
  have c0:(0:Int)<=(((Y2 n i).length:Nat):Int)+1:=by omega
  have c1:(((Y2 n i).length:Nat):Int)+1<131:=by omega
  have tl:=Zfh c0 c1;have l3:(n++(".":Str)).length=n.length+1:=by rw[ZiF];rfl
  have ke:n++(".":Str)++(toString ((((Y2 n i).length:Nat):Int)+1):Str)=kid n i:=by rw[kl];rfl
  have g:ZU (upd H l (.lst (Y2 n i))) e1 (.str (kid n i)) (Z7 (yrs S.bs) (Sum.inr (kid n i):Key)):=ZU.k (k:=Sum.inr (kid n i)) (by rw[Ze n1];exact M.h1);refine⟨_,rfl,n,_,rfl,rfl,ZI (by show n.length+1<=500;omega),_,rfl,_,_,rfl, .inl ⟨_,SqL.of Zb,rfl⟩,_,_,rfl,rfl,_,rfl,J5 c0 c1,_,_,rfl,rfl,ZI (by rw[l3];omega),?_⟩;rw[ke];refine⟨_,rfl,m,_,_,_,rfl,rfl,SqT.of (by rw[Ze nm];exact M.tup),rfl,e1,_,rfl,g,_,rfl,?_⟩;rw[ZW]
  by_cases ci:i<k
  . rw[h1 i ci];refine YB ⟨λ σ H2=>σ=[some (.ref m),some (.str n),some (.ref l)]/\H2=upd H l (.lst (Y2 n (i+1))),λ σ' H' ⟨a1,a2⟩=>⟨k - (i+1),by omega,i+1,ci,rfl,a1,a2⟩,?_⟩;refine⟨_,rfl, .inl ⟨rfl,_,SqL.of Zb⟩,_,rfl,n,_,rfl,rfl,ZI (by show n.length+1<=500;omega),_,rfl,_,_,rfl, .inl ⟨_,SqL.of Zb,rfl⟩,_,_,rfl,rfl,_,rfl,J5 c0 c1,_,_,rfl,rfl,ZI (by rw[l3];omega),l,_,_,rfl,rfl,Zb,Zu (by rw[kl];omega),rfl,?_⟩;rw[ke,Zb5,ZdB]
  . have e:i=k:=by omega
    subst e;rw[h2];exact Z0 ⟨_,rfl,q l _ (Zi hl _) hl Zb⟩
theorem Zdh {f:Addr}{fd:FuncData}(F:Fun K "_law_living" "_law_living" X5 f fd)(T:Txt K g mg)  : FnOk P w0 K mg base CX0 1 f fd ["_law_model_here"] (Zai K g):=by
  refine F.ok Zdg (λ vs H Q E h=>?_) (λ cdv A outer s H vs Q E hr h=>?_)
  . obtain⟨m,S,R,rfl,_⟩:=h;rfl
  obtain⟨m,S,R,rfl,MM,hlen,q⟩:=h;obtain⟨c,d1,d2,d3,B,eR⟩:=MdlAt.ex MM;obtain⟨y,bs,ds,cs⟩:=S;simp only at B hlen q;refine⟨_,(
(Zg (Zk (Ziu (d:=d1) (kvs:=yrs bs) (Zhj (x:="_law_name") (cl:=[("_law_model_here",s.heap.objs.size+1)]) (caps:=[("_law_model_here",0)]) rfl (Zd2 (Zl Zj (pv 0) Zf (λ _ _=>rfl))) (λ _ _ _ _ _=>Za2 (Xn (YR (ZF hr) (pv 0) (Zl (show IxR _ (ZeJ K) from Zj) (pv 1) Zf (λ _ _=>rfl))))) (λ _ _ _ _ _=>(pv 0)) rfl (by decide +kernel) rfl (by decide +kernel) rfl (λ _ _ h=>h) (ZaF rfl) (λ p hp=>by rw[List.mem_singleton.mp hp];exact⟨rfl,rfl,by first|exact .inl rfl|exact .inr rfl⟩) (by decide +kernel)))))),?_⟩
  have hb:=B.tup;have nb1:m≠d1:=ZB hb B.h1 (λ z=>by cases z);have yl:(yrs bs).length=bs.length:=by unfold yrs;rw[length_map]
  refine⟨B.h1,_,rfl,m,_,_,_,rfl,rfl,SqT.of hb,rfl,d1,_,rfl,B.h1,λ o D hD=>⟨λ i k H2=>i<=bs.length/\k=bs.length - i/\H2=upd (upd H d1 (.frz o (.dK (yrs bs)))) D (.lst (((bs.take i).filter λ p => !has ds p.1).map λ p=>V.str p.1)),⟨bs.length,zero_le _,rfl,rfl⟩,?_⟩⟩;have n1:D≠d1:=λ e=>by rw[e,Zb]at hD;cases hD
  have hD0:H D=none:=by rw[Ze n1]at hD;exact hD
  have nb:m≠D:=Zm hb hD0;have n2:d2≠D:=Zm B.h2 hD0;rintro i k H2 ⟨hi,rfl,rfl⟩
  by_cases ci:i<bs.length
  . refine .inr ⟨⟨by rw[Ze (Ne.symm n1),Zb],by rw[yl];exact ci⟩,λ x H' ⟨e,kk,v,ek,ex⟩=>?_⟩;subst e;have ek':(yrs bs)[i]? = some ((Sum.inr (bs[i]).1:Key),V.int (bs[i]).2):=by unfold yrs;rw[getElem?_map,getElem?_eq_getElem ci];rfl
    rw[ek']at ek;cases ek;subst ex;have g:ZU (upd (upd H d1 (.frz o (.dK (yrs bs)))) D (.lst (((bs.take i).filter λ p => !has ds p.1).map λ p=>V.str p.1))) d2 (.str (bs[i]).1) (Z7 (yrs ds) (Sum.inr (bs[i]).1:Key)):=ZU.k (k:=Sum.inr (bs[i]).1) (by rw[Ze n2,Ze (Ne.symm B.n12)];exact B.h2);refine⟨_,rfl,_,rfl,m,_,_,_,rfl,rfl,SqT.of (by rw[Ze nb,Ze nb1];exact hb),rfl,d2,_,rfl,g,_,rfl,?_⟩;rw[ZW];have tk:bs.take (i+1)=bs.take i++[bs[i]]:=(JZ ci).symm;cases e:has ds (bs[i]).1 with
    |true=>
      refine Z0 ⟨bs.length - (i+1),by omega,ci,rfl,?_⟩;rw[tk,filter_append];simp[e]
    |false=>
      refine YB ⟨_,rfl,_,bs.length - (i+1),Zb,Zu ?_,by omega,ci,rfl,?_⟩
      . rw[length_map];exact le_trans (length_filter_le _ _) (by rw[length_take];omega)
      . rw[Zb5,tk,filter_append,map_append];simp[e];rfl
  . have e:i=bs.length:=by omega
    subst e;refine .inl ⟨⟨by rw[Ze (Ne.symm n1),Zb],by rw[yl];exact le_refl _⟩,o,by rw[Ze (Ne.symm n1),Zb],?_⟩;rw[take_length];have eq:upd (upd (upd H d1 (.frz o (.dK (yrs bs)))) D (.lst ((bs.filter λ p => !has ds p.1).map λ p=>V.str p.1))) d1 (.dK (yrs bs))=upd H D (.lst ((bs.filter λ p => !has ds p.1).map λ p=>V.str p.1)):=by
      funext a
      by_cases ha:a=d1
      . rw[ha,Zb,Ze (Ne.symm n1),B.h1]
      . rw[Ze ha]
        by_cases hA:a=D
        . rw[hA,Zb,Zb]
        . rw[Ze hA,Ze ha,Ze hA]
    rw[eq];exact q D _ (Zi hD0 _) hD0 Zb
theorem ZeR {f:Addr}{fd:FuncData}(F:Fun K "_law_play" "_law_play" Zay f fd)(T:Txt K g mg)(Qbf:Zdb P w0 K g mg base):FnOk P w0 K mg base CX0 2 f fd ["_law_model_here","_law_deed"] (ZbB K g):=by
  refine F.ok Y1 (λ vs H Q E h=>?_) (λ cdv A outer s H vs Q E hr h=>?_)
  . obtain⟨m,S,R,p,d,far,k,rfl,_⟩:=h;rfl
  obtain⟨m,S,R,p,d,far,k,rfl,M,hp,O,hk98,hg,q⟩:=h;obtain⟨c,e1,e2,e3,B,eR⟩:=MdlAt.ex M;refine⟨_,(
(Zd (Zfq (pv 0) (ZaB rfl (ZC (Zw (i:=2) Y1.nd rfl (Or.inl rfl)) (ZC (Zw (i:=3) Y1.nd rfl (Or.inl rfl)) (ZC (Zw (i:=4) Y1.nd rfl (Or.inl rfl)) (ZC (Zw (i:=5) Y1.nd rfl (Or.inl rfl)) Xv))))))
 (Zd (ZA (Zq YK (Zl Zj (pv 1) Zf (λ _ _=>rfl)) Zs (Zt _))
 (Zg (Zfq (Zn Z5 (Zl Yb (pv 2) Zf (λ _ _=>rfl)) (Zl Zj (pv 1) Zf (λ _ _=>rfl))) (pg_sub (pv 2) Zf Zha)))
 Zo)
 (Zd (ZA (Zq YK (Zl Zj (pv 1) Zf (λ _ _=>rfl)) Zs (Zt _))
 (Zg (Yu (ZF hr) (pv 3) (Zl Zj (pv 1) Zf (λ _ _=>rfl)) (Zn ZcH (Zl Yb (pv 2) Zf (λ _ _=>rfl)) (Zl Zj (pv 1) Zf (λ _ _=>rfl))) rfl))
 Zo)
 (Zd (ZA (Zq YK (Zl Zj (pv 1) Zf (λ _ _=>rfl)) Zs (Zt _))
 (Zg (Yu (ZF hr) (pv 3) (Zn Yf (Zn Yf (Zl Zj (pv 1) Zf (λ _ _=>rfl)) Zs) (YO Jb rfl T.z_str boot_str (Za (Zn Z5 (Zr ZD rfl T.z_len boot_len (Za (Zz Qbf (h_ hr) (Za (pv 0) (Za (Zl Zj (pv 1) Zf (λ _ _=>rfl)) Zc))) Zc)) Zf) Zc))) (Zl Yb (pv 2) Zf (λ _ _=>rfl)) rfl))
 Zo)
 (Zd (ZA (Zq YK (Zl Zj (pv 1) Zf (λ _ _=>rfl)) Zs (Zt _))
 (Zg (Yu (ZF hr) (pv 4) (Zl Zj (pv 1) Zf (λ _ _=>rfl)) (Zl Yb (pv 2) Zf (λ _ _=>rfl)) rfl))
 Zo)
 (Zg (ZA (Zq YK (Zl Zj (pv 1) Zf (λ _ _=>rfl)) Zs (Zt _))
 (Zg (Yu (ZF hr) (pv 5) (Zl Zj (pv 1) Zf (λ _ _=>rfl)) (Zl Yb (pv 2) Zf (λ _ _=>rfl)) rfl))
 Zo)))))))),?_⟩
  refine⟨_,rfl,m,_,rfl,SqT.of B.tup,rfl,_,_,rfl,_,_,rfl,_,_,rfl,_,_,rfl,rfl,?_⟩;cases d with
  |arrive ww aa=>
    refine⟨_,rfl,p,_,_,_,rfl,rfl,SqT.of hp,rfl,rfl,_,rfl,YC (by decide +kernel) ?_⟩;refine⟨_,rfl,p,_,_,_,rfl,rfl,SqT.of hp,rfl,rfl,_,rfl,Zep ?_⟩;refine⟨_,rfl,c,_,_,_,rfl,rfl,SqL.of B.clk,rfl,_,rfl,p,_,_,_,rfl,rfl,SqT.of hp,rfl,_,_,rfl,rfl,_,rfl,_,rfl,p,_,_,_,rfl,rfl,SqT.of hp,rfl,e1,_,rfl,Jm.k (k:=Sum.inr ww) B.h1 (Zu (by unfold yrs;rw[length_map];have:=O.lb;omega)),?_⟩;rw[YD _ (J4 hg.2.1),JY];obtain⟨hp,hk,fin⟩:=B.put1 eR hp (bs':=S.bs++[(ww,S.y - aa)]);refine⟨_,rfl,p,_,_,_,rfl,rfl,SqT.of hp,rfl,rfl,_,rfl,YC (by decide +kernel) ?_⟩;refine⟨_,rfl,p,_,_,_,rfl,rfl,SqT.of hp,rfl,rfl,_,rfl,YC (by decide +kernel) ?_⟩;refine⟨_,rfl,p,_,_,_,rfl,rfl,SqT.of hp,rfl,rfl,_,rfl,YC (by decide +kernel) ?_⟩;exact q _ hk fin
  |birth nn=>
    refine⟨_,rfl,p,_,_,_,rfl,rfl,SqT.of hp,rfl,rfl,_,rfl,YC (by decide +kernel) ?_⟩;refine⟨_,rfl,p,_,_,_,rfl,rfl,SqT.of hp,rfl,rfl,_,rfl,YC (by decide +kernel) ?_⟩;refine⟨_,rfl,p,_,_,_,rfl,rfl,SqT.of hp,rfl,rfl,_,rfl,Zep ?_⟩;have hx:=Xc (O.wf.wrt nn hg.1);have hf:=O.wf.few nn;have hlb:=O.lb;refine⟨_,rfl,c,_,_,_,rfl,rfl,SqL.of B.clk,rfl,_,rfl,_,rfl,p,_,_,_,rfl,rfl,SqT.of hp,rfl,nn,_,rfl,rfl,ZI (by show nn.length+1<=500;omega),_,rfl,_,rfl,p,_,_,_,rfl,rfl,SqT.of hp,rfl,m,S,R,nn,rfl,M,O.wf,by omega,by omega,λ l H1 s1 hl1 hl2=>?_⟩;have B:=B.keep s1;have hp:=s1 _ _ hp;have M:=M.same s1;have kl:(Y2 nn (nk S.bs nn)).length=nk S.bs nn:=by unfold Y2;rw[length_map,length_range]
    have c0:(0:Int)<=((nk S.bs nn:Nat):Int)+1:=by omega
    have c1:((nk S.bs nn:Nat):Int)+1<131:=by omega
    have tl:=Zfh c0 c1;refine⟨_,_,rfl, .inl ⟨_,SqL.of hl2,rfl⟩,_,_,rfl,rfl,?_⟩;rw[kl];refine⟨_,rfl,J5 c0 c1,_,_,rfl,rfl,ZI (by rw[show(nn++(".":Str)).length=nn.length+1 from Y0 _ _];omega),e1,_,rfl,Jm.k (k:=Sum.inr (kid nn (nk S.bs nn))) B.h1 (Zu (by unfold yrs;rw[length_map];omega)),?_⟩;rw[YD _ (J4 (O.wf.no_kid nn)),JY];obtain⟨hp,hk1,fin⟩:=B.put1 eR hp (bs':=S.bs++[(kid nn (nk S.bs nn),S.y)]);have hk:=s1.kp.wide (Y:=R) (λ _ h=>nomatch h) |>.tr hk1 (λ a ha => .inl ha);refine⟨_,rfl,p,_,_,_,rfl,rfl,SqT.of hp,rfl,rfl,_,rfl,YC (by decide +kernel) ?_⟩;refine⟨_,rfl,p,_,_,_,rfl,rfl,SqT.of hp,rfl,rfl,_,rfl,YC (by decide +kernel) ?_⟩;exact q _ hk fin
  |death nn=>
    refine⟨_,rfl,p,_,_,_,rfl,rfl,SqT.of hp,rfl,rfl,_,rfl,YC (by decide +kernel) ?_⟩;refine⟨_,rfl,p,_,_,_,rfl,rfl,SqT.of hp,rfl,rfl,_,rfl,YC (by decide +kernel) ?_⟩;refine⟨_,rfl,p,_,_,_,rfl,rfl,SqT.of hp,rfl,rfl,_,rfl,YC (by decide +kernel) ?_⟩;refine⟨_,rfl,p,_,_,_,rfl,rfl,SqT.of hp,rfl,rfl,_,rfl,Zep ?_⟩;refine⟨_,rfl,c,_,_,_,rfl,rfl,SqL.of B.clk,rfl,_,rfl,_,rfl,p,_,_,_,rfl,rfl,SqT.of hp,rfl,e2,_,rfl,Jm.k (k:=Sum.inr nn) B.h2 (Zu (by unfold yrs;rw[length_map];have:=O.ld;omega)),?_⟩;rw[YD _ (J4 hg.2),JY];obtain⟨hp,hk,fin⟩:=B.put2 eR hp (ds':=S.ds++[(nn,S.y)]);refine⟨_,rfl,p,_,_,_,rfl,rfl,SqT.of hp,rfl,rfl,_,rfl,YC (by decide +kernel) ?_⟩;exact q _ hk fin
  |comes ww=>
    refine⟨_,rfl,p,_,_,_,rfl,rfl,SqT.of hp,rfl,rfl,_,rfl,YC (by decide +kernel) ?_⟩;refine⟨_,rfl,p,_,_,_,rfl,rfl,SqT.of hp,rfl,rfl,_,rfl,YC (by decide +kernel) ?_⟩;refine⟨_,rfl,p,_,_,_,rfl,rfl,SqT.of hp,rfl,rfl,_,rfl,YC (by decide +kernel) ?_⟩;refine⟨_,rfl,p,_,_,_,rfl,rfl,SqT.of hp,rfl,rfl,_,rfl,YC (by decide +kernel) ?_⟩;refine⟨_,rfl,p,_,_,_,rfl,rfl,SqT.of hp,rfl,rfl,_,rfl,Zep ?_⟩;refine⟨_,rfl,c,_,_,_,rfl,rfl,SqL.of B.clk,rfl,_,rfl,_,rfl,p,_,_,_,rfl,rfl,SqT.of hp,rfl,e3,_,rfl,Jm.k (k:=Sum.inr ww) B.h3 (Zu (by unfold yrs;rw[length_map];have:=O.lc;omega)),?_⟩;rw[YD _ (J4 hg.2),JY];obtain⟨hp,hk,fin⟩:=B.put3 eR hp (cs':=S.cs++[(ww,S.y)]);exact q _ hk fin
  |years kk=>
    refine⟨_,rfl,p,_,_,_,rfl,rfl,SqT.of hp,rfl,rfl,_,rfl,Zep ?_⟩;refine⟨_,rfl,c,_,_,_,rfl,rfl,SqL.of B.clk,rfl,_,rfl,p,_,_,_,rfl,rfl,SqT.of hp,rfl,_,_,rfl,rfl,_,rfl,c,_,0,0,rfl,rfl,B.clk,rfl,?_⟩;have ky:=YG (H:=H) (a:=c) (o:=.lst [V.int (S.y+kk)]);have hp:upd H c (.lst [V.int (S.y+kk)]) p=some (.tup (Deed.years kk).vals):=by rw[Ze (ZB hp B.clk (λ z=>by cases z))];exact hp
    have fin:Yt (upd H c (.lst [V.int (S.y+kk)])) m (S.step (.years kk)) R:=⟨c,e1,e2,e3,⟨by rw[Ze (ZB B.tup B.clk (λ z=>by cases z))];exact B.tup,Zb,by rw[Ze (ZB B.h1 B.clk (λ z=>by cases z))];exact B.h1,by rw[Ze (ZB B.h2 B.clk (λ z=>by cases z))];exact B.h2,by rw[Ze (ZB B.h3 B.clk (λ z=>by cases z))];exact B.h3,B.n12,B.n13,B.n23⟩,eR⟩;have hk:ZS R H (upd H c (.lst [V.int (S.y+kk)])):=ky.wide (λ a ha=>by rw[List.mem_singleton.mp ha,eR];simp[Xb]);refine⟨_,rfl,p,_,_,_,rfl,rfl,SqT.of hp,rfl,rfl,_,rfl,YC (by decide +kernel) ?_⟩;refine⟨_,rfl,p,_,_,_,rfl,rfl,SqT.of hp,rfl,rfl,_,rfl,YC (by decide +kernel) ?_⟩;refine⟨_,rfl,p,_,_,_,rfl,rfl,SqT.of hp,rfl,rfl,_,rfl,YC (by decide +kernel) ?_⟩;refine⟨_,rfl,p,_,_,_,rfl,rfl,SqT.of hp,rfl,rfl,_,rfl,YC (by decide +kernel) ?_⟩;exact q _ hk fin
theorem Zbr {f:Addr}{fd:FuncData}(F:Fun K "_law_next_deed" "_law_next_deed" Zy f fd)(T:Txt K g mg)(Qbg:Zbg P w0 K g mg base)(Qaq:ZaG P w0 K g mg base):FnOk P w0 K mg base CX0 2 f fd ["_law_model_here","_law_n","_law_far"] (XU K g):=by
  refine F.ok ZL (λ vs H Q E h=>?_) (λ cdv A outer s H vs Q E hr h=>?_)
  . obtain⟨m,S,R,n,far,rfl,_⟩:=h;rfl
  obtain⟨m,S,R,n,far,rfl,M,hlen,hfar,q⟩:=h;have rest6:PSs (YT CX0 P w0 K mg base ["_law_model_here","_law_n","_law_far","_law_some","_law_kind","_law_word_here","_law_name"] "_law_next_deed" (Zh Zy) f cdv A outer s H E).nox ((ZZ Zy).drop 6) (λ D σ H1=>∃(n' kd:Int)(l:Addr)(v5 v6:Option V),σ=[some (.ref m),some (.int n'),some (.int far),some (.ref l),some (.int kd),v5,v6]/\Zp H H1/\H1 l=some (.lst (ZcY S.bs S.ds))/\(∀ d p H',S.good far d->Zp H H'->H p=none->H' p=some (.tup d.vals)->D.rt (.ref p) H')):=by
    refine @Xz _ _ _ _ ((Zg (Zk (ZO (Za Zs (Za (Zn Z5 Zf (Zn Yq (pv 1) (pv 2))) Zc)))))) ?_;rintro D σ H1 ⟨n',kd,l,v5,v6,rfl,s1,hl,q⟩;have z0:=emod_nonneg n' (show far≠0 by omega);have z1:=emod_lt_of_pos n' hfar;refine⟨_,rfl,_,rfl,_,_,rfl,rfl,hfar,_,_,rfl,rfl,(by show 2<=sizeLine;decide),λ p hp=>?_⟩;exact q (.years (1+n' % far)) p _ ⟨by omega,by omega⟩ (s1.trans (Zi hp _)) (s1.free hp) Zb
  have rest5:PSs (YT CX0 P w0 K mg base ["_law_model_here","_law_n","_law_far","_law_some","_law_kind","_law_word_here","_law_name"] "_law_next_deed" (Zh Zy) f cdv A outer s H E).nox ((ZZ Zy).drop 5) (λ D σ H1=>∃(n' kd:Int)(l:Addr)(v5 v6:Option V),σ=[some (.ref m),some (.int n'),some (.int far),some (.ref l),some (.int kd),v5,v6]/\Zp H H1/\H1 l=some (.lst (ZcY S.bs S.ds))/\(∀ d p H',S.good far d->Zp H H'->H p=none->H' p=some (.tup d.vals)->D.rt (.ref p) H')):=by
    refine @Xz _ _ _ _ ((Zd (ZA (Zq YK (pv 4) Zf (Zt _))
 (Zd (Zv (i:=5) ZL.nd rfl (Or.inl rfl) (Zl Yb (Xo (Za Zs (Za Zs (Za Zs (Za (Zz Qaq (h_ hr) (Za (Zn YZ (pv 1) Zf) Zc)) Zc))))) (Zn Yq (pv 1) Zf) (λ _ _=>rfl)))
 (Zg (ZA (Xn (YR (ZF hr) (pv 5) (Zl Zj (pv 0) Zf (λ _ _=>rfl))))
 (Zg (Zk (ZO (Za Zs (Za (pv 5) Zc)))))
 Zo)))
 Zo)
 @rest6)) ?_
    rintro D σ H1 ⟨n',kd,l,v5,v6,rfl,s1,hl,q⟩;obtain⟨c,e1,e2,e3,B⟩:=(M.same s1).tup_of;refine⟨_,rfl,rfl,_,rfl,Yg (λ _=>?_) (λ _=>⟨n',kd,l,v5,v6,rfl,s1,hl,q⟩)⟩;refine⟨_,rfl,_,_,rfl,rfl,⟨by decide,by decide⟩,_,rfl,λ z hz=>⟨(by show 4<=sizeLine;decide),λ pl hpl=>?_⟩⟩;have z0:=emod_nonneg n' (show(4:Int)≠0 by omega);have z1:=emod_lt_of_pos n' (show(0:Int)<4 by omega);obtain⟨y,hy,gy⟩:=pick4 hz z0 z1;have s2:=Zi hpl (.lst [V.str "war",V.str "flood",V.str "a",V.str z]);refine⟨_,rfl,_,_,rfl,rfl,(by show(0:Int)<4;decide),pl,_,_,_,rfl,rfl,SqL.of Zb,hy,?_⟩;refine⟨_,rfl,_,rfl,m,_,_,_,rfl,rfl,SqT.of (s2 _ _ B.tup),rfl,e3,_,rfl,ZU.k (k:=Sum.inr y) (s2 _ _ B.h3),_,rfl,?_⟩;rw[ZW];cases e:has S.cs y with
    |true=>exact Z0 ⟨n',kd,l,_,v6,rfl,s1.trans s2,s2 _ _ hl,q⟩
    |false=>
      refine YB ⟨_,rfl,(by show 2<=sizeLine;decide),λ p hp=>?_⟩;exact q (.comes y) p _ ⟨gy,e⟩ ((s1.trans s2).trans (Zi hp _)) ((s1.trans s2).free hp) Zb
  have rest4:PSs (YT CX0 P w0 K mg base ["_law_model_here","_law_n","_law_far","_law_some","_law_kind","_law_word_here","_law_name"] "_law_next_deed" (Zh Zy) f cdv A outer s H E).nox ((ZZ Zy).drop 4) (λ D σ H1=>∃(n' kd:Int)(l:Addr)(v5 v6:Option V),σ=[some (.ref m),some (.int n'),some (.int far),some (.ref l),some (.int kd),v5,v6]/\Zp H H1/\H1 l=some (.lst (ZcY S.bs S.ds))/\(∀ d p H',S.good far d->Zp H H'->H p=none->H' p=some (.tup d.vals)->D.rt (.ref p) H')):=by
    refine @Xz _ _ _ _ ((Zd (ZA (PW.pt (ZaA (Zq Zan (pv 4) Zf (Zt _)) (ZaA (Zq ZbG (pv 4) Zf (Zt _)) (J0 (Zq Zan (Zr ZD rfl T.z_len boot_len (Za (pv 3) Zc)) Zf (Zt _))))))
 (Zd (Zv (i:=6) ZL.nd rfl (Or.inl rfl) (Zl Yb (pv 3) (Zn Yq (pv 1) (Zr ZD rfl T.z_len boot_len (Za (pv 3) Zc))) (λ _ _=>rfl)))
 (Zd (ZA (Zq Zan (pv 4) Zf (Zt _))
 (Zg (Zk (ZO (Za Zs (Za (pv 6) Zc)))))
 Zo)
 (Zg (ZA (Zq ZbG (Zam plainAttrs_str PySem.F.slot_str_count PySem.F.type_str_count ZeW (pv 6) (Za Zs Zc)) Zf (Zt _))
 (Zg (Zk (ZO (Za Zs (Za (pv 6) Zc)))))
 Zo))))
 Zo)
 @rest5)) ?_
    rintro D σ H1 ⟨n',kd,l,v5,v6,rfl,s1,hl,q⟩;refine⟨_,rfl,_,_,rfl,rfl,_,rfl,Yg (λ c1=>?_) (λ _=>Z0 ⟨n',kd,l,v5,v6,rfl,s1,hl,q⟩)⟩;refine⟨_,rfl,_,_,rfl,rfl,_,rfl,Yg (λ c2=>?_) (λ _=>Z0 ⟨n',kd,l,v5,v6,rfl,s1,hl,q⟩)⟩;refine⟨_,rfl,_,_,rfl, .inl ⟨_,SqL.of hl,rfl⟩,_,_,rfl,rfl,_,rfl,Yg (λ c3=>?_) (λ _=>⟨n',kd,l,v5,v6,rfl,s1,hl,q⟩)⟩;have hpos:(0:Int)<((ZcY S.bs S.ds).length:Nat):=of_decide_eq_true c3;obtain⟨v,hv⟩:=atI_in (xs:=ZcY S.bs S.ds) (emod_nonneg n' (show((ZcY S.bs S.ds).length:Int)≠0 by omega)) (emod_lt_of_pos n' hpos);obtain⟨nm,rfl,hb,hd⟩:=ZiE hv;refine⟨_,rfl,_,rfl,_,rfl,_,_,rfl, .inl ⟨_,SqL.of hl,rfl⟩,_,_,rfl,rfl,hpos,l,_,_,_,rfl,rfl,SqL.of hl,hv,?_⟩;refine⟨_,rfl,_,_,rfl,rfl,_,rfl,Yg (λ c4=>?_) (λ _=>?_)⟩
    . refine⟨_,rfl,(by show 2<=sizeLine;decide),λ p hp=>?_⟩;exact q (.death nm) p _ ⟨hb,hd⟩ (s1.trans (Zi hp _)) (s1.free hp) Zb
    . refine⟨_,rfl,rfl,nm,dot,rfl,rfl,_,_,rfl,rfl,_,rfl,Yg (λ c5=>?_) (λ _=>⟨n',kd,l,v5,_,rfl,s1,hl,q⟩)⟩;refine⟨_,rfl,(by show 2<=sizeLine;decide),λ p hp=>?_⟩;exact q (.birth nm) p _ ⟨hb,hd,by have z:=of_decide_eq_true c5;unfold ZJ;omega⟩ (s1.trans (Zi hp _)) (s1.free hp) Zb
  have rest3:PSs (YT CX0 P w0 K mg base ["_law_model_here","_law_n","_law_far","_law_some","_law_kind","_law_word_here","_law_name"] "_law_next_deed" (Zh Zy) f cdv A outer s H E).nox ((ZZ Zy).drop 3) (λ D σ H1=>∃(n' kd:Int)(l:Addr)(v5 v6:Option V),σ=[some (.ref m),some (.int n'),some (.int far),some (.ref l),some (.int kd),v5,v6]/\Zp H H1/\H1 l=some (.lst (ZcY S.bs S.ds))/\(∀ d p H',S.good far d->Zp H H'->H p=none->H' p=some (.tup d.vals)->D.rt (.ref p) H')):=by
    refine @Xz _ _ _ _ ((Zd (ZA (PW.pt (Xu (Zq YK (pv 4) Zf (Zt _)) (Y6 (PW.pt (ZaA (Zq ZbG (pv 4) Zf (Zt _)) (J0 (Zq YK (Zr ZD rfl T.z_len boot_len (Za (pv 3) Zc)) Zf (Zt _))))))))
 (Zd (Zv (i:=5) ZL.nd rfl (Or.inl rfl) (Zz Qaq (h_ hr) (Za (Zn YZ (pv 1) Zf) Zc)))
 (Zg (ZA (Xn (YR (ZF hr) (pv 5) (Zl Zj (pv 0) Zf (λ _ _=>rfl))))
 (Zg (Zk (ZO (Za Zs (Za (pv 5) (Za (Zn Yq (pv 1) Zf) Zc))))))
 Zo)))
 Zo)
 @rest4)) ?_
    rintro D σ H1 ⟨n',kd,l,v5,v6,rfl,s1,hl,q⟩;obtain⟨c,e1,e2,e3,B⟩:=(M.same s1).tup_of;refine⟨_,rfl,rfl,_,rfl,Yg (λ _=>YB ?_) (λ _=>⟨_,rfl,_,_,rfl,rfl,_,rfl,Yg (λ _=>⟨_,rfl,_,_,rfl, .inl ⟨_,SqL.of hl,rfl⟩,rfl,_,rfl,Yg (λ _=>?_) (λ _=>?_)⟩) (λ _=>Z0 ?_)⟩)⟩
    all_goals try exact⟨n',kd,l,v5,v6,rfl,s1,hl,q⟩
    all_goals
      refine⟨_,rfl,_,_,rfl,rfl,⟨by decide,by decide⟩,_,rfl,λ z hz=>?_⟩;refine⟨_,rfl,_,rfl,m,_,_,_,rfl,rfl,SqT.of B.tup,rfl,e1,_,rfl,ZU.k (k:=Sum.inr z) B.h1,_,rfl,?_⟩;rw[ZW];cases e:has S.bs z with
      |true=>exact Z0 ⟨n',kd,l,_,v6,rfl,s1,hl,q⟩
      |false=>
        refine YB ⟨_,rfl,_,rfl,_,_,rfl,rfl,(by show(0:Int)<121;decide),(by show 3<=sizeLine;decide),λ p hp=>?_⟩;have z0:=emod_nonneg n' (show(121:Int)≠0 by omega);have z1:=emod_lt_of_pos n' (show(0:Int)<121 by omega);exact q (.arrive z (n' % 121)) p _ ⟨hz,e,z0,by omega⟩ (s1.trans (Zi hp _)) (s1.free hp) Zb
  refine⟨_,(Zd (Zv (i:=3) ZL.nd rfl (Or.inl rfl) (Zz Qbg (h_ hr) (Za (pv 0) Zc)))
 (Zd (Zv (i:=4) ZL.nd rfl (Or.inl rfl) (Zn Yq (pv 1) Zf))
 (Zd (Zv (i:=1) ZL.nd rfl (Or.inl rfl) (Zn YZ (pv 1) Zf))
 @rest3))),?_⟩
  refine⟨_,rfl,m,S,R,rfl,M,hlen,λ l H1 s1 _ hl=>?_⟩;exact⟨_,rfl,_,_,rfl,rfl,(by show(0:Int)<9;decide),_,rfl,_,_,rfl,rfl,⟨by decide,by decide⟩,_,_,l,_,_,rfl,s1,hl,q⟩
theorem Zeb {f:Addr}{fd:FuncData}(F:Fun K "_law_start" "_law_start" JG f fd)(T:Txt K g mg)(Qaq:ZaG P w0 K g mg base):FnOk P w0 K mg base CX0 2 f fd ["_law_n"] (ZaN K g):=by
  refine F.ok Yi (λ vs H Q E h=>?_) (λ cdv A outer s H vs Q E hr h=>?_)
  . obtain⟨n,rfl,_⟩:=h;rfl
  obtain⟨n,rfl,q⟩:=h;refine⟨_,(
(Zd (Zv (i:=1) Yi.nd rfl (Or.inl rfl) (Xo Zc))
 (Zd (Zv (i:=2) Yi.nd rfl (Or.inl rfl) Yr)
 (Zd (Yp PassesOwn.never rfl (J2 rfl T.z_range (Za (Zn Z5 Zf (Zn Yq (pv 0) Zf)) Zc)) (Zw (i:=3) Yi.nd rfl (Or.inl rfl))
 (Zd (Zv (i:=0) Yi.nd rfl (Or.inl rfl) (Zn Z5 (Zn YZ (pv 0) Zf) (Zn ZaE (pv 3) Zf)))
 (Zd (Zv (i:=4) Yi.nd rfl (Or.inl rfl) (Zz Qaq (h_ hr) (Za (Zn YZ (pv 0) Zf) Zc)))
 (Zg (ZA (Xn (YR (ZF hr) (pv 4) (pv 2)))
 (Zd (Yu (ZF hr) (pv 2) (pv 4) YA rfl)
 (Zg (ZH (Zam plainAttrs_list PySem.F.slot_list_append PySem.F.type_list_append XX (pv 1) (Za (ZO (Za Zs (Za (pv 4) (Za (Zn Yq (pv 0) Zf) Zc)))) Zc)))))
 Zo)))))
 (Zg (Zk (pv 1))))))),?_⟩
  refine⟨zero_le _,λ l hl=>?_⟩;intro dw hdw;have b1:=emod_lt_of_pos n (show(0:Int)<3 by decide);have b0:=emod_nonneg n (show(3:Int)≠0 by decide);have ndl:l≠dw:=λ e=>by rw[e,Zb]at hdw;cases hdw
  have hdw0:H dw=none:=by rw[Ze (Ne.symm ndl)]at hdw;exact hdw
  refine⟨_,rfl,_,_,rfl,rfl,(by show(0:Int)<3;decide),_,_,rfl,rfl,1+n % 3,rfl,by omega,by omega,J8 (n:=(1+n % 3).toNat) (λ i σ H2=>∃(n':Int)(v3 v4:Option V)(was:List (Str×Int))(ps:List Addr),σ=[some (.int n'),some (.ref l),some (.ref dw),v3,v4]/\Zp H H2/\(∀ a∈ps,H a=none)/\DeedsAt H2 l (was.map arr) ps/\H2 dw=some (.dK (ZeB was))/\was.length<=i/\First was/\(0<i->was≠[])) ?_ ?_ ?_⟩
  . refine⟨n,none,none,[],[],rfl,(Zi hl _).trans (Zi hdw _),(λ _ h=>nomatch h),⟨?_,rfl,(λ i p d h=>by simp at h)⟩,Zb,le_refl _,⟨.nil,zero_le _,(λ _ h=>nomatch h)⟩,λ h=>absurd h (lt_irrefl 0)⟩;rw[Ze ndl,Zb];rfl
  . rintro i σ H2 hi ⟨n',v3,v4,was,ps,rfl,s2,hps,DD,hw,hlw,FF,hne⟩;have i3:i<3:=by omega
    refine⟨_,rfl,_,_,rfl,rfl,⟨by decide,by decide⟩,_,rfl,_,_,rfl,rfl, .inr ⟨by decide,by decide⟩,_,_,rfl,rfl,?_⟩;refine⟨_,rfl,_,_,rfl,rfl,⟨by decide,by decide⟩,_,rfl,λ z hz=>?_⟩;refine⟨_,rfl,_,rfl,dw,_,rfl,ZU.k (k:=Sum.inr z) hw,_,rfl,?_⟩;rw[ZeA]
    by_cases hin:z∈was.map (·.1)
    . rw[decide_eq_true hin];exact Z0 ⟨_,_,_,was,ps,rfl,s2,hps,DD,hw,by omega,FF,λ _ e=>by rw[e]at hin;cases hin⟩
    . rw[decide_eq_false hin];have vn:Z7 (ZeB was) (Sum.inr z:Key)=none:=by
        have t:=ZeA was z;rw[decide_eq_false hin]at t;cases e:Z7 (ZeB was) (Sum.inr z:Key) with
        |none=>rfl
        |some v=>rw[e]at t;cases t
      refine YB ⟨_,rfl,_,rfl,dw,_,rfl,Jm.k (k:=Sum.inr z) hw (Zu (by unfold ZeB;rw[length_map];omega)),?_⟩;rw[YD _ vn];have nld:l≠dw:=ndl;refine⟨_,rfl, .inl ⟨rfl,_,SqL.of (by rw[Ze nld];exact DD.lst)⟩,_,rfl,_,rfl,_,_,rfl,rfl,(by show(0:Int)<67;decide),(by show 3<=sizeLine;decide),λ p hp=>?_⟩;have z0:=emod_nonneg (n' / 3+(0+(i:Int)) * 104729) (show(67:Int)≠0 by omega);have z1:=emod_lt_of_pos (n' / 3+(0+(i:Int)) * 104729) (show(0:Int)<67 by omega);have npd:p≠dw:=λ e=>by rw[e,Zb]at hp;cases hp
      have hp2:H2 p=none:=by rw[Ze npd]at hp;exact hp
      have npl:p≠l:=λ e=>by rw[e,DD.lst]at hp2;cases hp2
      have lw:=DD.lst;have pl:ps.length<=3:=by rw[DD.len,length_map];exact FF.len
      refine⟨l,_,_,rfl,rfl,(by rw[Ze (Ne.symm npl),Ze nld];exact lw),Zu (by rw[length_map];omega),?_⟩;have tp:∀ q∈ps,q≠dw:=λ q hq e=>by
        obtain⟨o,ho⟩:=DD.live q (mem_cons_of_mem _ hq);obtain⟨j,hj⟩:=List.mem_iff_getElem?.mp hq;have hj2:j<(was.map arr).length:=by rw[<- DD.len];exact(List.getElem?_eq_some_iff.mp hj).1
        have t:=DD.at_ j q _ hj (getElem?_eq_getElem hj2);rw[e,hw]at t;cases t
      have D1:DeedsAt (upd H2 dw (.dK (ZeB was++[((Sum.inr z:Key),V.bl true)]))) l (was.map arr) ps:=DD.mv λ a ha o e=>by
        rw[Ze]
        . exact e
        . rcases List.mem_cons.mp ha with rfl|ha
          . exact nld
          . exact tp a ha
      have D2:=D1.push (d:=arr (z,(n' / 3+(0+(i:Int)) * 104729) % 67)) (p:=p) (Zi hp (.tup (arr (z,(n' / 3+(0+(i:Int)) * 104729) % 67)).vals)) Zb;refine⟨_,_,_,was++[(z,(n' / 3+(0+(i:Int)) * 104729) % 67)],ps++[p],rfl,?_,?_,?_,?_,?_,?_,λ _=>by simp⟩
      . exact Z6 ((Z6 s2 hdw0).trans (Zi hp _)) hl
      . intro a ha;rcases List.mem_append.mp ha with ha|ha
        . exact hps a ha
        . rw[List.mem_singleton.mp ha];exact s2.free hp2
      . rw[map_append];exact D2
      . rw[Ze (Ne.symm nld),Ze (Ne.symm npd),Zb];unfold ZeB;rw[map_append];rfl
      . rw[length_append,length_singleton];omega
      . refine⟨Zei FF.nod ((Zes was z).mpr hin),by rw[length_append,length_singleton];omega,λ x hx=>?_⟩;rcases List.mem_append.mp hx with hx|hx
        . exact FF.ok x hx
        . rw[List.mem_singleton.mp hx];exact⟨hz,z0,by show _ % 67<=120;omega⟩
  . rintro σ H2 ⟨n',v3,v4,was,ps,rfl,s2,hps,DD,hw,hlw,FF,hne⟩;refine⟨_,rfl,q l was ps H2 s2 (λ a ha=>?_) FF (hne (by omega)) DD⟩;rcases List.mem_cons.mp ha with rfl|ha
    . exact hl
    . exact hps a ha
theorem ZgB {f:Addr}{fd:FuncData}(F:Fun K "_law_do" "_law_do" ZcB f fd)(T:Txt K g mg)(Qbh:Zar P w0 K g mg base)(Qbi:Xq P w0 K g mg base)(Qbj:JT P w0 K g mg base)(Qbk:Zas P w0 K g mg base)(Qbl:Zaq P w0 K g mg base):FnOk P w0 K mg base CX0 6 f fd ["_law_world","_law_deed"] (Zdq K g):=by
  refine F.ok Zgt (λ vs H Q E h=>?_) (λ cdv A outer s H vs Q E hr h=>?_)
  . obtain⟨w,S,R,p,d,far,k,rfl,_⟩:=h;rfl
  obtain⟨w,S,R,p,d,far,k,rfl,W,hp,O,hk,hg,hfar,q⟩:=h;refine⟨_,(
(Zd (ZA (Zq YK (Zl Zj (pv 1) Zf (λ _ _=>rfl)) Zs (Zt _))
 (Zg (Zk (Yn Jh Qbi (h_ hr) (pv 0) (Za (Zl Zj (pv 1) Zf (λ _ _=>rfl)) Zc))))
 Zo)
 (Zd (ZA (Zq YK (Zl Zj (pv 1) Zf (λ _ _=>rfl)) Zs (Zt _))
 (Zg (Zk (Yn Jh Qbj (h_ hr) (pv 0) (Za (Zl Zj (pv 1) Zf (λ _ _=>rfl)) (Za (Zl Zj (pv 1) Zf (λ _ _=>rfl)) Zc)))))
 Zo)
 (Zd (ZA (Zq YK (Zl Zj (pv 1) Zf (λ _ _=>rfl)) Zs (Zt _))
 (Zg (Zk (Yn Jh Qbk (h_ hr) (pv 0) (Za (Zl Zj (pv 1) Zf (λ _ _=>rfl)) Zc))))
 Zo)
 (Zd (ZA (Zq YK (Zl Zj (pv 1) Zf (λ _ _=>rfl)) Zs (Zt _))
 (Zg (Zk (Yn Jh Qbl (h_ hr) (pv 0) (Za (Zl Zj (pv 1) Zf (λ _ _=>rfl)) Zc))))
 Zo)
 (Zg (Zk (Yn Jh Qbh (h_ hr) (pv 0) (Za (Zl Zj (pv 1) Zf (λ _ _=>rfl)) Zc))))))))),?_⟩
  have lb:=O.lb;have ld:=O.ld;have lc:=O.lc;obtain⟨dx,b,hd,RL,hw,L,hh,eR,n1,n2⟩:=W.ex;cases d with
  |arrive ww aa=>
    refine⟨_,rfl,p,_,_,_,rfl,rfl,SqT.of hp,rfl,rfl,_,rfl,YC (by decide +kernel) ?_⟩;refine⟨_,rfl,p,_,_,_,rfl,rfl,SqT.of hp,rfl,rfl,_,rfl,Zep ?_⟩;refine⟨_,rfl,w,dx,_,rfl,hw,rfl,_,rfl,p,_,_,_,rfl,rfl,SqT.of hp,rfl,_,rfl,p,_,_,_,rfl,rfl,SqT.of hp,rfl,w,S,R,ww,aa,rfl,W,by have:=(Zet hg.1).2;omega,by omega,(λ e=>absurd hg.2.2 e),(λ _ e=>by rw[hg.1]at e;cases e),(λ _ _ e=>by rw[hg.2.1]at e;cases e),λ _ _ _ R' H' kp gr W'=>?_⟩;exact q _ R' H' kp gr W'
  |birth nn=>
    refine⟨_,rfl,p,_,_,_,rfl,rfl,SqT.of hp,rfl,rfl,_,rfl,YC (by decide +kernel) ?_⟩;refine⟨_,rfl,p,_,_,_,rfl,rfl,SqT.of hp,rfl,rfl,_,rfl,YC (by decide +kernel) ?_⟩;refine⟨_,rfl,p,_,_,_,rfl,rfl,SqT.of hp,rfl,rfl,_,rfl,Zep ?_⟩;refine⟨_,rfl,w,dx,_,rfl,hw,rfl,_,rfl,p,_,_,_,rfl,rfl,SqT.of hp,rfl,w,S,R,nn,rfl,W,by omega,by have:=O.few nn;omega,(λ e=>by rw[hg.1]at e;cases e),(λ _ e=>by rw[hg.2.1]at e;cases e),(λ _ _ e=>by have:=hg.2.2;omega),λ _ _ _ R' H' kp gr W'=>?_⟩;exact q _ R' H' kp gr W'
  |death nn=>
    refine⟨_,rfl,p,_,_,_,rfl,rfl,SqT.of hp,rfl,rfl,_,rfl,YC (by decide +kernel) ?_⟩;refine⟨_,rfl,p,_,_,_,rfl,rfl,SqT.of hp,rfl,rfl,_,rfl,YC (by decide +kernel) ?_⟩;refine⟨_,rfl,p,_,_,_,rfl,rfl,SqT.of hp,rfl,rfl,_,rfl,YC (by decide +kernel) ?_⟩;refine⟨_,rfl,p,_,_,_,rfl,rfl,SqT.of hp,rfl,rfl,_,rfl,Zep ?_⟩;refine⟨_,rfl,w,dx,_,rfl,hw,rfl,_,rfl,p,_,_,_,rfl,rfl,SqT.of hp,rfl,w,S,R,nn,rfl,W,by omega,(λ e=>by rw[hg.1]at e;cases e),(λ _ e=>by rw[hg.2]at e;cases e),λ _ _ H' kp W'=>?_⟩;exact q _ R H' kp (JX.refl _ _) W'
  |comes ww=>
    refine⟨_,rfl,p,_,_,_,rfl,rfl,SqT.of hp,rfl,rfl,_,rfl,YC (by decide +kernel) ?_⟩;refine⟨_,rfl,p,_,_,_,rfl,rfl,SqT.of hp,rfl,rfl,_,rfl,YC (by decide +kernel) ?_⟩;refine⟨_,rfl,p,_,_,_,rfl,rfl,SqT.of hp,rfl,rfl,_,rfl,YC (by decide +kernel) ?_⟩;refine⟨_,rfl,p,_,_,_,rfl,rfl,SqT.of hp,rfl,rfl,_,rfl,YC (by decide +kernel) ?_⟩;refine⟨_,rfl,w,dx,_,rfl,hw,rfl,_,rfl,p,_,_,_,rfl,rfl,SqT.of hp,rfl,w,S,R,ww,rfl,W,by have:=(Zet hg.1).2;omega,by omega,(λ e=>by rw[hg.1]at e;cases e),(λ _ e=>by rw[hg.2]at e;cases e),λ _ _ H' kp W'=>?_⟩;exact q _ R H' kp (JX.refl _ _) W'
  |years kk=>
    refine⟨_,rfl,p,_,_,_,rfl,rfl,SqT.of hp,rfl,rfl,_,rfl,Zep ?_⟩;refine⟨_,rfl,w,dx,_,rfl,hw,rfl,_,rfl,p,_,_,_,rfl,rfl,SqT.of hp,rfl,w,S,R,kk,rfl,W,(λ e=>absurd ⟨hg.1,by have:=hg.2;omega⟩ e),λ _ H' kp W'=>?_⟩;exact q _ R H' kp (JX.refl _ _) W'
theorem Zed {f:Addr}{fd:FuncData}(F:Fun K "_law_dealt" "_law_dealt" JI f fd)(T:Txt K g mg)(Qbm:Zbh P w0 K g mg base)(Qap:Zby P w0 K g mg base):FnOk P w0 K mg base CX0 4 f fd ["_law_ledger","_law_name","_law_takers"] (ZaP K g):=by
  refine F.ok Z2 (λ vs H Q E h=>?_) (λ cdv A outer s H vs Q E hr h=>?_)
  . obtain⟨a,t,us,ts,h,rfl,_⟩:=h;rfl
  obtain⟨a,t,us,ts,h,rfl,hL,hT,nd,hlen,du,dt,q⟩:=h;refine⟨_,(
(Zd (Zv (i:=3) Z2.nd rfl (Or.inl rfl) Yr)
 (Zd (Yp PassesOwn.never rfl (Ya (pv 0)) (ZaB rfl (ZC (Zw (i:=4) Z2.nd rfl (Or.inl rfl)) (ZC (Zw (i:=5) Z2.nd rfl (Or.inl rfl)) (ZC (Zw (i:=6) Z2.nd rfl (Or.inl rfl)) Xv))))
 (Zg (ZA (Zq YK (pv 4) (pv 1) (Zt _))
 (Zg (Yp PassesOwn.never rfl (Ya (pv 2)) (ZaB rfl (ZC (Zw (i:=7) Z2.nd rfl (Or.inl rfl)) (ZC (Zw (i:=8) Z2.nd rfl (Or.inl rfl)) (ZC (Zw (i:=9) Z2.nd rfl (Or.inl rfl)) Xv))))
 (Zg (Yu (ZF hr) (pv 3) (pv 7) (Zz Qap (h_ hr) (Za (Za3 (ZF hr) (pv 3) (pv 7) (ZO (Za Zf (Za Zf Zc))) ⟨rfl,rfl,rfl,rfl⟩) (Za (ZO (Za (Zn YY (pv 5) (pv 8)) (Za (Zn YY (pv 6) (pv 9)) Zc))) Zc))) rfl))))
 (Zg (Yu (ZF hr) (pv 3) (pv 4) (Zz Qap (h_ hr) (Za (Za3 (ZF hr) (pv 3) (pv 4) (ZO (Za Zf (Za Zf Zc))) ⟨rfl,rfl,rfl,rfl⟩) (Za (ZO (Za (pv 5) (Za (pv 6) Zc))) Zc))) rfl)))))
 (Zg (Zk (Zz Qbm (h_ hr) (Za (pv 3) Zc))))))),?_⟩
  intro d hd0;have s0:Zp H (upd H d (.dK [])):=Zi hd0 _;obtain⟨xs,hx,hxl⟩:=hL.len;rw[length_map]at hxl;obtain⟨zs,hz,hzl⟩:=hT.len;rw[length_map]at hzl;refine⟨_,rfl,a,rfl,⟨xs,s0.seq (SqL.of hx)⟩,YI (xs:=xs) (λ i σ H2=>Zp H H2/\Dic K H2 d ((sub h ts (us.take i)).map ue)/\∃ v4 v5 v6 v7 v8 v9,σ=[some (.ref a),some (.str h),some (.ref t),some (.ref d),v4,v5,v6,v7,v8,v9]) ⟨s0,⟨[],rfl,Zb,λ _ h=>nomatch h⟩,_,_,_,_,_,_,rfl⟩ ?_ ?_ ?_⟩
  . rintro i σ H2 _ ⟨sm,_⟩;exact sm.seq (SqL.of hx)
  . rintro i x σ H2 hxi ⟨sm,hD,v4,v5,v6,v7,v8,v9,rfl⟩;obtain⟨r,e0,rfl,hej0,hr⟩:=(hL.same sm).at (sm _ _ hx) hxi;rw[getElem?_map]at hej0;obtain⟨e,he,rfl⟩:=Option.map_eq_some_iff.mp hej0;have hde:=du e (mem_of_getElem? he);have nx:us.take (i+1)=us.take i++[e]:=by rw[take_succ,he];rfl
    have spl:sub h ts us=sub h ts (us.take i)++((if e.1=h then ts.map (scU e.2) else [e])++sub h ts (us.drop (i+1))):=by
      conv=>lhs;rw[<- List.take_append_drop i us,List.drop_eq_getElem_cons (List.getElem?_eq_some_iff.mp he).1,(List.getElem?_eq_some_iff.mp he).2,Zb6,ZN]
    have hrT:=SqT.of (K:=K) hr;refine⟨r,_,rfl,hrT,rfl,_,_,rfl,_,_,rfl,_,_,rfl,rfl,?_⟩;walk_at "g";rw[ZeD];refine Yg (λ c=>?_) (λ c=>?_)
    . have ce:e.1=h:=of_decide_eq_true c;rw[if_pos ce]at spl;refine⟨_,rfl,t,rfl,⟨zs,SqL.of (sm _ _ hz)⟩,YI (xs:=zs) (λ j σ H3=>Zp H H3/\Dic K H3 d ((sub h ts (us.take i)++(ts.take j).map (scU e.2)).map ue)/\∃ v7 v8 v9,σ=[some (.ref a),some (.str h),some (.ref t),some (.ref d),some (.str e.1),some (.int 1),some (.int e.2),v7,v8,v9]) ⟨sm,by rw[List.take_zero,map_nil,append_nil];exact hD,_,_,_,rfl⟩ ?_ ?_ ?_⟩
      . rintro j σ H3 _ ⟨z,_⟩;exact SqL.of (z _ _ hz)
      . rintro j y σ H3 hyj ⟨s3,hD3,v7,v8,v9,rfl⟩;obtain⟨r2,f0,rfl,hfj0,hr2⟩:=(hT.same s3).at (s3 _ _ hz) hyj;rw[getElem?_map]at hfj0;obtain⟨f,hf,rfl⟩:=Option.map_eq_some_iff.mp hfj0;have hdf:=dt f (mem_of_getElem? hf);have hrT2:=SqT.of (K:=K) hr2;have pre:sub h ts us=((sub h ts (us.take i)++(ts.take j).map (scU e.2))++[scU e.2 f])++((ts.drop (j+1)).map (scU e.2)++sub h ts (us.drop (i+1))):=by
          rw[spl]
          conv=>lhs;rw[show ts.map (scU e.2)=(ts.take j).map (scU e.2)++(scU e.2 f::(ts.drop (j+1)).map (scU e.2)) from by
            conv=>lhs;rw[<- List.take_append_drop j ts,List.drop_eq_getElem_cons (List.getElem?_eq_some_iff.mp hf).1,(List.getElem?_eq_some_iff.mp hf).2,map_append,map_cons]]
          simp only[append_assoc,List.cons_append,List.nil_append]
        have nx2:(ts.take (j+1)).map (scU e.2)=(ts.take j).map (scU e.2)++[scU e.2 f]:=by rw[take_succ,hf,map_append];rfl
        rw[nx2,<- append_assoc];generalize sub h ts (us.take i)++(ts.take j).map (scU e.2)=F at *;refine⟨r2,_,rfl,hrT2,rfl,_,_,rfl,_,_,rfl,_,_,rfl,rfl,?_⟩;refine⟨_,rfl,d,rfl,?_⟩;obtain⟨nk,lF⟩:=ZfN nd pre;have nk:f.1∉Yk (F.map ue):=nk;obtain⟨ws,hw,hW⟩:=id hD3;refine⟨.inl ⟨_, .inl hW.1⟩,_,rfl,(by show 2<=sizeLine;decide),λ p0 hp0=>?_⟩;have s4:=Zi hp0 (.tup [.int 0, .int 1]);have og:Z7 (ws.map λ w=>((Sum.inr w.1.1:Key),V.ref w.2)) (Sum.inr f.1:Key)=none:=by
          rcases Dic.get (k:=f.1) hw hW with ⟨p',g1,g2,g3⟩|⟨g1,_,_⟩
          . exact absurd g3 nk
          . exact g1
        have g4:ZU (upd H3 p0 (.tup [.int 0, .int 1])) d (.str f.1) none:=by
          have z:=ZU.k (k:=Sum.inr f.1) (s4 _ _ hW.1);rw[og]at z;exact z
        refine⟨none,g4,?_⟩;have m1:Zia 1 1:=⟨JW (m:=1) (by decide) (by decide) (by decide),JW (m:=1) (by decide) (by decide) (by decide)⟩;have m2:Zia e.2 f.2:=⟨Zh6 hde,Zh6 hdf⟩;walk_at "g";intro p5 hp5;have s5:=Zi hp5 (.tup [.int (1 * 1), .int (e.2 * f.2)]);have dd0:0<(e.2 * f.2):=Int.mul_pos hde.1 hdf.1;have dd1:(e.2 * f.2)<2 ^ 1800:=Yc (Za9 (m:=100) (n:=100) (Int.le_of_lt hde.1) hde.2 (Int.le_of_lt hdf.1) hdf.2).2 (by decide);have tw:Two K (upd (upd H3 p0 (.tup [.int 0, .int 1])) p5 (.tup [.int (1 * 1), .int (e.2 * f.2)])) p0 p5 0 1 (1 * 1) (e.2 * f.2):=Zci (SqT.of (s5 _ _ Zb)) (SqT.of Zb) ⟨by decide,Yc (m:=1) (by decide) (by decide),by decide,Yc (m:=1) (by decide) (by decide)⟩ ⟨by decide,Yc (m:=1) (by decide) (by decide),dd0,dd1⟩;refine⟨p0,p5,0,1,(1 * 1),(e.2 * f.2),rfl,tw,λ r6 hr6=>?_⟩;rw[show Zdk (0 * ((e.2 * f.2))+(1 * 1) * 1) (1 * ((e.2 * f.2)))=[.int 1, .int ((e.2 * f.2))] from by rw[show(0:Int) * ((e.2 * f.2))+(1 * 1) * 1=1 by omega,show(1:Int) * ((e.2 * f.2))=(e.2 * f.2) by omega];exact Zem];have s6:=(s4.trans s5).trans (Zi hr6 (.tup [.int 1, .int ((e.2 * f.2))]));have n1:=s6 _ _ hW.1;have dW:ZfG K _ d ws:=⟨n1,λ w hx=>s6.tupq (hW.2 w hx)⟩;have z:=Dic.put (k:=f.1) hw dW (SqT.of (Zb (a:=r6) (o:=.tup [.int 1, .int ((e.2 * f.2))])));rw[ZcD nk]at z;refine⟨_,rfl,_,rfl,d,_,rfl,Jm.k (k:=Sum.inr f.1) n1 (Zu (by rw[Zbu hw,length_map];omega)),Z6 (s3.trans s6) hd0,?_,_,_,_,rfl⟩;rw[map_append];rw[show([scU e.2 f].map ue:List En)=[(f.1,1,e.2 * f.2)] from by show [(f.1,(1:Int),f.2 * e.2)]=_;rw[Int.mul_comm]];exact z
      . rintro σ H3 ⟨s3,hD3,v7,v8,v9,rfl⟩;rw[hzl,take_length]at hD3;refine⟨s3,?_,_,_,_,_,_,_,rfl⟩;rw[nx,Zb6,ZN,if_pos ce];have:sub h ts []=[]:=rfl;rw[this,append_nil];exact hD3
    . have ce:¬ e.1=h:=λ z=>c (decide_eq_true z);rw[if_neg ce]at spl;have pre:sub h ts us=(sub h ts (us.take i)++[e])++sub h ts (us.drop (i+1)):=by rw[spl,append_assoc]
      have nx3:sub h ts (us.take (i+1))=sub h ts (us.take i)++[e]:=by rw[nx,Zb6,ZN,if_neg ce];rfl
      rw[nx3];generalize sub h ts (us.take i)=F at *;refine⟨_,rfl,d,rfl,?_⟩;obtain⟨nk,lF⟩:=ZfN nd pre;obtain⟨ws,hw,hW⟩:=id hD;refine⟨.inl ⟨_, .inl hW.1⟩,_,rfl,(by show 2<=sizeLine;decide),λ p0 hp0=>?_⟩;have s4:=Zi hp0 (.tup [.int 0, .int 1]);have og:Z7 (ws.map λ w=>((Sum.inr w.1.1:Key),V.ref w.2)) (Sum.inr e.1:Key)=none:=by
        rcases Dic.get (k:=e.1) hw hW with ⟨p',g1,g2,g3⟩|⟨g1,_,_⟩
        . exact absurd g3 nk
        . exact g1
      have g4:ZU (upd H2 p0 (.tup [.int 0, .int 1])) d (.str e.1) none:=by
        have z:=ZU.k (k:=Sum.inr e.1) (s4 _ _ hW.1);rw[og]at z;exact z
      refine⟨none,g4,?_⟩;walk_at "g";intro p5 hp5;have s5:=Zi hp5 (.tup [.int 1, .int e.2]);have dd0:0<e.2:=hde.1;have dd1:e.2<2 ^ 1800:=Yc hde.2 (by decide);have tw:Two K (upd (upd H2 p0 (.tup [.int 0, .int 1])) p5 (.tup [.int 1, .int e.2])) p0 p5 0 1 1 e.2:=Zci (SqT.of (s5 _ _ Zb)) (SqT.of Zb) ⟨by decide,Yc (m:=1) (by decide) (by decide),by decide,Yc (m:=1) (by decide) (by decide)⟩ ⟨by decide,Yc (m:=1) (by decide) (by decide),dd0,dd1⟩;refine⟨p0,p5,0,1,1,e.2,rfl,tw,λ r6 hr6=>?_⟩;rw[show Zdk (0 * (e.2)+1 * 1) (1 * (e.2))=[.int 1, .int (e.2)] from by rw[show(0:Int) * (e.2)+1 * 1=1 by omega,show(1:Int) * (e.2)=e.2 by omega];exact Zem];have s6:=(s4.trans s5).trans (Zi hr6 (.tup [.int 1, .int (e.2)]));have n1:=s6 _ _ hW.1;have dW:ZfG K _ d ws:=⟨n1,λ w hx=>s6.tupq (hW.2 w hx)⟩;have z:=Dic.put (k:=e.1) hw dW (SqT.of (Zb (a:=r6) (o:=.tup [.int 1, .int (e.2)])));rw[ZcD nk]at z;refine⟨_,rfl,_,rfl,d,_,rfl,Jm.k (k:=Sum.inr e.1) n1 (Zu (by rw[Zbu hw,length_map];omega)),Z6 (sm.trans s6) hd0,?_,_,_,_,_,_,_,rfl⟩;rw[map_append];exact z
  . rintro σ H2 ⟨sm,hD,v4,v5,v6,v7,v8,v9,rfl⟩;rw[hxl,take_length]at hD;have nok:∀ x∈(sub h ts us).map ue,Zdf x:=λ x hx=>by
      obtain⟨u,hu,rfl⟩:=List.mem_map.mp hx;refine Zeh ?_;unfold sub at hu;obtain⟨w,hw,hu⟩:=List.mem_flatMap.mp hu;split at hu
      . obtain⟨v,hv,rfl⟩:=List.mem_map.mp hu;exact Int.mul_pos (dt v hv).1 (du w hw).1
      . rw[List.mem_singleton.mp hu];exact(du w hw).1
    walk_at "g";exact⟨by rw[J6];exact nd,by rw[length_map];exact hlen,nok,λ l' H' es' s' fl' led can=>q l' H' es' (sm.trans s') (sm.free fl') led can⟩
theorem Zee {f:Addr}{fd:FuncData}(F:Fun K "_law_below" "_law_below" JJ f fd)(T:Txt K g mg)  : FnOk P w0 K mg base CX0 1 f fd ["_law_model_here","_law_name"] (ZaQ K g):=by
  refine F.ok ZaU (λ vs H Q E h=>?_) (λ cdv A outer s H vs Q E hr h=>?_)
  . obtain⟨m,S,R,n,rfl,_⟩:=h;rfl
  obtain⟨m,S,R,n,rfl,M,W,hn,q⟩:=h;obtain⟨c,e1,e2,e3,B⟩:=M.tup_of;refine⟨_,(
(Zd (Zip (d:=e1) (kvs:=yrs S.bs) (Yp PassesOwn.never rfl (Zd2 (Zl Zj (pv 0) Zf (λ _ _=>rfl))) (Zw (i:=2) ZaU.nd rfl (Or.inl rfl))
 (Zg (ZA (PW.pt (ZaA (Zq YK (ZeL Zg9 (pv 2) ZfQ (ZfP (Zn Z5 (Zr ZD rfl T.z_len boot_len (Za (pv 1) Zc)) Zf))) (Zn Yf (pv 1) Zs) (Zt _)) (J0 (Xn (YR (ZF hr) (pv 2) (Zl Zj (pv 0) Zf (λ _ _=>rfl)))))))
 (Zg (Zk YA))
 Zo))))
 (Zg (Zk YA)))),?_⟩
  have htup:=B.tup;have hd:=B.h1;refine⟨hd,?_⟩;walk_at "g";intro o;have n2:e2≠e1:=B.n12.symm;refine ZhU (λ i σ H2=>∃ v2:Option V,σ=[some (.ref m),some (.str n),v2]/\H2=upd H e1 (.frz o (.dK (yrs S.bs)))/\∀ x∈(S.bs.take i).map (·.1),¬ (has S.ds x=false/\x.cps.toList.take (n.length+1)=n.cps.toList++[46])) ⟨_,rfl,rfl,λ x hx=>by cases hx⟩ ?_ ?_ ?_
  . rintro i σ H2 _ ⟨v2,rfl,rfl,_⟩;exact Zb
  . rintro i k v σ H2 hk ⟨v2,rfl,rfl,hx⟩;obtain⟨x,rfl,hxb⟩:=yrs_at hk;have ex:(S.bs.take (i+1)).map (·.1)=(S.bs.take i).map (·.1)++[x]:=by
      unfold yrs at hk;rw[getElem?_map]at hk;obtain⟨p,hp,e⟩:=Option.map_eq_some_iff.mp hk;have e2:p.1=x:=by injection e with e _;injection e
      rw[take_succ,hp,map_append,<- e2];rfl
    have xl:=Xc (W.wrt x hxb);have lx:x.length<=sizeLine:=ZI (by omega);have ln1:n.length<=sizeLine:=ZI (by omega);have ln2:n.length+(Str.ofString ".").length<=sizeLine:=ZI (by show n.length+1<=500;omega);have htup2:upd H e1 (.frz o (.dK (yrs S.bs))) m=some (.tup [.ref c, .ref e1, .ref e2, .ref e3]):=by rw[Ze (λ z=>by rw[z,hd]at htup;cases htup)];exact htup
    have g2:ZU (upd H e1 (.frz o (.dK (yrs S.bs)))) e2 (.str x) _:=ZU.k (k:=Sum.inr x) (by rw[Ze n2];exact B.h2);show tIfS _ _ _ _ [some (V.ref m),some (V.str n),some (V.str x)] _;walk_at "g";refine⟨⟨ln1,rfl⟩,?_⟩;walk_at "g";dsimp only;rw[show decide (V.str (Txt.slice x none (some ((n.length:Int)+1)))=V.str (n++Str.ofString "."))=_ from Ziq x n]
    by_cases c1:x.cps.toList.take (n.length+1)=n.cps.toList++[46]
    . rw[decide_eq_true c1];refine YB ?_;walk_at "g";rw[ZW];cases hdx:has S.ds x with
      |false=>
        refine YB ?_;refine⟨o,Zb,?_⟩;rw[Zb5,ZgX hd];exact q true ⟨λ _=>(Zgk W).mpr ⟨x,hxb,hdx,c1⟩,λ _=>rfl⟩
      |true=>
        refine Z0 ⟨_,rfl,rfl,λ y hy=>?_⟩;rw[ex]at hy;rcases List.mem_append.mp hy with z|z
        . exact hx y z
        . rw[List.mem_singleton.mp z,hdx];exact λ w=>by cases w.1
    . rw[decide_eq_false c1];refine Z0 (Z0 ⟨_,rfl,rfl,λ y hy=>?_⟩);rw[ex]at hy;rcases List.mem_append.mp hy with z|z
      . exact hx y z
      . rw[List.mem_singleton.mp z];exact λ w=>c1 w.2
  . rintro σ H2 ⟨v2,rfl,rfl,hx⟩;refine⟨o,Zb,?_⟩;rw[Zb5,ZgX hd];have len:(yrs S.bs).length=S.bs.length:=by unfold yrs;rw[length_map]
    rw[len,take_length]at hx;refine q false ⟨(λ z=>by cases z),λ z=>?_⟩;obtain⟨x,b1,b2,b3⟩:=(Zgk W).mp z;exact absurd ⟨b2,b3⟩ (hx x ((Yl S.bs x).mp b1))
theorem ZeT {f:Addr}{fd:FuncData}(F:Fun K "_law_fits" "_law_fits" Xj f fd)(T:Txt K g mg)(Qan:Zev P w0 K g mg base)(Qbn:Jk P w0 K g mg base)(Qbo:ZbP P w0 K g mg base)(QaC:JR P w0 K g mg base):FnOk P w0 K mg base CX0 14 f fd ["_law_world","_law_model_here","_law_name"] (ZbD K g):=by
  refine F.ok Yz (λ vs H Q E h=>?_) (λ cdv A outer s H vs Q E hr h=>?_)
  . obtain⟨w,m,S,R,RM,n,rfl,_⟩:=h;rfl
  obtain⟨w,m,S,R,RM,n,rfl,W,M,hn,hlen,q⟩:=h;have rest4:PSs (YT CX0 P w0 K mg base ["_law_world","_law_model_here","_law_name","_law_found","_law_root","_law_heir","_law_num_here","_law_den"] "_law_fits" (Zh Xj) f cdv A outer s H E).nox ((ZZ Xj).drop 4) (λ D σ H5=>∃(l1:Addr)(es:List En)(v5 v6 v7:Option V),σ=[some (.ref w),some (.ref m),some (.str n),some (.ref l1),some (.str (wd n)),v5,v6,v7]/\Zp H H5/\Led H5 l1 es/\(∀ e∈es,has S.bs e.1=true/\has S.ds e.1=false/\wd e.1=wd n)/\D.rt=Q):=by
    refine @Xz _ _ _ _ ((Zd (Yp PassesOwn.never rfl (Ya (pv 3)) (ZaB rfl (ZC (Zw (i:=5) Yz.nd rfl (Or.inl rfl)) (ZC (Zw (i:=6) Yz.nd rfl (Or.inl rfl)) (ZC (Zw (i:=7) Yz.nd rfl (Or.inl rfl)) Xv))))
 (Zg (ZA (PW.pt (Xu (Xn (YR (ZF hr) (pv 5) (Zl Zj (pv 1) Zf (λ _ _=>rfl)))) (Xu (Xn (ZaD (ZF hr) (pv 5) (Zl Zj (pv 1) Zf (λ _ _=>rfl)))) (Y6 (Zq ZfT (Zl Yb (Zam plainAttrs_str PySem.F.slot_str_split PySem.F.type_str_split ZcV (pv 5) (Za Zs Zc)) Zf (λ _ _=>rfl)) (pv 4) (Zt _))))))
 (Zg (Zk YA))
 Zo)))
 (Zg (Zk YA)))) ?_
    rintro D σ H5 ⟨l1,es,v5,v6,v7,rfl,s5,led,al,hq⟩;obtain⟨xs,hx,hxl⟩:=led.len;have wf:=W.wf;refine⟨_,rfl,l1,rfl,⟨xs,SqL.of hx⟩,YI (xs:=xs) (λ i σ H6=>∃(v5 v6 v7:Option V),σ=[some (.ref w),some (.ref m),some (.str n),some (.ref l1),some (.str (wd n)),v5,v6,v7]/\Zp H5 H6) ⟨_,_,_,rfl,Zp.refl _⟩ ?_ ?_ ?_⟩
    . rintro i σ H6 _ ⟨v5,v6,v7,rfl,s6⟩;exact SqL.of (s6 _ _ hx)
    . rintro i x σ H6 hxi ⟨v5,v6,v7,rfl,s6⟩;obtain⟨r,e,rfl,he,hr⟩:=(led.same s6).at (s6 _ _ hx) hxi;obtain⟨a1,a2,a3⟩:=al e (mem_of_getElem? he);have M6:=M.same (s5.trans s6);obtain⟨c,e1,e2,e3,B⟩:=M6.tup_of;have htup:=B.tup;have hrT:=SqT.of (K:=K) hr;have g1:ZU H6 e1 (.str e.1) _:=ZU.k (k:=Sum.inr e.1) B.h1;have g2:ZU H6 e2 (.str e.1) _:=ZU.k (k:=Sum.inr e.1) B.h2;have nl:=Xc (wf.wrt _ a1);walk_at "g";rw[ZW,a1];refine Z0 ?_;walk_at "g";rw[ZW,a2];refine Z0 ?_;have h2:(Builtin.Str.partsBetween e.1 (Builtin.Str.occurrences e.1 dot 0 e.1.length (e.1.length+1)) dot.length).length<=sizeLine:=by
        rw[PyProof.Rows.len_partsBetween];have:=StrLaws.occ_length_le e.1 dot 0 e.1.length (e.1.length+1);exact ZI (by omega)
      refine⟨_,rfl,rfl,e.1,dot,rfl,rfl,by decide +kernel,ZI (by omega),h2,λ l5 hl5=>?_⟩;have s7:=Zi hl5 (.lst ((Txt.split e.1 dot).map V.str));have e0:(Txt.split e.1 dot).map V.str=V.str (wd e.1)::(nms e.1).map V.str:=by rw[show Txt.split e.1 dot=wd e.1::nms e.1 from YQ e.1];rfl
      refine⟨l5,(Txt.split e.1 dot).map V.str,_,V.str (wd e.1),rfl,rfl,SqL.of Zb,by rw[e0];exact Xy (j:=0) rfl,?_⟩;rw[a3];walk_at "g";exact ifEqN ⟨_,_,_,rfl,s6.trans s7⟩
    . rintro σ H6 ⟨v5,v6,v7,rfl,s6⟩;walk_at "g";show D.rt (.bl true) H6;rw[hq];exact q H6 (s5.trans s6)
  refine⟨_,(Zd (Zv (i:=3) Yz.nd rfl (Or.inl rfl) (XN Jh Qan (h_ hr) (Za (ZM (pv 0) rfl) (Za (pv 2) Zc))))
 (Zd (ZA (PW.pt (Xu (Yo (Z4 (Zz Qbn (h_ hr) (Za (pv 3) Zc)))) (Y6 (Zq (Zfs hr.units) (Zz Qbo (h_ hr) (Za (pv 3) Zc)) (ZO (Za Zf (Za Zf Zc))) (Zt _)))))
 (Zg (Zk YA))
 Zo)
 (Zd (Zv (i:=4) Yz.nd rfl (Or.inl rfl) (Zl Yb (Zam plainAttrs_str PySem.F.slot_str_split PySem.F.type_str_split ZcV (pv 2) (Za Zs Zc)) Zf (λ _ _=>rfl)))
 (Zd (ZA (PW.pt (ZaA (Yo (Z4 (Zz QaC (h_ hr) (Za (pv 1) (Za (pv 4) Zc))))) (J0 (Xn (ZaD (ZF hr) (pv 4) (Zl Zj (pv 1) Zf (λ _ _=>rfl)))))))
 (Zg (Zk (Zb9 (op_eqD hr.units) (pv 3) (Xo (Za (ZO (Za Zs (Za Zf (Za Zf Zc)))) Zc)) (Zt _))))
 Zo)
 @rest4)))),?_⟩
  obtain⟨dx,b,hdd,RL,hw,L,hh,eR,n1,n2⟩:=W.ex;obtain⟨dy,y1,y2,y3,hb⟩:=L.obj;have wf:=W.wf;have hl98:S.bs.length<=98:=by omega
  have pn:=wf.wrt n hn;have nl:=Xc pn;obtain⟨hr1,hr2⟩:=ZhO wf hl98 hn;obtain⟨c,e1,e2,e3,B⟩:=M.tup_of;walk_at "g";refine⟨(λ z=>by rw[hn]at z;cases z),λ _=>⟨by omega,λ l1 H1 es s1 fl1 led1 can=>?_⟩⟩;obtain⟨us,HL⟩:=HLd.of wf hl98 hn can;have srt:=HL.srt;have nrm:=HL.nrm;walk_at "g";intro H2 s2;walk_at "g";have led2:=led1.same s2;rw[<- HL.eq]at led2;have one:=HL.one;have dn:=HL.dn;have ul:us.length<=40:=by have:=HL.len;omega
  walk_at "g";intro p3 H3 s3 hp3;walk_at "g";intro p4 hp4;refine⟨shD 1 1,shD 1 1,Zd1 (SqT.of ((Zi hp4 _) _ _ hp3)),Zd1 (SqT.of Zb),rfl,rfl,_,rfl,?_⟩;rw[if_pos rfl,show PyData.eqv (shD 1 1) (shD 1 1)=true from by decide +kernel];refine Z0 ?_;have s14:=(s2.trans s3).trans (Zi hp4 (.tup [.int 1, .int 1]));generalize upd H3 p4 (.tup [.int 1, .int 1])=H4 at s14 ⊢;have h2:(Builtin.Str.partsBetween n (Builtin.Str.occurrences n dot 0 n.length (n.length+1)) dot.length).length<=sizeLine:=by
    rw[PyProof.Rows.len_partsBetween];have:=StrLaws.occ_length_le n dot 0 n.length (n.length+1);exact ZI (by omega)
  refine⟨_,rfl,rfl,n,dot,rfl,rfl,by decide +kernel,ZI (by omega),h2,λ l5 hl5=>?_⟩;have s5:=Zi hl5 (.lst ((Txt.split n dot).map V.str));have e0:(Txt.split n dot).map V.str=V.str (wd n)::(nms n).map V.str:=by rw[show Txt.split n dot=wd n::nms n from YQ n];rfl
  refine⟨l5,(Txt.split n dot).map V.str,_,V.str (wd n),rfl,rfl,SqL.of Zb,by rw[e0];exact Xy (j:=0) rfl,?_⟩;have s05:=(s1.trans s14).trans s5;generalize upd H4 l5 (.lst ((Txt.split n dot).map V.str))=H5 at s5 s05 ⊢;have M5:=M.same s05;have led5:=led1.same (s14.trans s5);have wl:(wd n).length<=200:=by
    have:=Xc (okN_wd wf ⟨pn,by rw[ZcT (Z9 pn) hn];exact λ z=>Z9 pn (by rw[z];rfl)⟩).1;omega
  have htup5:=s05 _ _ B.tup;have g2:ZU H5 e2 (.str (wd n)) _:=ZU.k (k:=Sum.inr (wd n)) (s05 _ _ B.h2);walk_at "g";intro b9 hb9;have go4:(¬ (¬ blw S (wd n)/\has S.ds (wd n)=true))->∃(l1':Addr)(es':List En)(v5 v6 v7:Option V),[some (V.ref w),some (.ref m),some (.str n),some (.ref l1),some (.str (wd n)),none,none,none]=[some (.ref w),some (.ref m),some (.str n),some (.ref l1'),some (.str (wd n)),v5,v6,v7]/\Zp H H5/\Led H5 l1' es'/\(∀ e∈es',has S.bs e.1=true/\has S.ds e.1=false/\wd e.1=wd n)/\Q=Q:=λ hc=>⟨l1,es,_,_,_,rfl,s05,led5,(λ e he=>by
    rw[<- HL.eq]at he;obtain⟨u,hu,rfl⟩:=List.mem_map.mp he;exact hr2 hc u (HL.pm.mem_iff.mp hu)),rfl⟩
  walk_at "g";dsimp only;cases b9 with
  |true=>
    refine Z0 ?_;refine Z0 ?_;exact go4 (λ z=>z.1 (hb9.mp rfl))
  |false=>
    refine YB ?_;have nb:¬ blw S (wd n):=λ z=>by have:=hb9.mpr z;cases this
    walk_at "g";rw[ZW];cases hdr:has S.ds (wd n) with
    |false=>
      refine Z0 ?_;exact go4 (λ z=>by rw[hdr]at z;cases z.2)
    |true=>
      refine YB ?_;have hc:=hr1 ⟨nb,hdr⟩;have ees:es=[(("crown":Str),(1:Int),(1:Int))]:=by
        have p:=HL.pm;rw[hc]at p;rw[<- HL.eq,List.perm_singleton.mp p];rfl
      walk_at "g";intro p6 hp6;walk_at "g";intro l7 hl7;have s6:=Zi hp6 (.tup [.str "crown", .int 1, .int 1]);have s7:=Zi hl7 (.lst [.ref p6]);have ledc:Led (upd (upd H5 p6 (.tup [.str "crown", .int 1, .int 1])) l7 (.lst [.ref p6])) l7 [(("crown":Str),(1:Int),(1:Int))]:=⟨[(("crown",1,1),p6)],rfl,Zb,λ w hw=>by rw[List.mem_singleton.mp hw];exact s7 _ _ Zb⟩;have st:=HL.str;rw[ees]at led5 st;refine⟨Zb3 [(("crown":Str),(1:Int),(1:Int))],Zb3 [(("crown":Str),(1:Int),(1:Int))],(led5.same (s6.trans s7)).rds,ledc.rds,Xf st,Xf st,?_⟩;rw[if_neg (by decide),Zga st];exact q _ (s05.trans (s6.trans s7))
theorem ok_law {f:Addr}{fd:FuncData}(F:Fun K "law" "law" ZaZ f fd)(T:Txt K g mg)(QaF:Zc9 P w0 K g mg base)(Qbp:ZbR P w0 K g mg base)(Qbq:ZbQ P w0 K g mg base)(QaG:Zao P w0 K g mg base)(QaL:Ze5 P w0 K g mg base)(QaM:Zda P w0 K g mg base)(Qan:Zev P w0 K g mg base)(Qbr:Jj P w0 K g mg base)(QaN:Zdc P w0 K g mg base)(Qbs:ZbS P w0 K g mg base)(QaC:JR P w0 K g mg base)(Qbt:Ze2 P w0 K g mg base):FnOk P w0 K mg base CX0 15 f fd ["_law_script"] (ZdO K g):=by
  refine F.ok Z8 (λ vs H Q E h=>?_) (λ cdv A outer s H vs Q E hr h=>?_)
  . obtain⟨a,ns,rfl,_⟩:=h;rfl
  obtain⟨a,ns,rfl,hS,hlen,q⟩:=h;have turn:PSs (YT CX0 P w0 K mg base ["_law_script","_law_n","_law_model_here","_law_world","_law_deeds","_law_k","_law_m","_law_deed","_law_names","_law_name","_law_ahead","_law_some","_law_heir"] "law" (Zh ZaZ) f cdv A outer s H E).nox ((ZiQ ((ZZ ZaZ).getD 4 (.Pass ⟨0,0,0,0⟩))).drop 2) (λ D σ H9=>∃(a m w l:Addr)(n kk mm:Int)(S:Mo)(R RM:List Addr)(i:Nat)(p:Addr)(d:Deed)(v8 v9 v10 v11 v12:Option V),σ=[some (.ref a),some (.int n),some (.ref m),some (.ref w),some (.ref l),some (.int kk),some (.int mm),some (.ref p),v8,v9,v10,v11,v12]/\WorldAt g H9 w S R/\Yt H9 m S RM/\Dj RM R/\S.Ok i/\i<90/\kk=0+(i:Int)/\H9 p=some (.tup d.vals)/\S.good 30 d/\ZfF (S.step d)/\∀ R' H' v5 v6 v7 v8 v9 v10 v11 v12,ZS (R++RM) H9 H'->JX H9 R R'->WorldAt g H' w (S.step d) R'->Yt H' m (S.step d) RM->Dj RM R'->D.nx [some (.ref a),some (.int n),some (.ref m),some (.ref w),some (.ref l),v5,v6,v7,v8,v9,v10,v11,v12] H'):=by
    refine @Xz _ _ _ _ ((Zd (ZH (Zz QaL (h_ hr) (Za (pv 3) (Za (pv 7) Zc))))
 (Zg (ZH (Zz QaM (h_ hr) (Za (pv 2) (Za (pv 7) Zc))))))) ?_
    rintro D σ H9 ⟨a,m,w,l,n,kk,mm,S,R,RM,i,p,d,v8,v9,v10,v11,v12,rfl,W,M,dj,O,hi,hkk,hp,hg,rt,qn⟩;refine⟨_,rfl,_,rfl,w,S,R,p,d,30,i,rfl,W,hp,O,by omega,hg,by decide,λ v R1 H1 k1 gr W1=>?_⟩;have hp1:=k1.1 p _ (W.no_tup hp) hp;refine⟨_,rfl,_,rfl,m,S,RM,p,d,30,i,rfl,M.keep k1 dj,hp1,O,by omega,hg,λ H2 k2 M2=>?_⟩;have dj1:Dj RM R1:=dj.grow M.live gr;have O2:=O.step hg (by omega);have W2:=W1.keep k2 dj1.symm;have kA:ZS (R++RM) H9 H2:=(k1.wide (λ x hx=>mem_append_left _ hx)).tr k2 (λ x hx => .inl (mem_append_right _ hx));have lb2:=O2.lb;have fin:∀ H',Zp H2 H'->∀ v5 v6 v7 v8 v9 v10 v11 v12,D.nx [some (.ref a),some (.int n),some (.ref m),some (.ref w),some (.ref l),v5,v6,v7,v8,v9,v10,v11,v12] H':=λ H' s v5 v6 v7 v8 v9 v10 v11 v12=>qn R1 H' v5 v6 v7 v8 v9 v10 v11 v12 (kA.same s) gr (W2.same s) (M2.same s) dj1;clear qn kA;generalize hSd:S.step d=S2 at *;clear M W hSd k1 k2 hg hp1 gr O hp W1;have wf2:=O2.wf;exact fin H2 (Zp.refl _) _ _ _ _ _ _ _ _
  have rest9:PSs (YT CX0 P w0 K mg base ["_law_script","_law_n","_law_model_here","_law_world","_law_deeds","_law_k","_law_m","_law_deed","_law_names","_law_name","_law_ahead","_law_some","_law_heir"] "law" (Zh ZaZ) f cdv A outer s H E).nox ((ZZ ZaZ).drop 9) (λ D σ H1=>∃(a m w:Addr)(n:Int)(nm:Str)(S:Mo)(R RM:List Addr)(v4 v5 v6 v7 v8 v10 v11 v12:Option V),σ=[some (.ref a),some (.int n),some (.ref m),some (.ref w),v4,v5,v6,v7,v8,some (.str nm),v10,v11,v12]/\WorldAt g H1 w S R/\Yt H1 m S RM/\S.Ok 33/\Dj RM R/\has S.bs nm=true/\∀ H',D.rt (.bl true) H'):=by
    refine @Xz _ _ _ _ ((Zd (Yp PassesOwn.never rfl (J2 rfl T.z_range (Za Zf Zc)) (Zw (i:=5) Z8.nd rfl (Or.inl rfl))
 (Zd (Zv (i:=10) Z8.nd rfl (Or.inl rfl) (XN Jh Qan (h_ hr) (Za (ZM (pv 3) rfl) (Za (pv 9) Zc))))
 (Zd (ZcE (i:=11) Z8.nd rfl (Or.inl rfl) (x:="_law_entry") (cl:=[("_law_model_here",s.heap.objs.size+1)]) (caps:=[("_law_model_here",2)]) rfl (Ya (pv 10)) (λ _ _ _ _ _=>Za2 (PW.pt (ZaA (Xn (ZaD (ZF hr) (Zl (show IxR _ (ZeJ K) from Zj) (pv 0) Zf (λ _ _=>rfl)) (Zl (show IxR _ (ZeJ K) from Zj) (pv 1) Zf (λ _ _=>rfl)))) (J0 (Z4 (Zz QaC (h_ hr) (Za (pv 1) (Za (Zl (show IxR _ (ZeJ K) from Zj) (pv 0) Zf (λ _ _=>rfl)) Zc)))))))) (λ _ _ _ _ _=>(Zl (show IxR _ (ZeJ K) from Zj) (pv 0) Zf (λ _ _=>rfl))) rfl (by decide +kernel) rfl (by decide +kernel) rfl (λ _ _ h=>h) (ZaF rfl) (λ p hp=>by rw[List.mem_singleton.mp hp];exact⟨rfl,rfl,by first|exact .inl rfl|exact .inr rfl⟩) (by decide +kernel))
 (Zg (ZA (Zq Zan (Zr ZD rfl T.z_len boot_len (Za (pv 11) Zc)) Zf (Zt _))
 (Zd (Zv (i:=12) Z8.nd rfl (Or.inl rfl) (Zl Yb (pv 11) (Zn Yq (pv 1) (Zr ZD rfl T.z_len boot_len (Za (pv 11) Zc))) (λ _ _=>rfl)))
 (Zd (Zv (i:=1) Z8.nd rfl (Or.inl rfl) (Zn YZ (pv 1) (Zr ZD rfl T.z_len boot_len (Za (pv 11) Zc))))
 (Zd (ZH (Zz QaL (h_ hr) (Za (pv 3) (Za (ZO (Za Zs (Za (pv 12) Zc))) Zc))))
 (Zd (ZH (Zz QaM (h_ hr) (Za (pv 2) (Za (ZO (Za Zs (Za (pv 12) Zc))) Zc))))
 (Zd (ZA (Zq (Zfs hr.units) (XN Jh Qan (h_ hr) (Za (ZM (pv 3) rfl) (Za (pv 9) Zc))) (Zz Qbs (h_ hr) (Za (pv 10) (Za (pv 12) (Za (XN Jh Qan (h_ hr) (Za (ZM (pv 3) rfl) (Za (pv 12) Zc))) Zc)))) (Zt _))
 (Zg (Zk YA))
 Zo)
 (Zg (ZA (Yo (Z4 (Zz QaN (h_ hr) (Za (pv 3) (Za (pv 2) (Za (pv 9) Zc))))))
 (Zg (Zk YA))
 Zo)))))))
 Zo)))))
 (Zg (Zk YA)))) ?_
    rintro D σ H1 ⟨a,m,w,n,nm,S,R,RM,v4,v5,v6,v7,v8,v10,v11,v12,rfl,W,M,O,dj,hnm,q⟩;refine⟨_,rfl,by decide,by decide,J8 (n:=6) (λ i σ H2=>∃(n:Int)(S2:Mo)(R2:List Addr)(v4 v5 v6 v7 v8 v10 v11 v12:Option V),σ=[some (.ref a),some (.int n),some (.ref m),some (.ref w),v4,v5,v6,v7,v8,some (.str nm),v10,v11,v12]/\WorldAt g H2 w S2 R2/\Yt H2 m S2 RM/\S2.Ok (33+i)/\Dj RM R2/\S2.bs=S.bs) ⟨n,S,R,_,_,_,_,_,_,_,_,rfl,W,M,O,dj,rfl⟩ ?_ ?_⟩
    . rintro i σ H2 hi ⟨n,S2,R2,v4,v5,v6,v7,v8,v10,v11,v12,rfl,W2,M2,O2,dj2,eb⟩;have hb2:S2.bs.length<=33:=by rw[eb];exact O.lb
      have hn2:has S2.bs nm=true:=by rw[eb];exact hnm
      obtain⟨dx,b,hdd,RL,hw,L,hh,eR,n1,n2⟩:=W2.ex;obtain⟨dy,y1,y2,y3,hb⟩:=L.obj;have wf:=W2.wf;walk_at "g";refine⟨(λ z=>by rw[hn2]at z;cases z),λ _=>⟨by omega,λ l3 H3 es s3 fl3 led3 can3=>?_⟩⟩;obtain⟨us,HL⟩:=HLd.of wf (by omega) hn2 can3;obtain⟨xs,hx,hxl⟩:=led3.len;have esl:es.length<=33:=by rw[<- HL.eq,length_map];have:=HL.len;omega
      have M3:=M2.same s3;have W3:=W2.same s3;obtain⟨c,e1,e2,e3,B⟩:=M3.tup_of;have htup3:=B.tup;have fin:∀(S':Mo)(R':List Addr)(H':Hp)(n':Int)(v4 v5 v6 v7 v8 v10 v11 v12:Option V),WorldAt g H' w S' R'->Yt H' m S' RM->S'.Ok (33+(i+1))->Dj RM R'->S'.bs=S.bs->∃(n:Int)(S2:Mo)(R2:List Addr)(u4 u5 u6 u7 u8 u10 u11 u12:Option V),[some (.ref a),some (.int n'),some (.ref m),some (.ref w),v4,v5,v6,v7,v8,some (.str nm),v10,v11,v12]=[some (.ref a),some (.int n),some (.ref m),some (.ref w),u4,u5,u6,u7,u8,some (.str nm),u10,u11,u12]/\WorldAt g H' w S2 R2/\Yt H' m S2 RM/\S2.Ok (33+(i+1))/\Dj RM R2/\S2.bs=S.bs:=λ S' R' H' n' v4 v5 v6 v7 v8 v10 v11 v12 A B C D E=>⟨n',S',R',_,_,_,_,_,_,_,_,rfl,A,B,C,D,E⟩;unfold Ze0 tSeq tAsg;dsimp only
      classical
      refine lcLvT (xs:=xs) (λ a H1=>a=l3/\H1=H3) ?_ ?_ (by omega) (λ i=>decide (∃ e,es[i]? = some e/\has S2.bs e.1=true/\blw S2 e.1)) (λ i=>V.str ((es[i]?.map (·.1)).getD "")) ?_ ?_ ?_
      . exact λ R0 r=>⟨_,rfl,r l3 H3 ⟨rfl,rfl⟩⟩
      . rintro a H1 ⟨rfl,rfl⟩;exact SqL.of hx
      . rintro a H1 i x H4 ⟨rfl,rfl⟩ hxi s4 R0 r;obtain⟨p,e,rfl,he,hp⟩:=(led3.same s4).at (s4 _ _ hx) hxi;have hpT:=SqT.of (K:=K) hp;have M4:=M3.same s4;have htup4:=s4 _ _ htup3;have g1:ZU H4 e1 (.str e.1) _:=ZU.k (k:=Sum.inr e.1) (s4 _ _ B.h1);walk_at "g";rw[ZW];cases hk:has S2.bs e.1 with
        |false=>
          refine Z0 ?_;have z:=r H4 (Zp.refl _);rw[decide_eq_false (by rintro⟨e',h1,h2,_⟩;rw[he]at h1;cases h1;rw[hk]at h2;cases h2)]at z;exact z
        |true=>
          refine YB ?_;have el:e.1.length<=200:=by have:=Xc (wf.wrt _ hk);omega
          walk_at "g";intro b9 hb9;walk_at "g";have z:=r H4 (Zp.refl _);have ed:decide (∃ e',es[i]? = some e'/\has S2.bs e'.1=true/\blw S2 e'.1)=b9:=by
            cases b9 with
            |true=>exact decide_eq_true ⟨e,he,hk,hb9.mp rfl⟩
            |false=>exact decide_eq_false (by rintro⟨e',h1,_,h3⟩;rw[he]at h1;cases h1;have:=hb9.mpr h3;cases this)
          rw[ed]at z;exact z
      . rintro a H1 i x H4 ⟨rfl,rfl⟩ hxi _ s4 R0 r;obtain⟨p,e,rfl,he,hp⟩:=(led3.same s4).at (s4 _ _ hx) hxi;have hpT:=SqT.of (K:=K) hp;walk_at "g";have z:=r H4 (Zp.refl _);rw[he]at z;exact z
      rintro a1 H4_ D4 H4 ⟨e1_,e2_⟩ hD4 s4 h4;subst e1_ e2_;obtain⟨Ls,eL,hLs⟩:∃ Ls:List Str,((fl (λ i=>decide (∃ e,es[i]? = some e/\has S2.bs e.1=true/\blw S2 e.1)) xs.length).map λ i=>V.str ((es[i]?.map (·.1)).getD ""))=Ls.map V.str/\∀ x∈Ls,∃ e∈es,e.1=x/\has S2.bs x=true/\blw S2 x:=by
        refine⟨(fl (λ i=>decide (∃ e,es[i]? = some e/\has S2.bs e.1=true/\blw S2 e.1)) xs.length).map λ i=>(es[i]?.map (·.1)).getD "",by rw[map_map];rfl,λ x hx=>?_⟩;obtain⟨i,hi,rfl⟩:=List.mem_map.mp hx;obtain⟨_,h2⟩:=List.mem_filter.mp hi;obtain⟨e,h3,h4,h5⟩:=of_decide_eq_true h2;rw[h3];exact⟨e,mem_of_getElem? h3,rfl,h4,h5⟩
      rw[eL]at h4;have h4S:=SqL.of (K:=K) h4;have W4:=W3.same s4;have M4:=M3.same s4;have led4:=led3.same s4;walk_at "g";dsimp only;refine Yg (λ c1=>?_) (λ c1=>?_)
      . have h0:0<Ls.length:=by have z:=of_decide_eq_true c1;rw[length_map]at z;omega
        have lpos:(0:Int)<((Ls.map V.str).length:Int):=by rw[length_map];omega
        have ldiv:CDiv n ((Ls.map V.str).length:Int):=⟨lpos,by
          have:Ls.length<=xs.length:=by
            have z:=congrArg List.length eL;rw[length_map,length_map]at z;have:=length_filter_le (λ i=>decide (∃ e,es[i]? = some e/\has S2.bs e.1=true/\blw S2 e.1)) (List.range xs.length);rw[length_range]at this;have z2:(fl (λ i=>decide (∃ e,es[i]? = some e/\has S2.bs e.1=true/\blw S2 e.1)) xs.length).length<=xs.length:=this;omega
          rw[length_map];omega⟩
        obtain⟨h,hh1,ex⟩:=Zf3 Ls n h0;obtain⟨e,he,e1h,hbh,hblw⟩:=hLs h hh1;have hdh:has S2.ds h=false:=by
          rw[<- HL.eq]at he;obtain⟨u,hu,rfl⟩:=List.mem_map.mp he;have:=ZiM wf (by omega) hn2 (HL.pm.mem_iff.mp hu) (by rw[show u.1=h from e1h];exact hbh);rw[show u.1=h from e1h]at this;exact this
        walk_at "g";intro p5 hp5;have s5:=Zi hp5 (.tup [.str "death", .str h]);have hg:S2.good 60 (.death h):=⟨hbh,hdh⟩;have W5:=W4.same s5;have M5:=M4.same s5;have led5:=led4.same s5;have nlR:a1∉R2:=λ z=>by obtain⟨o,e⟩:=W2.live a1 z;rw[fl3]at e;cases e
        have nlM:a1∉RM:=λ z=>by obtain⟨o,e⟩:=M2.live a1 z;rw[fl3]at e;cases e
        refine⟨w,S2,R2,p5, .death h,60,33+i,rfl,W5,Zb,O2,by omega,hg,by decide,λ v R6 H6 k6 gr6 W6=>?_⟩;have M6:=M5.keep k6 dj2;have led6:=led5.keepW W5 k6 nlR;walk_at "g";intro p7 hp7;have s7:=Zi hp7 (.tup [.str "death", .str h]);refine⟨m,S2,RM,p7, .death h,60,33+i,rfl,M6.same s7,Zb,O2,by omega,hg,λ H8 k8 M8=>?_⟩;have dj8:Dj RM R6:=dj2.grow M5.live gr6;have W8:=(W6.same s7).keep k8 dj8.symm;have led8:=(led6.same s7).keepM (M6.same s7) k8 nlM;obtain⟨dx,b,hdd,RL,hw8,L8,hh8,eR8,n18,n28⟩:=W8.ex;obtain⟨dy,y1,y2,y3,hb8⟩:=L8.obj;have wf8:=W8.wf;have hn8:has (S2.step (.death h)).bs nm=true:=hn2;have hh8':has (S2.step (.death h)).bs h=true:=hbh;have lb8:(S2.step (.death h)).bs.length<=33:=hb2;walk_at "g";refine⟨(λ z=>by rw[hn8]at z;cases z),λ _=>⟨by omega,λ l9 H9 es1 s9 fl9 led9 can9=>?_⟩⟩;obtain⟨us1,HL1⟩:=HLd.of wf8 (by omega) hn8 can9;have hw9:=s9 _ _ hw8;have hb9:=s9 _ _ hb8;have L9:=L8.same s9;walk_at "g";refine⟨(λ z=>by rw[hh8']at z;cases z),λ _=>⟨by omega,λ l10 H10 es2 s10 fl10 led10 can10=>?_⟩⟩;obtain⟨us2,HL2⟩:=HLd.of wf8 (by omega) hh8' can10;obtain⟨q1,q2,q3⟩:=ZdD (es3:=es1) wf (by omega) hn2 hbh hdh hblw HL HL1 HL2;have ledA:=(led8.same s9).same s10;rw[<- HL.eq]at ledA;rw[<- HL2.eq]at led10;have b98:(98:Int) ^ 6<2 ^ 100:=by decide
        walk_at "g";refine⟨(λ e he=>⟨(HL.dn e he).1,by have:=(HL.dn e he).2;omega⟩),(λ e he=>⟨(HL2.dn e he).1,by have:=(HL2.dn e he).2;omega⟩),λ l11 H11 es3 s11 fl11 led11 can11=>?_⟩;obtain⟨_,_,q4⟩:=ZdD (es3:=es3) wf (by omega) hn2 hbh hdh hblw HL HL1 HL2;have e13:=q4 can11;subst e13;refine⟨Zb3 es1,Zb3 es1,((led9.same s10).same s11).rds,led11.rds,Xf HL1.str,Xf HL1.str,?_⟩;rw[ne_led HL1.str];refine⟨_,rfl,Z0 ?_⟩;have s811:=(s9.trans s10).trans s11;have W11:=W8.same s811;have M11:=M8.same s811;have lb40:(S2.step (.death h)).bs.length<=40:=by omega
        walk_at "g";intro H12 s12;walk_at "g";exact⟨W11.same s12,M11.same s12,O2.step hg (by omega),dj8,eb⟩
      . exact fin S2 R2 H4 n _ _ _ _ _ _ _ _ W4 M4 (O2.up2 (by omega)) dj2 eb
    . rintro σ H2 ⟨n,S2,R2,v4,v5,v6,v7,v8,v10,v11,v12,rfl,W2,M2,O2,dj2,eb⟩;walk_at "g";exact q H2
  have Zbn:PSs (YT CX0 P w0 K mg base ["_law_script","_law_n","_law_model_here","_law_world","_law_deeds","_law_k","_law_m","_law_deed","_law_names","_law_name","_law_ahead","_law_some","_law_heir"] "law" (Zh ZaZ) f cdv A outer s H E).nox ((ZZ ZaZ).drop 5) (λ D σ H1=>∃(a m w:Addr)(n:Int)(S:Mo)(R RM:List Addr)(i:Nat)(v4 v5 v6 v7 v8 v9 v10 v11 v12:Option V),σ=[some (.ref a),some (.int n),some (.ref m),some (.ref w),v4,v5,v6,v7,v8,v9,v10,v11,v12]/\WorldAt g H1 w S R/\Yt H1 m S RM/\S.Ok i/\i<=33/\Dj RM R/\ZfF S/\∀ H',D.rt (.bl true) H'):=by
    refine @Xz _ _ _ _ ((Zd (Zv (i:=8) Z8.nd rfl (Or.inl rfl) (YO (Zde rfl) rfl T.z_list boot_list (Za (Zl Zj (pv 2) Zf (λ _ _=>rfl)) Zc)))
 (Zd (Yp PassesOwn.never rfl (Ya (pv 8)) (Zw (i:=9) Z8.nd rfl (Or.inl rfl))
 (Zg (ZA (Yo (Z4 (Zz QaN (h_ hr) (Za (pv 3) (Za (pv 2) (Za (pv 9) Zc))))))
 (Zg (Zk YA))
 Zo)))
 (Zd (Zv (i:=9) Z8.nd rfl (Or.inl rfl) (Zl Yb (pv 8) (Zn Yq (Zn YZ (pv 1) Zf) (Zr ZD rfl T.z_len boot_len (Za (pv 8) Zc))) (λ _ _=>rfl)))
 (Zd (Zv (i:=1) Z8.nd rfl (Or.inl rfl) (Zn YZ (pv 1) Zf))
 @rest9))))) ?_
    rintro D σ H1 ⟨a,m,w,n,S,R,RM,i,v4,v5,v6,v7,v8,v9,v10,v11,v12,rfl,W,M,O,hi,dj,RT,q⟩;obtain⟨c,e1,e2,e3,B⟩:=M.tup_of;have wf:=O.wf;obtain⟨w0_,hw0,_⟩:=RT;refine⟨_,rfl,m,_,_,_,rfl,rfl,SqT.of B.tup,rfl,e1,_,rfl, .inl B.h1,λ l hl=>?_⟩;rw[keysK];have s2:=Zi hl (.lst ((Ji S.bs).map V.str));have hl2:upd H1 l (.lst ((Ji S.bs).map V.str)) l=some (.lst ((Ji S.bs).map V.str)):=Zb;generalize upd H1 l (.lst ((Ji S.bs).map V.str))=H2 at s2 hl2 ⊢;have hb40:S.bs.length<=40:=by have:=O.lb;omega
    refine⟨_,rfl,l,rfl,⟨_,SqL.of hl2⟩,YI (xs:=(Ji S.bs).map V.str) (λ i σ H3=>∃(v9:Option V),σ=[some (.ref a),some (.int n),some (.ref m),some (.ref w),v4,v5,v6,v7,some (.ref l),v9,v10,v11,v12]/\Zp H2 H3) ⟨_,rfl,Zp.refl _⟩ ?_ ?_ ?_⟩
    . rintro i σ H3 _ ⟨v9,rfl,s3⟩;exact SqL.of (s3 _ _ hl2)
    . rintro i v σ H3 hv ⟨v9,rfl,s3⟩;obtain⟨x,rfl,hx⟩:=ZiH hv;have W3:=W.same (s2.trans s3);have M3:=M.same (s2.trans s3);walk_at "g";intro H4 s4;walk_at "g";exact s3.trans s4
    . rintro σ H3 ⟨v9,rfl,s3⟩;have hl3:=s3 _ _ hl2;have hpos0:0<(Ji S.bs).length:=by
        have:=List.length_pos_of_mem ((Yl S.bs w0_).mp hw0);unfold Ji;exact this
      have lpos:(0:Int)<(((Ji S.bs).map V.str).length:Int):=by rw[length_map];omega
      obtain⟨x,hx,ex⟩:=Zf3 (Ji S.bs) (n / 3000) hpos0;have hx2:has S.bs x=true:=(Yl S.bs x).mpr hx;walk_at "g";exact⟨W.same (s2.trans s3),M.same (s2.trans s3),O.up2 hi,dj,hx2,q⟩
  refine⟨_,(Zd (Zv (i:=1) Z8.nd rfl (Or.inl rfl) (Zz QaF (h_ hr) (Za (Zz QaG (h_ hr) (Za (pv 0) (Za Zf Zc))) (Za Zf Zc))))
 (Zd (Zv (i:=2) Z8.nd rfl (Or.inr rfl) (Zz Qbp (h_ hr) (Za (Zn Yq (pv 1) Zf) Zc)))
 (Zd (Zv (i:=3) Z8.nd rfl (Or.inl rfl) (pe_mk Jh Qbt (h_ hr) rfl (Za (Zl Yb (Zl Zj (pv 2) Zf (λ _ _=>rfl)) Zf (λ _ _=>rfl)) Zc)))
 (Zd (Zv (i:=4) Z8.nd rfl (Or.inl rfl) (Zz Qbq (h_ hr) (Za (Zz QaF (h_ hr) (Za (Zz QaG (h_ hr) (Za (pv 0) (Za Zf Zc))) (Za Zf Zc))) Zc)))
 (Zd (Yp PassesOwn.never rfl (J2 rfl T.z_range (Za (Zn Z5 (Zr ZD rfl T.z_len boot_len (Za (pv 4) Zc)) (Zr (ZgR rfl) rfl T.z_min PyProof.Rows.boot_min (Za Zf (Za (Zr (ZdI rfl) rfl T.z_max boot_max (Za Zf (Za (Zn ZcH (Zr ZD rfl T.z_len boot_len (Za (pv 0) Zc)) Zf) Zc))) Zc)))) Zc)) (Zw (i:=5) Z8.nd rfl (Or.inl rfl))
 (Zd (Zv (i:=6) Z8.nd rfl (Or.inl rfl) (Zz QaF (h_ hr) (Za (Zz QaG (h_ hr) (Za (pv 0) (Za (Zn Z5 Zf (Zr (ZdI rfl) rfl T.z_max boot_max (Za Zf (Za (Zn ZcH (pv 5) (Zr ZD rfl T.z_len boot_len (Za (pv 4) Zc))) Zc)))) Zc))) (Za (pv 5) Zc))))
 (Zd (ZA (Zq ZbG (pv 5) (Zr ZD rfl T.z_len boot_len (Za (pv 4) Zc)) (Zt _))
 (Zg (Zv (i:=7) Z8.nd rfl (Or.inl rfl) (Zl Yb (pv 4) (pv 5) (λ _ _=>rfl))))
 (Zg (Zv (i:=7) Z8.nd rfl (Or.inl rfl) (Zz Qbr (h_ hr) (Za (pv 2) (Za (pv 6) (Za Zf Zc)))))))
 @turn)))
 @Zbn))))),?_⟩
  refine⟨_,rfl,a,ns,0,rfl,hS,by decide,λ c0=>⟨c0,1,rfl,λ n=>⟨_,rfl,_,_,rfl,rfl,(by show(0:Int)<3000;decide),_,rfl,λ m RM H1 s1 fM M=>?_⟩⟩⟩;have z0:=emod_nonneg n (show(3000:Int)≠0 by decide);have z1:=emod_lt_of_pos n (show(0:Int)<3000 by decide);obtain⟨c,e1,e2,e3,BM⟩:=M.tup_of;refine⟨_,rfl,m,_,_,_,rfl,rfl,SqT.of BM.tup,rfl,c,_,_,_,rfl,rfl,SqL.of BM.clk,rfl,?_⟩;intro w dxl nb ndx nex;refine⟨w,dxl,_,rfl,Zb,(λ e=>absurd ⟨z0,by show n % 3000<=9999;omega⟩ e),λ _ R0 H2 kp fr W=>⟨rfl,?_⟩⟩;have s12:=made nb ndx kp;have fR:∀ x∈R0,H1 x=none:=λ x hx=>(fr x hx).elim (λ e=>by rw[e];exact nb) ZdA;have s02:=s1.trans s12;refine⟨_,rfl,a,ns,1,rfl,s02.seq hS,by decide,λ c1=>⟨c1,2,rfl,λ r1=>⟨r1,rfl,λ l was ps H3 s23 fl FF hne DD=>?_⟩⟩⟩;have W3:=W.same s23;have M3:=(M.same s12).same s23;have dMR:Dj RM R0:=M.live.dj fR;have s03:=s02.trans s23;obtain⟨X,hX⟩:∃ X,X=R0++RM:=⟨_,rfl⟩;have fX:∀ x∈X,H x=none:=λ x hx=>by
    rw[hX]at hx;rcases List.mem_append.mp hx with hx|hx
    . exact s1.free (fR x hx)
    . exact fM x hx
  have dX:Dj (l::ps) X:=λ x hx hx2=>by
    have z:=fl x hx;rw[hX]at hx2;rcases List.mem_append.mp hx2 with h2|h2
    . obtain⟨o,e⟩:=W.live x h2;rw[z]at e;cases e
    . obtain⟨o,e⟩:=(M.same s12).live x h2;rw[z]at e;cases e
  have pl:ps.length=was.length:=by rw[DD.len,length_map]
  refine⟨_,rfl,_,_,rfl, .inl ⟨_,SqL.of DD.lst,rfl⟩,_,rfl,_,_,rfl, .inl ⟨_,s03.seq hS,rfl⟩,_,_,rfl,rfl,_,_,rfl,_,_,rfl,_,_,rfl,rfl,?_⟩;obtain⟨t,ht,ht16⟩:∃ t:Nat,(if (if ((ns.map V.int).length:Int) - 2>0 then ((ns.map V.int).length:Int) - 2 else 0)<30 then (if ((ns.map V.int).length:Int) - 2>0 then ((ns.map V.int).length:Int) - 2 else 0) else 30)=(t:Int)/\t<=30:=by
    refine⟨(if (if ((ns.map V.int).length:Int) - 2>0 then ((ns.map V.int).length:Int) - 2 else 0)<30 then (if ((ns.map V.int).length:Int) - 2>0 then ((ns.map V.int).length:Int) - 2 else 0) else 30).toNat,?_,?_⟩ <;> split <;> split <;> omega
  rw[ht];have hl3w:=FF.len;have e2:(((ps.map V.ref).length:Nat):Int)+(t:Int)=((was.length+t:Nat):Int):=by rw[length_map,pl];omega
  refine⟨_,rfl,by rw[e2];omega,by rw[e2];omega,?_⟩;rw[e2];have hwpos:0<was.length:=by cases was with|nil=>exact absurd rfl hne|cons x r=>simp
  refine J8 (n:=was.length+t) (λ i σ H2=>∃(S:Mo)(R:List Addr)(v5 v6 v7 v8 v9 v10 v11 v12:Option V),σ=[some (.ref a),some (.int n),some (.ref m),some (.ref w),some (.ref l),v5,v6,v7,v8,v9,v10,v11,v12]/\ZS X H3 H2/\WorldAt g H2 w S R/\Yt H2 m S RM/\Dj RM R/\JX H3 X R/\S.Ok i/\(i<=was.length->S.bs.map (·.1)=(was.take i).map (·.1))/\(0<i->ZfF S)) ?_ ?_ ?_
  . exact⟨mo0 _,R0,none,none,none,none,none,none,none,none,rfl,ZS.refl _ _,W3,M3,dMR,λ x hx => .inl (by rw[hX];exact mem_append_left _ hx),Mo.Ok.zero _,λ _=>rfl,λ z=>absurd z (lt_irrefl 0)⟩
  . rintro i σ H8 hi ⟨S,R,v5,v6,v7,v8,v9,v10,v11,v12,rfl,K8,W8,M8,dj,gX,O,hw,rt⟩;have s08:Zp H H8:=s03.keep K8 fX;have D8:=DD.keep K8 dX;have i27:i<38:=by omega
    have ik:(0:Int)<=2+(if (0:Int)+(i:Int) - (((ps.map V.ref).length:Nat):Int)>0 then (0:Int)+(i:Int) - (((ps.map V.ref).length:Nat):Int) else 0):=by split <;> omega
    refine⟨_,rfl,_,rfl,_,rfl,_,_,rfl, .inl ⟨_,SqL.of D8.lst,rfl⟩,_,_,rfl,rfl,_,_,rfl,_,_,rfl,rfl,a,ns,_,rfl,s08.seq hS,ik,λ c2=>⟨_,rfl,c2,_,rfl,λ n2=>?_⟩⟩;refine⟨_,rfl,_,rfl,_,_,rfl, .inl ⟨_,SqL.of D8.lst,rfl⟩,_,_,rfl,rfl,_,rfl,Yg (λ c=>?_) (λ c=>?_)⟩
    . have ci:i<was.length:=by have z:=of_decide_eq_true c;rw[length_map,pl]at z;omega
      have hpi:ps[i]? = some (ps[i]'(by omega)):=getElem?_eq_getElem (by omega);have e3:atI (ps.map V.ref) (0+(i:Int))=some (.ref (ps[i]'(by omega))):=by
        rw[Int.zero_add];exact Xy (by rw[getElem?_map,hpi];rfl)
      refine⟨_,rfl,_,rfl,l,_,_,_,rfl,rfl,SqL.of D8.lst,e3,?_⟩;have hp:=D8.at_ i _ (arr was[i]) hpi (by rw[getElem?_map,getElem?_eq_getElem ci];rfl);obtain⟨hg,hw2⟩:=FF.good ci (hw (by omega)) (far:=30);have rt2:=FF.root hne (Nat.succ_pos i) hw2;exact⟨a,m,w,l,n,_,n2,S,R,RM,i,_,_,_,_,_,_,_,rfl,W8,M8,dj,O,by omega,rfl,hp,hg,rt2,λ R' H' v5 v6 v7 v8 v9 v10 v11 v12 k gr L' M' dj'=>⟨_,R',v5,v6,v7,v8,v9,v10,v11,v12,rfl,K8.tr k (λ x hx=>by
        rcases List.mem_append.mp hx with hx|hx
        . exact gX x hx
        . exact .inl (by rw[hX];exact mem_append_right _ hx)),L',M',dj',λ x hx=>(gr x hx).elim (gX x) λ z => .inr (K8.2 x z),O.step hg (by omega),λ _=>hw2,λ _=>rt2⟩⟩
    . have ci:was.length<=i:=by
        have z:¬ ((0:Int)+(i:Int)<(((ps.map V.ref).length:Nat):Int)):=λ w=>c (decide_eq_true w);rw[length_map,pl]at z;omega
      refine⟨_,rfl,_,rfl,m,S,RM,n2,30,rfl,M8,by have:=O.lb;omega,by decide,λ d p H9 hg s9 _ hp=>?_⟩;exact⟨a,m,w,l,n,_,n2,S,R,RM,i,p,d,_,_,_,_,_,rfl,W8.same s9,M8.same s9,dj,O,by omega,rfl,hp,hg,(rt (by omega)).step d,λ R' H' v5 v6 v7 v8 v9 v10 v11 v12 k gr L' M' dj'=>⟨_,R',v5,v6,v7,v8,v9,v10,v11,v12,rfl,(K8.same s9).tr k (λ x hx=>by
        rcases List.mem_append.mp hx with hx|hx
        . exact gX x hx
        . exact .inl (by rw[hX];exact mem_append_right _ hx)),L',M',dj',λ x hx=>(gr x hx).elim (gX x) λ z => .inr (K8.2 x (s9.free z)),O.step hg (by omega),λ z=>by omega,λ _=>(rt (by omega)).step d⟩⟩
  . rintro σ H8 ⟨S,R,v5,v6,v7,v8,v9,v10,v11,v12,rfl,K8,W8,M8,dj,gX,O,hw,rt⟩;exact⟨a,m,w,n,S,R,RM,was.length+t,_,_,_,_,_,_,_,_,_,rfl,W8,M8,O,by omega,dj,rt (by omega),q⟩
end
local macro_rules|`(tactic| walk_at "b1") => `(tactic| exact λ _ _ _ _ _ _ us hl=>by(obtain⟨_,h⟩:=L2.us1 us hl;subst h;rfl))
local macro_rules|`(tactic| walk_at "b2") => `(tactic| exact λ _ _ _ _ _ _ us hl=>by(obtain⟨_,_,h⟩:=L2.us2 us hl;subst h;rfl))
local macro_rules|`(tactic| walk_at "b3") => `(tactic| exact λ _ _ _ _ _ _ us hl=>by(obtain⟨_,_,_,h⟩:=L2.us3 us hl;subst h;rfl))
theorem all_mk {l:PySem.W.OpenLaw}{w:World}{K:Frag}{h:Heap}{mg:Str->Option Value}{fa:Addr}(X:K.In h)(G:h.Ns mainGlobals mg)(hfa:mg "law"=some (.ref fa)){QaO Qaf Qag Qah Qai Qaj Qak Qab Qad:Addr}{QaP QaQ QaR QaS QaT QaU:Tok}{QaH:Addr}{QcT:Option Addr}{QcU:Nat}{QcV:Array (Option Value)}{QcW QcX:Tok}{QaI:Addr}{QcY:Option Addr}{QcZ:Nat}{Qc0:Array (Option Value)}{Qc1 Qc2:Tok}(Qbu:nsIn K mainGlobals "isinstance"=some none)(Qbv:nsIn K mainGlobals "int"=some none)(Qbw:nsIn K mainGlobals "bool"=some none)(Qbx:nsIn K mainGlobals "tuple"=some none)(Qby:nsIn K mainGlobals "len"=some none)(Qbz:nsIn K mainGlobals "range"=some none)(QbA:nsIn K mainGlobals "list"=some none)(QbB:nsIn K mainGlobals "str"=some none)(QbC:nsIn K mainGlobals "min"=some none)(QbD:nsIn K mainGlobals "max"=some none)(QbE:nsIn K mainGlobals "sorted"=some none)(QbF:nsIn K mainGlobals "enumerate"=some none)(QbG:nsIn K mainGlobals "ValueError"=some none)(QbH:nsIn K mainGlobals "LandError"=some (some (.ref QaO)))(QbI:nsIn K mainGlobals "NoText"=some (some (.ref Qaf)))(QbJ:nsIn K mainGlobals "OutOfBound"=some (some (.ref Qag)))(QbK:nsIn K mainGlobals "Taken"=some (some (.ref Qah)))(QbL:nsIn K mainGlobals "NoPerson"=some (some (.ref Qai)))(QbM:nsIn K mainGlobals "Gone"=some (some (.ref Qaj)))(QbN:nsIn K mainGlobals "TooDeep"=some (some (.ref Qak)))(QbO:excIn K Qaj bmV "ValueError.__new__"=true)(QbP:findIn K (.ref Qaj) "__getattribute__"=some (some (.builtin "BaseException.__getattribute__")))(QbQ:findIn K (.ref Qaj) "__getattr__"=some none)(QbR:findIn K (.ref Qaj) "__class__"=some (some (.builtin "object.__class__")))(QbS:subIn K (.ref Qaj) (.type "object")=some true)(QbT:subIn K (.ref Qaj) (.type "BaseException")=some true)(QbU:excIn K Qai bmV "ValueError.__new__"=true)(QbV:findIn K (.ref Qai) "__getattribute__"=some (some (.builtin "BaseException.__getattribute__")))(QbW:findIn K (.ref Qai) "__getattr__"=some none)(QbX:findIn K (.ref Qai) "__class__"=some (some (.builtin "object.__class__")))(QbY:subIn K (.ref Qai) (.type "object")=some true)(QbZ:subIn K (.ref Qai) (.type "BaseException")=some true)(Qb0:excIn K Qaf bmV "ValueError.__new__"=true)(Qb1:findIn K (.ref Qaf) "__getattribute__"=some (some (.builtin "BaseException.__getattribute__")))(Qb2:findIn K (.ref Qaf) "__getattr__"=some none)(Qb3:findIn K (.ref Qaf) "__class__"=some (some (.builtin "object.__class__")))(Qb4:subIn K (.ref Qaf) (.type "object")=some true)(Qb5:subIn K (.ref Qaf) (.type "BaseException")=some true)(Qb6:excIn K Qag bmV "ValueError.__new__"=true)(Qb7:findIn K (.ref Qag) "__getattribute__"=some (some (.builtin "BaseException.__getattribute__")))(Qb8:findIn K (.ref Qag) "__getattr__"=some none)(Qb9:findIn K (.ref Qag) "__class__"=some (some (.builtin "object.__class__")))(Qca:subIn K (.ref Qag) (.type "object")=some true)(Qcb:subIn K (.ref Qag) (.type "BaseException")=some true)(Qcc:excIn K Qah bmV "ValueError.__new__"=true)(Qcd:findIn K (.ref Qah) "__getattribute__"=some (some (.builtin "BaseException.__getattribute__")))(Qce:findIn K (.ref Qah) "__getattr__"=some none)(Qcf:findIn K (.ref Qah) "__class__"=some (some (.builtin "object.__class__")))(Qcg:subIn K (.ref Qah) (.type "object")=some true)(Qch:subIn K (.ref Qah) (.type "BaseException")=some true)(Qci:excIn K Qak bmV "ValueError.__new__"=true)(Qco:findIn K (.ref Qak) "__getattribute__"=some (some (.builtin "BaseException.__getattribute__")))(Qcp:findIn K (.ref Qak) "__getattr__"=some none)(Qcq:findIn K (.ref Qak) "__class__"=some (some (.builtin "object.__class__")))(Qcr:subIn K (.ref Qak) (.type "object")=some true)(Qcs:subIn K (.ref Qak) (.type "BaseException")=some true)(Qct:nsIn K mainGlobals "Lives"=some (some (.ref Qab)))(pg_Lives:plainGet K Qab Str.empty=true)(hd_Lives:hasDictIn K Qab=true)(po_Lives:plainOver K Qab=true)(sa_Lives:findIn K (.ref Qab) "__setattr__"=some (some (.builtin "object.__setattr__")))(na_Lives_births:findIn K (.ref Qab) "births"=some none)(na_Lives_deaths:findIn K (.ref Qab) "deaths"=some none)(na_Lives_broods:findIn K (.ref Qab) "broods"=some none)(Qcu:nsIn K mainGlobals "World"=some (some (.ref Qad)))(pg_World:plainGet K Qad Str.empty=true)(hd_World:hasDictIn K Qad=true)(po_World:plainOver K Qad=true)(sa_World:findIn K (.ref Qad) "__setattr__"=some (some (.builtin "object.__setattr__")))(na_World_year:findIn K (.ref Qad) "year"=some none)(na_World_lives:findIn K (.ref Qad) "lives"=some none)(na_World_happened:findIn K (.ref Qad) "happened"=some none)(Qcv:nsIn K mainGlobals "LONGEST_WORD"=some (some (.int 8 QaP)))(Qcw:nsIn K mainGlobals "LONGEST_NUMBER"=some (some (.int 2 QaQ)))(Qcx:nsIn K mainGlobals "MOST_NUMBERS"=some (some (.int 5 QaR)))(Qcy:nsIn K mainGlobals "BARRED"=some (some (.ref QaH)))(lk_BARRED:K.lookup QaH=some ⟨.type "tuple",QcT, .seq #[.str "crown" QcW, .str "kids" QcX] QcU,QcV⟩)(Qcz:nsIn K mainGlobals "NOUGHT"=some (some (.ref QaI)))(lk_NOUGHT:K.lookup QaI=some ⟨.type "tuple",QcY, .seq #[.int 0 Qc1, .int 1 Qc2] QcZ,Qc0⟩)(QcA:nsIn K mainGlobals "LAST_FIRST_YEAR"=some (some (.int 9999 QaS)))(QcB:nsIn K mainGlobals "MOST_YEARS"=some (some (.int 60 QaT)))(QcC:nsIn K mainGlobals "OLDEST"=some (some (.int 120 QaU)))(mk_Lives:makesIn K Qab=true)(kc_Lives:keepIn K (.ref Qab)=true)(mk_World:makesIn K Qad=true)(kc_World:keepIn K (.ref Qad)=true)(p0:GlP K "within" Zcz)(p1:GlP K "good_word" JK)(p2:GlP K "want_word" JB)(p3:GlP K "good_number" XC)(p4:GlP K "parts" ZdX)(p5:GlP K "shortened" JC)(p6:GlP K "parent_of" JD)(p7:MtP K Qab "__init__" "Lives.__init__" YN)(p8:MtP K Qab "enter" "Lives.enter" XI)(p9:MtP K Qab "known" "Lives.known" XH)(p10:MtP K Qab "want_known" "Lives.want_known" Yw)(p11:MtP K Qab "alive" "Lives.alive" XM)(p12:MtP K Qab "want_alive" "Lives.want_alive" Yx)(p13:MtP K Qab "arrive" "Lives.arrive" Xl)(p14:MtP K Qab "birth" "Lives.birth" XL)(p15:MtP K Qab "death" "Lives.death" XJ)(p16:MtP K Qab "age_in" "Lives.age_in" Xm)(p17:MtP K Qab "children" "Lives.children" YM)(p18:MtP K Qab "names" "Lives.names" XG)(p19:GlP K "common" ZcC)(p20:GlP K "lowest" ZcA)(p21:GlP K "plus" Zfl)(p22:GlP K "times" ZdW)(p23:GlP K "ledger_of" JE)(p24:GlP K "mixed" ZdY)(p25:GlP K "line" Zfm)(p26:GlP K "heirs" ZdZ)(p27:GlP K "want_between" Xh)(p28:MtP K Qad "__init__" "World.__init__" YL)(p29:MtP K Qad "pass_years" "World.pass_years" Yv)(p30:MtP K Qad "arrive" "World.arrive" Xk)(p31:MtP K Qad "birth" "World.birth" XF)(p32:MtP K Qad "death" "World.death" XD)(p33:MtP K Qad "comes" "World.comes" XE)(p34:MtP K Qad "age" "World.age" JL)(p35:GlP K "_law_num" Zbl)(p36:GlP K "_law_cell_at" XB)(p37:GlP K "_law_rich" Zax)(p38:GlP K "_law_word" Zaw)(p39:GlP K "_law_common" X7)(p40:GlP K "_law_low" Zbm)(p41:GlP K "_law_sum" Zbk)(p42:GlP K "_law_is_share" Xi)(p43:GlP K "_law_is_ledger" Y5)(p44:GlP K "_law_total" JF)(p45:GlP K "_law_listed" X6)(p46:GlP K "_law_model" JH)(p47:GlP K "_law_kids" Zaz)(p48:GlP K "_law_living" X5)(p49:GlP K "_law_play" Zay)(p50:GlP K "_law_next_deed" Zy)(p51:GlP K "_law_start" JG)(p52:GlP K "_law_do" ZcB)(p53:GlP K "_law_dealt" JI)(p54:GlP K "_law_below" JJ)(p55:GlP K "_law_fits" Xj)(p56:GlP K "law" ZaZ)
    : ∃(g:Ga)(fd:FuncData),(∀(s:Shared)(v:Value),BindsTo s fd ⟨[v],[]⟩ [("_law_script",v)])/\∀ base:Heap,K.In base->base.Ns mainGlobals mg->FnOk l.prog w K mg base CX0 15 fa fd ["_law_script"] (ZdO K g):=by
  have T:Txt K ({ LandError:=QaO,NoText:=Qaf,OutOfBound:=Qag,Taken:=Qah,NoPerson:=Qai,Gone:=Qaj,TooDeep:=Qak,Lives:=Qab,World:=Qad,LONGEST_WORD:=QaP,LONGEST_NUMBER:=QaQ,MOST_NUMBERS:=QaR,BARRED:=QaH,NOUGHT:=QaI,LAST_FIRST_YEAR:=QaS,MOST_YEARS:=QaT,OLDEST:=QaU }:Ga) mg:=⟨mg_none_of X G Qbu,mg_none_of X G Qbv,mg_none_of X G Qbw,mg_none_of X G Qbx,mg_none_of X G Qby,mg_none_of X G Qbz,mg_none_of X G QbA,mg_none_of X G QbB,mg_none_of X G QbC,mg_none_of X G QbD,mg_none_of X G QbE,mg_none_of X G QbF,mg_none_of X G QbG,mg_of X G QbH,mg_of X G QbI,mg_of X G QbJ,mg_of X G QbK,mg_of X G QbL,mg_of X G QbM,mg_of X G QbN,⟨QbO,QbP,QbQ,QbR,QbS,QbT⟩,⟨QbU,QbV,QbW,QbX,QbY,QbZ⟩,⟨Qb0,Qb1,Qb2,Qb3,Qb4,Qb5⟩,⟨Qb6,Qb7,Qb8,Qb9,Qca,Qcb⟩,⟨Qcc,Qcd,Qce,Qcf,Qcg,Qch⟩,⟨Qci,Qco,Qcp,Qcq,Qcr,Qcs⟩,mg_of X G Qct,⟨pg_Lives,hd_Lives,po_Lives,sa_Lives⟩,na_Lives_births,na_Lives_deaths,na_Lives_broods,mg_of X G Qcu,⟨pg_World,hd_World,po_World,sa_World⟩,na_World_year,na_World_lives,na_World_happened,mg_of X G Qcv,mg_of X G Qcw,mg_of X G Qcx,mg_of X G Qcy,λ _ => .inr ⟨_,_,_,lk_BARRED,rfl,rfl,by show 2<=sizeLine;decide, .cons ⟨_,rfl⟩ (.cons ⟨_,rfl⟩ (.nil))⟩,mg_of X G Qcz,λ _ => .inr ⟨_,_,_,lk_NOUGHT,rfl,rfl,by show 2<=sizeLine;decide, .cons ⟨_,rfl⟩ (.cons ⟨_,rfl⟩ (.nil))⟩,mg_of X G QcA,mg_of X G QcB,mg_of X G QcC⟩;obtain⟨fd,bl,Fl⟩:=la_gl (l:="_law_script") X G hfa p56 (λ _ _ _ _ _ _ s v => .of_eq rfl);refine⟨{ LandError:=QaO,NoText:=Qaf,OutOfBound:=Qag,Taken:=Qah,NoPerson:=Qai,Gone:=Qaj,TooDeep:=Qak,Lives:=Qab,World:=Qad,LONGEST_WORD:=QaP,LONGEST_NUMBER:=QaQ,MOST_NUMBERS:=QaR,BARRED:=QaH,NOUGHT:=QaI,LAST_FIRST_YEAR:=QaS,MOST_YEARS:=QaT,OLDEST:=QaU },fd,bl,λ base _ _=>?_⟩;generalize hg:({ LandError:=QaO,NoText:=Qaf,OutOfBound:=Qag,Taken:=Qah,NoPerson:=Qai,Gone:=Qaj,TooDeep:=Qak,Lives:=Qab,World:=Qad,LONGEST_WORD:=QaP,LONGEST_NUMBER:=QaQ,MOST_NUMBERS:=QaR,BARRED:=QaH,NOUGHT:=QaI,LAST_FIRST_YEAR:=QaS,MOST_YEARS:=QaT,OLDEST:=QaU }:Ga)=g at T;have e_Lives:Qab=g.Lives:=by rw[<- hg]
  have e_World:Qad=g.World:=by rw[<- hg]
  have Qat:Zc7 l.prog w K g mg base:=ZR X G p0 (Zgz · T) (by walk_at "b3");have Qau:JS l.prog w K g mg base:=ZR X G p1 (Zef · T Qat) (by walk_at "b1");have Qax:JP l.prog w K g mg base:=Zgc X G p2 (Zd6 · T Qau) (by walk_at "b1");have QaY:Zap l.prog w K g mg base:=ZR X G p3 (ZcJ · T Qat) (by walk_at "b1");have QaZ:Zgh l.prog w K g mg base:=Zgc X G p4 (Zhn · T Qau QaY) (by walk_at "b1");have Qa0:ZbM l.prog w K g mg base:=ZR X G p5 (Zd7 · T) (by walk_at "b1");have Qa7:ZbN l.prog w K g mg base:=ZR X G p6 (Zd8 · T QaZ Qa0) (by walk_at "b1");have Qa8:Ze3 l.prog w K g mg base:=dk_mt T.QcL (e_Lives▸mk_Lives) (e_Lives▸kc_Lives) (e_Lives▸p7) (Za7 · T) (by walk_at "b1");have Qay:XQ l.prog w K g mg base:=Y4 T.Qaa (e_Lives▸p8) (ZcP · T) (by walk_at "b3");have Qav:XO l.prog w K g mg base:=Y4 T.Qaa (e_Lives▸p9) (ZcO · T) (by walk_at "b2");have Qae:ZY l.prog w K g mg base:=Y4 T.Qaa (e_Lives▸p10) (Zae · T Qav) (by walk_at "b2");have Qaw:XR l.prog w K g mg base:=Y4 T.Qaa (e_Lives▸p11) (ZcS · T) (by walk_at "b2");have Qaz:Yy l.prog w K g mg base:=Y4 T.Qaa (e_Lives▸p12) (Zaf · T Qae Qaw) (by walk_at "b2");have Qa9:JU l.prog w K g mg base:=Y4 T.Qaa (e_Lives▸p13) (Zb1 · T Qax Qav Qay) (by walk_at "b3");have Qba:Zau l.prog w K g mg base:=Y4 T.Qaa (e_Lives▸p14) (ZcR · T Qaz Qay) (by walk_at "b3");have Qbb:Zat l.prog w K g mg base:=Y4 T.Qaa (e_Lives▸p15) (ZcQ · T Qaz) (by walk_at "b3");have Qbc:JV l.prog w K g mg base:=Y4 T.Qaa (e_Lives▸p16) (Zb2 · T Qae) (by walk_at "b3");have Qa6:XZ l.prog w K g mg base:=Y4 T.Qaa (e_Lives▸p17) (Za6 · T Qae) (by walk_at "b2");have Qc5:Dm l.prog w K mg base CX0 g.Lives 1 "names" ["self"] (Jt K g):=Y4 T.Qaa (e_Lives▸p18) (ZcN · T) (by walk_at "b1");have Qa1:Ze6 l.prog w K g mg base:=ZR X G p19 (ZgC · T) (by walk_at "b2");have QaA:Zc8 l.prog w K g mg base:=ZR X G p20 (ZgA · T Qa1) (by walk_at "b2");have Qa3:Zh1 l.prog w K g mg base:=ZR X G p21 (Ziy · T QaA) (by walk_at "b2");have Qa4:Zgg l.prog w K g mg base:=ZR X G p22 (Zhm · T QaA) (by walk_at "b2");have Qa2:ZbO l.prog w K g mg base:=ZR X G p23 (Zd9 · T) (by walk_at "b1");have Qa5:Zgi l.prog w K g mg base:=ZR X G p24 (Zho · T Qa2 Qa3 Qa4) (by walk_at "b1");have QaE:Zh2 l.prog w K g mg base:=Zhe (d:=4) X G p25 Zb8 ZiB (λ F D=>Ziz F T Qaw Qa5 Qa6 D) (by walk_at "b2") 7;have Qan:Zev l.prog w K g mg base:=Zgc X G p26 (Zhp · T Qae QaE Qa7) (by walk_at "b2");have Qal:YJ l.prog w K g mg base:=Zgc X G p27 (ZbY · T) (by walk_at "b3");have Qbt:Ze2 l.prog w K g mg base:=dk_mt T.QcM (e_World▸mk_World) (e_World▸kc_World) (e_World▸p28) (Za5 · T Qal Qa8) (by walk_at "b2");have Qbi:Xq l.prog w K g mg base:=Y4 T.Qac (e_World▸p29) (Zad · T Qal) (by walk_at "b2");have Qbj:JT l.prog w K g mg base:=Y4 T.Qac (e_World▸p30) (Zb0 · T Qal Qa9) (by walk_at "b3");have Qbk:Zas l.prog w K g mg base:=Y4 T.Qac (e_World▸p31) (ZcM · T Qba) (by walk_at "b2");have Qbl:Zaq l.prog w K g mg base:=Y4 T.Qac (e_World▸p32) (ZcK · T Qbb) (by walk_at "b2");have Qbh:Zar l.prog w K g mg base:=Y4 T.Qac (e_World▸p33) (ZcL · T Qax) (by walk_at "b2");have Qc6:Dm l.prog w K mg base (CXR l.prog w base) g.World 4 "age" ["self","name"] (ZaS K g):=Y4 T.Qac (e_World▸p34) (Zeg · T Qbc) (by walk_at "b2");have QaK:ZdG l.prog w K g mg base:=ZR X G p35 (Zfu · T) (by walk_at "b1");have QaG:Zao l.prog w K g mg base:=ZR X G p36 (ZcI · T) (by walk_at "b2");have QaF:Zc9 l.prog w K g mg base:=ZR X G p37 (ZeQ · T) (by walk_at "b2");have Qaq:ZaG l.prog w K g mg base:=ZR X G p38 (ZeP · T) (by walk_at "b1");have QaB:Ja l.prog w K g mg base:=ZR X G p39 (Zdj · T) (by walk_at "b2");have Qbd:ZdH l.prog w K g mg base:=ZR X G p40 (Zfv · T QaB) (by walk_at "b2");have Qap:Zby l.prog w K g mg base:=ZR X G p41 (Zft · T Qbd) (by walk_at "b2");have Qbe:JQ l.prog w K g mg base:=ZR X G p42 (ZbZ · T QaB QaK) (by walk_at "b1");have Qbn:Jk l.prog w K g mg base:=ZR X G p43 (Zbs · T Qbe) (by walk_at "b1");have Qbo:ZbP l.prog w K g mg base:=ZR X G p44 (Zea · T Qap) (by walk_at "b1");have Qbm:Zbh l.prog w K g mg base:=ZR X G p45 (Zdi · T) (by walk_at "b1");have Qbp:ZbR l.prog w K g mg base:=ZR X G p46 (Zec · T) (by walk_at "b1");have Qbf:Zdb l.prog w K g mg base:=ZR X G p47 (ZeS · T) (by walk_at "b2");have Qbg:Zbg l.prog w K g mg base:=ZR X G p48 (Zdh · T) (by walk_at "b1");have QaM:Zda l.prog w K g mg base:=ZR X G p49 (ZeR · T Qbf) (by walk_at "b2");have Qbr:Jj l.prog w K g mg base:=ZR X G p50 (Zbr · T Qbg Qaq) (by walk_at "b3");have Qbq:ZbQ l.prog w K g mg base:=ZR X G p51 (Zeb · T Qaq) (by walk_at "b1");have QaL:Ze5 l.prog w K g mg base:=ZR X G p52 (ZgB · T Qbh Qbi Qbj Qbk Qbl) (by walk_at "b2");have Qbs:ZbS l.prog w K g mg base:=ZR X G p53 (Zed · T Qbm Qap) (by walk_at "b3");have QaC:JR l.prog w K g mg base:=ZR X G p54 (Zee · T) (by walk_at "b2");have QaN:Zdc l.prog w K g mg base:=ZR X G p55 (ZeT · T Qan Qbn Qbo QaC) (by walk_at "b3");exact ok_law Fl T QaF Qbp Qbq QaG QaL QaM Qan Qbr QaN Qbs QaC Qbt
theorem walk {l:PySem.W.OpenLaw}{q:Program}{loose:List Str}{XP:(Str->Option Value)->Heap->Prop}{YP:World->Heap->Prop}{d:DefRec}{K:Params->Frag}(hn:l.most=some 63)(hdf:d.params.defaults=[])(hY:∀(w:World)(h:Heap),YP w h->(K w.params).In h)(F:∀(w:World)(mg:Str->Option Value)(fa:Addr)(h:Heap),(K w.params).In h->h.Ns mainGlobals mg->mg d.name=some (.ref fa) ->
      ∃(g:Ga)(fd:FuncData),(∀(s:Shared)(u:Value),BindsTo s fd ⟨[u],[]⟩ [("_law_script",u)])/\∀ base:Heap,(K w.params).In base->base.Ns mainGlobals mg->FnOk l.prog w (K w.params) mg base CX0 15 fa fd ["_law_script"] (ZdO (K w.params) g)) :
    PySem.W.WalkO q loose XP YP l.row.toRowW d [] (λ f vs=>PySem.call f vs):=
  L2.walk_of (n:=63) (k:=15) (x:="_law_script") (CX:=λ _=>CX0) (sp:=λ w=>ZdO (K w.params) {}) hn (by decide) hdf ⟨rfl,by decide,by decide⟩ hY (λ w mg fa h a b c=>(F w mg fa h a b c).elim λ _ z=>z) (λ _ _ a ns hl _ hS=>⟨a,ns,rfl,hS,hl,λ _=>rfl⟩) λ _ _ _ _ _ z=>z
end My
namespace PySem.W
set_option genInjectivity false in
set_option genSizeOfSpec false in
structure Fast:Prop where
  (tw11045239449463986919 tw6465219198145871803 tw7733267622625292862 tw4513461352199365890 tw3374372529959389629 tw13022898552758440572 tw14591874691818306455 tw15908131569571056799 tw13277659577148322058 tw964516997581155874 tw4529508093590223989 tw3340444380344771172 tw13094707659428498295 tw4658570746328769883 tw13978257435572168028 tw6616562814406459859 tw15301631517149873948 tw2804826109690730061 tw15082817121816362373 tw2398390101603105636 tw7031601549559549738 tw12463986217386817656 tw12826977728761547184 tw1409288655279231339 tw116889192915228652 tw6444988266562309440 tw15124999250615852391 tw12284267562251227251 tw11117705514826377851 tw7848172072361339097 tw10989251297888834392 tw18102996886163544529 tw4003743305331922013 tw10808242614464898413 tw18141209309110616123 tw9384483215551085649 tw10439235189562833368 tw10968243601474407150 tw7433557746970626673 tw9728196839938908523 tw9051506922696171817 tw5004432061967863299 tw2062492954389300841 tw17581175476549649359 tw4868589469353999140 tw12636250346612232205 tw12708288363272896935 tw5202499197010464900 tw1840248523292536662 tw2513546080509992894 tw13836931758855409102 tw1108882797198759568 tw26924225258299932 tw10312605700338867234 tw11624873637875022433 tw5459201256017053370 tw872854067450162846 tw7911018531819777561 tw3129436044501956510 tw17492081340187245119 tw3622472196475163046 tw12926867629523457845 tw10196433065315505549 tw9833696010466896893 tw15454454565358547917 tw161345563156006144 tw16712124453693469849 tw2486436858795146248 tw8578086566377038233 tw11689950827280038928 tw10237577314311854248 tw7037851725699871080 tw1274056236806250613 tw12947774807126680069 tw769869051731799852 tw14380875201964410839 tw16660948997838295302 tw2764552893884593048 tw5643421627407878488 tw13790086751551598229 tw9484106206006710624 tw16855984391302205553 tw16878595201009597 tw11394357486933499975 tw18178913057546768656 tw14512033452896579378 tw4717575902005325476 tw3378457778763014349 tw10225351966181617625 tw17586502189042358804 tw7313055737721923639 tw345451068733461684 tw10698241820316046407 tw15074494814272944443 tw12623068691101339187 tw14073059263634697778 tw15955636024930374997 tw1012585751801336820 tw17604703462548348248 tw268218961061674277 tw12420580261736536244 tw18411429085501055026 tw6723407517910295685 tw15247912354710113219 tw3011904132403974231 tw14469541333676558889 tw8518745199568729035 tw14135735161470408491 tw16689824443860856571 tw13270645419622959582 tw7103414397919268467 tw6050158603170656091 tw15296979874332179747 tw5816646389208563717 tw4047884281965384641 tw14341187370272392713 tw5824736745365497978 tw6982614806901487192 tw5174932092788543029 tw16143558084676689260 tw4553437532225988325 tw16054586036481745320 tw9777877231927537009 tw749758827115203905 tw12228710157033286579 tw6839556577581030481 tw15776928277805750341 tw11381958349707852987 tw12730940398219597414 tw8697903428080263971 tw11187502861701756315 tw12191559998618774096 tw2781462860906962707 tw15220310393952557369 tw16211550944458958040 tw14375281387667383356 tw7663100116595819287 tw17425899391375064766 tw7252747361074399469 tw13795700020275409149 tw18045808786374248708 tw3252496658705462627 tw507640295957007040 tw17234772259119119854 tw7473945592018270147 tw2999125067799724899 tw7051886831370140697 tw4604862885762349581 tw16969400834613847292 tw15531307549161663184 tw14155256817637564115 tw16446095723993886130 tw13067181973718295482 tw1644660897517810945 tw6559976734795044976 tw16361581675268604382 tw14343845637955295572 tw14625620359366140189 tw7646942570201321888 tw5974617733543056066 tw16994343140697524569 tw13518231114392148444 tw14218142688380679214 tw12409481776488314448 tw11533274211347308863 tw12095641748611158498 tw9504895850403381845 tw8361909486877406524 tw11684364618083535616 tw8183025226006529981 tw2732358209871852223 tw3795415456533468064 tw12433855984458731905 tw12785857968426835327 tw3093672702510100982 tw17414090930435866839 tw15779852003020653018 tw6498003349890397323 tw7768149015495761885 tw2111947440541415529 tw9824319919555277359 tw10562111983544964900 tw12307002495006745289 tw15731733371655242225 tw18378353122400509931 tw14552306243576293130 tw17416215337338174854 tw2889892199350812511 tw5074312315563164453 tw16633280409591753967 tw7600676768546562309 tw3544115756445917446 tw7118539328954099157 tw12311890693441963709 tw12785051369495149789 tw8443151321590088614 tw8937750022252547301 tw11194507565126808984 tw9223452779877731722 tw292642059871816496 tw9292006774863416177 tw5780998431463331235 tw12466479338924269538 tw14070140525956812808 tw11568244385260249809 tw14661978015444608689 tw12997195984173934849 tw2689479623188587731 tw14608256860363730876 tw15096080844125630912 tw978447720085503734 tw4696117200168942972 tw13042468981312474833 tw1966843858123844768 tw13367442982766601907 tw4082456408128861502 tw12648463305467995037 tw6693900817908084964 tw18174247585297050804 tw11461837286616537203 tw14192777330995309445 tw7145702805528122926 tw9600054872479616888 tw6618233528243904014 tw5685231149750887929 tw11015179091813941019 tw6277890175024698989 tw4721464539795464446 tw11002426925892891053 tw762545812956529203 tw14607061714107546147 tw9602991156555297647 tw8241069857837178823 tw5306962856455394972 tw6005899873171488259 tw16567256718954708266 tw1610378946220284175 tw14261006710961775389 tw15731599801146478885 tw9442599548456923618 tw15385444744949103137 tw1982560263392016341 tw11055161258424115665 tw3810447232372949931 tw1255097307173096776 tw6395221535428332032 tw12769053960811361967 tw14345355964694366392 tw13152433125342442147 tw10388677734999014315 tw8723560757125953724 tw16561657410429014998 tw3596320782077224695 tw533732633300194877 tw17909332464779793423 tw1190574673422336623 tw2599128965254558971 tw14058446416296289032 tw1277163889152709326 tw18181791611321893870 tw3471946112019172805 tw5254372455486983612 tw13526797788589504961 tw15963957535153693885 tw13517798170277464073 tw4584720501664749954 tw14520646039792120838 tw6343202219822150004 tw16628620626693932028 tw8010662493856562444 tw10154814368931033478 tw12226098401979699162 tw3855156754347947500 tw17579840739306089031 tw3642634651118904161 tw5175352342543255603 tw5287367324084263933 tw9625378702206856829 tw9653198243095847489 tw15438663903660856806 tw18335650581517557023 tw15924017713036385387 tw973434689484816515 tw17686369792995721954 tw14708194671715508552 tw6625030891601819456 tw15194092493833867687 tw17260483924200369557 tw1099079933832200836 tw1786802692574652486 tw1046016083526152044 tw2985458451259392344 tw2345053437835561034 tw18262110790106659961 tw10774473487020103529 tw708727139915044562 tw16559656534880920262 tw14548658401060535578 tw5456378274579478270 tw7029339725127688639 tw5120792255338395676 tw17862432460180563620 tw16027445354917481266 tw9538353500868398403 tw14563858318844851041 tw17584835099456407426 tw6096044204573626760 tw18400958760928788877 tw9203964692673638379 tw4543364367483921995 tw17080219963433225631 tw11321339550655840316 tw10258852274023684836 tw8450734826005815682 tw10705947467736008321 tw12752916635538335325 tw3055565727292139550 tw1197863294304477799 tw13430618871784613282 tw6029089374295420400 tw4531786450548421215 tw18070655542456649963 tw6547222928971876168 tw10059120305465732287 tw6277318253824786479 tw14317338809375728080 tw2746810693764197544 tw9841067406715228188 tw15922757791525716633 tw11479893138116500440 tw8393352667656524216 tw1454585724788720543 tw82721204478067838 tw8654789422412366427 tw16566899186927923909 tw12546175058712404571 tw10152435696038800142 tw17068231893590535052 tw7531401579664853419 tw18350756883490356485 tw6845709260259694910 tw7338830725321431913 tw10632716993877177512 tw11310329109890443371 tw4215785196904961039 tw12415621579820523059 tw6296992309587526794 tw11001751600640000810 tw5717662107026107089 tw2557331650270495915 tw139577703983208274 tw6600592822591009470 tw11665633730524948018 tw4417723034850586914 tw15206632694137241719 tw1094647539669370579 tw624727507438996144 tw593960796439765884 tw15991566404293649201 tw1244455642423438029 tw8705103393801671700 tw15185561795959988535 tw11879756511246222695 tw13759111041201597799 tw8276062318025518489 tw5106102222598406037 tw13078806210617935614 tw8288268434220663711 tw1178735781433193607 tw2663499630926361536 tw12785311862714614216 tw5394848038741919422 tw9579823932864306471 tw12862254638160477200 tw720396260350666185 tw7766159465928059611 tw13721699693212768834 tw7289909241209757786 tw600285423967793031 tw12261710684095847828 tw10816947488933812274 tw11972740289467468390 tw15710956733827889816 tw18323517483410982986 tw5913746311761137524 tw12825999600827595060 tw10513352407495560800 tw15654562592312684514 tw471423663366533772 tw1689757049221603787:True)
end PySem.W
open PySem PySem.W PyProof.Rows
set_option maxRecDepth 100000 in
set_option maxHeartbeats 0 in
theorem PySem.Challenge.cw_deadhand_k20_whole_heirs_of_heirs_holds : PySem.Challenge.rw_deadhand_k20_whole_heirs_of_heirs.Holds := by
  w_on; o_law; z_head; (case hw=>w_witness2)
  refine L2.walkX_of (by intro P; exact rfl) (My.walk (l:=PySem.Challenge.rw_deadhand_k20_whole_heirs_of_heirs) rfl rfl (fun w h Y=>Y) ?F)
  case F =>
    intro w mg fa h KX G hmg;refine' My.all_mk KX G hmg ?Qbu ?Qbv ?Qbw ?Qbx ?Qby ?Qbz ?QbA ?QbB ?QbC ?QbD ?QbE ?QbF ?QbG ?QbH ?QbI ?QbJ ?QbK ?QbL ?QbM ?QbN ?QbO ?QbP ?QbQ ?QbR ?QbS ?QbT ?QbU ?QbV ?QbW ?QbX ?QbY ?QbZ ?Qb0 ?Qb1 ?Qb2 ?Qb3 ?Qb4 ?Qb5 ?Qb6 ?Qb7 ?Qb8 ?Qb9 ?Qca ?Qcb ?Qcc ?Qcd ?Qce ?Qcf ?Qcg ?Qch ?Qci ?Qco ?Qcp ?Qcq ?Qcr ?Qcs ?Qct ?pg_Lives ?hd_Lives ?po_Lives ?sa_Lives ?na_Lives_births ?na_Lives_deaths ?na_Lives_broods ?Qcu ?pg_World ?hd_World ?po_World ?sa_World ?na_World_year ?na_World_lives ?na_World_happened ?Qcv ?Qcw ?Qcx ?Qcy ?lk_BARRED ?Qcz ?lk_NOUGHT ?QcA ?QcB ?QcC ?mk_Lives ?kc_Lives ?mk_World ?kc_World ?p0 ?p1 ?p2 ?p3 ?p4 ?p5 ?p6 ?p7 ?p8 ?p9 ?p10 ?p11 ?p12 ?p13 ?p14 ?p15 ?p16 ?p17 ?p18 ?p19 ?p20 ?p21 ?p22 ?p23 ?p24 ?p25 ?p26 ?p27 ?p28 ?p29 ?p30 ?p31 ?p32 ?p33 ?p34 ?p35 ?p36 ?p37 ?p38 ?p39 ?p40 ?p41 ?p42 ?p43 ?p44 ?p45 ?p46 ?p47 ?p48 ?p49 ?p50 ?p51 ?p52 ?p53 ?p54 ?p55 ?p56
    (case Qbu=>k_is)
    (case Qbv=>k_is)
    (case Qbw=>k_is)
    (case Qbx=>k_is)
    (case Qby=>k_is)
    (case Qbz=>k_is)
    (case QbA=>k_is)
    (case QbB=>k_is)
    (case QbC=>k_is)
    (case QbD=>k_is)
    (case QbE=>k_is)
    (case QbF=>k_is)
    (case QbG=>k_is)
    (case QbH=>k_is)
    (case QbI=>k_is)
    (case QbJ=>k_is)
    (case QbK=>k_is)
    (case QbL=>k_is)
    (case QbM=>k_is)
    (case QbN=>k_is)
    (case QbO=>k_exc)
    (case QbP=>k_is)
    (case QbQ=>k_is)
    (case QbR=>k_is)
    (case QbS=>k_is)
    (case QbT=>k_is)
    (case QbU=>k_exc)
    (case QbV=>k_is)
    (case QbW=>k_is)
    (case QbX=>k_is)
    (case QbY=>k_is)
    (case QbZ=>k_is)
    (case Qb0=>k_exc)
    (case Qb1=>k_is)
    (case Qb2=>k_is)
    (case Qb3=>k_is)
    (case Qb4=>k_is)
    (case Qb5=>k_is)
    (case Qb6=>k_exc)
    (case Qb7=>k_is)
    (case Qb8=>k_is)
    (case Qb9=>k_is)
    (case Qca=>k_is)
    (case Qcb=>k_is)
    (case Qcc=>k_exc)
    (case Qcd=>k_is)
    (case Qce=>k_is)
    (case Qcf=>k_is)
    (case Qcg=>k_is)
    (case Qch=>k_is)
    (case Qci=>k_exc)
    all_goals (try first | (refine' L2.glp_mk ?a ?l ?c ?k; (case a=>k_is); (case l=>k_is); (case c=>k_is); (case k=>k_is)) | (refine' L2.mtp_mk ?a ?i ?l ?c ?k; (case a=>k_is); (case i=>k_is); (case l=>k_is); (case c=>k_is); (case k=>k_is)) | k_is)
