import PyProof.Rows.All
import Wide.All
import OpenK.AllK
import Wide.FinOn
import Lean
import PyProof.EqAt
import PyProof.EqKinds
import PyProof.TupleCall
import KE.KDictList
import PyProof.Rows.StrCountLaw
import KE.KIntText
import PyProof.P3In
import PySem.Challenge.RW_deadhand_k04_share_passed
open PySem.W (instObj Frag lookIn plainGet findIn isFn keepIn fnOf codeIn nsIn mg_of mg_none_of)
open Nat (lt_of_lt_of_le lt_irrefl ne_of_lt le_trans le_of_lt le_refl zero_le lt_succ_of_lt)
open List (mem_cons_self mem_cons_of_mem mem_append_right size_toArray length_cons map_cons length_map append_nil length_take getElem?_map mem_of_getElem? length_append find?_cons any_cons map_nil getElem?_eq_getElem take_length map_append nodup_append map_map map_congr_left mem_map getElem_mem length_filter_le)
open Array (length_toList)
open Option (isSome_map)
open PySem.F (slot_dict_get plainAttrs_list)
open Int (toNat_natCast emod_lt_of_pos emod_nonneg)
open PySem (boot_len)
open PyProof.Rows (boot_list boot_str)
set_option Elab.async false
set_option linter.all false
set_option maxRecDepth 100000
namespace L2
open PySem PySem.Spec PyProof.Rows
noncomputable abbrev Key:=Sum Int Str
noncomputable def XR:Key->Value->Bool
  |.inl k,v=>Value.isInt k v
  |.inr x,v=>Value.isStrOf x v
noncomputable def keyH (w:World):Key->Int
  |.inl k=>hashInt k
  |.inr x=>hashStr w x
theorem ZA:∀ {k:Key} {v:Value},XR k v=true->(∃ i t,k=Sum.inl i/\v=Value.int i t)\/(∃ x t,k=Sum.inr x/\v=Value.str x t)
  | .inl i,v,h=>by
    obtain⟨t,e⟩:=Value.isInt_shape (k:=i) (v:=v) h;exact .inl ⟨i,t,rfl,e⟩
  | .inr x,v,h=>by
    obtain⟨t,e⟩:=Value.isStrOf_shape (x:=x) (v:=v) h;exact .inr ⟨x,t,rfl,e⟩
theorem ZbE (i:Int)(t:Tok):XR (.inl i) (.int i t)=true:=by simp[XR,Value.isInt]
theorem ZbD (x:Str)(t:Tok):XR (.inr x) (.str x t)=true:=by simp[XR,Value.isStrOf]
theorem key_ll (a b:Int):decide ((Sum.inl a:Key)=Sum.inl b)=(a == b):=by
  by_cases e:a=b
  . subst e;simp
  . have h:¬ (Sum.inl a:Key)=Sum.inl b:=λ q=>e (Sum.inl.inj q);rw[decide_eq_false h];exact(beq_eq_false_iff_ne.mpr e).symm
theorem key_rr (a b:Str):decide ((Sum.inr a:Key)=Sum.inr b)=decide (a=b):=by
  by_cases e:a=b
  . subst e;simp
  . have h:¬ (Sum.inr a:Key)=Sum.inr b:=λ q=>e (Sum.inr.inj q);rw[decide_eq_false h,decide_eq_false e]
theorem key_lr (a:Int)(b:Str):decide ((Sum.inl a:Key)=Sum.inr b)=false:=decide_eq_false (λ q=>nomatch q)
theorem key_rl (a:Str)(b:Int):decide ((Sum.inr a:Key)=Sum.inl b)=false:=decide_eq_false (λ q=>nomatch q)
noncomputable def ZB (prog:Program)(w:World):PySem.KeyKind prog w Key where
  is:=XR
  hash:=keyH w
  inj:=λ v a b ha hb=>by
    rcases ZA ha with ⟨i,t,rfl,rfl⟩|⟨x,t,rfl,rfl⟩
    . rcases ZA hb with ⟨j,u,rfl,e⟩|⟨y,u,rfl,e⟩
      . injection e with e1 _;rw[e1]
      . exact nomatch e
    . rcases ZA hb with ⟨j,u,rfl,e⟩|⟨y,u,rfl,e⟩
      . exact nomatch e
      . injection e with e1 _;rw[e1]
  byValue:=λ k v h=>by
    rcases ZA h with ⟨i,t,rfl,rfl⟩|⟨x,t,rfl,rfl⟩ <;> rfl
  pyHash:=λ hv h=>by
    rcases ZA hv with ⟨i,t,rfl,rfl⟩|⟨x,t,rfl,rfl⟩
    . exact wpAny_pyHash_int h
    . exact wpAny_pyHash_str h
  eqBool:=λ hu hv h=>by
    rcases ZA hu with ⟨i,t,rfl,rfl⟩|⟨x,t,rfl,rfl⟩
    . rcases ZA hv with ⟨j,u,rfl,rfl⟩|⟨y,u,rfl,rfl⟩
      . rw[key_ll]at h;exact wpAny_eqBool_int h
      . rw[key_lr]at h;exact SeqAt.EqAt.int_str i t y u _ _ _ _ h
    . rcases ZA hv with ⟨j,u,rfl,rfl⟩|⟨y,u,rfl,rfl⟩
      . rw[key_rl]at h;exact SeqAt.EqAt.str_int x t j u _ _ _ _ h
      . rw[key_rr]at h;exact wpAny_eqBool_str h
  «strs»:=λ k x t v h=>by
    rcases ZA h with ⟨i,u,rfl,e⟩|⟨y,u,rfl,e⟩
    . exact nomatch e
    . injection e with e1 _;subst e1;cases v <;> rfl
theorem YT (prog:Program)(w:World)(i:Int)(t:Tok):(ZB prog w).is (.inl i) (.int i t)=true:=ZbE i t
theorem Zas (prog:Program)(w:World)(x:Str)(t:Tok):(ZB prog w).is (.inr x) (.str x t)=true:=ZbD x t
open PySem PySem.Spec PyProof.Rows
inductive V where
  | non|bl (b:Bool)|int (i:Int)|str (x:Str)|byt (b:Array UInt8)|flt (b:UInt64)|ref (a:Addr)|ty (n:String)
  deriving DecidableEq
noncomputable def Zq:V->Value->Prop
  |.non,u=>u=Value.none
  |.bl b,u=>u=Value.bool b
  |.int i,u=>∃ t,u=Value.int i t
  |.str x,u=>∃ t,u=Value.str x t
  |.byt b,u=>∃ t,u=Value.bytes b t
  |.flt b,u=>∃ t,u=Value.float b t
  |.ref a,u=>u=Value.ref a
  |.ty n,u=>u=Value.type n
noncomputable abbrev ZJ:List V->List Value->Prop:=Paired Zq
theorem ZJ.length {xs:List V}{us:List Value}(r:ZJ xs us):xs.length=us.length:=Paired.length r
theorem ZJ.get:∀ {xs:List V} {us:List Value} {i:Nat} {x:V},ZJ xs us->xs[i]? = some x->∃ u,us[i]? = some u/\Zq x u
  |_,_,_,_, .nil,e=>by simp at e
  |_,_,0,_, .cons r _,e=>by simp at e;subst e;exact⟨_,rfl,r⟩
  | _,_,i+1,x, .cons _ t,e=>by
    obtain⟨u,h1,h2⟩:=ZJ.get (i:=i) (x:=x) t (by simpa using e);exact⟨u,by simpa using h1,h2⟩
theorem ZJ.append:∀ {xs ys:List V} {us ws:List Value},ZJ xs us->ZJ ys ws->ZJ (xs++ys) (us++ws)
  |_,_,_,_, .nil,s=>s
  |_,_,_,_, .cons r t,s => .cons r (ZJ.append t s)
noncomputable def XM:Option V->Option Value->Prop
  |some v,some u=>Zq v u
  |none,none=>True
  |_,_=>False
noncomputable def KV {κ:Type}:List (κ×V)->List (κ×Value)->Prop:=Paired λ(p:κ×V)(q:κ×Value)=>p.1=q.1/\Zq p.2 q.2
noncomputable def kV:Key->V
  |.inl i => .int i
  |.inr x => .str x
inductive HO where
    | lst (xs:List V)
    | tup (xs:List V)
    | dK (kvs:List (Key×V))|dT (kvs:List (List Key×V))
    | set (S:Int->Bool) (n:Nat)
    | ins (C dx:Addr) (fs:List (Str×V))
    | own (x:Addr)
    | xd (fs:List (Str×V))
    | met (f x:Addr)
    | rng (lo hi:Int)
    | frz (o:Obj) (u:HO)
    | tbl (ps:Array Value)
    | ext (φ:Heap->Prop)
noncomputable abbrev Hp:=Addr->Option HO
noncomputable def upd (H:Hp)(a:Addr)(o:HO):Hp:=λ b=>if b=a then some o else H b
theorem Zd {H:Hp}{a:Addr}{o:HO}:upd H a o a=some o:=by unfold upd;rw[if_pos rfl]
theorem Zh {H:Hp}{a b:Addr}{o:HO}(h:b≠a):upd H a o b=H b:=by unfold upd;rw[if_neg h]
theorem Yk {H:Hp}{a b:Addr}{o u:HO}(h:H a=some o)(h':H b=some u)(d:o≠u):a≠b:=by
 intro e;subst e;rw[h]at h';exact d (Option.some.inj h')
theorem Zj {H:Hp}{a b:Addr}{o:HO}(h:H a=some o)(h':H b=none):a≠b:=by
 intro e;subst e;rw[h]at h';cases h'
section
variable (P:Program)(w:World)
noncomputable def ZI (H:Hp)(h:Heap)(a:Addr):HO->Prop
  |.lst xs=>xs.length<=sizeLine/\∃(its:List Value)(n:Nat),ZJ xs its/\h.get? a=some { cls:=.type "list",data:=.seq its.toArray n }
  |.tup xs=>xs.length<=sizeLine/\∃ its:List Value,ZJ xs its/\IsTup h a its.toArray
  |.dK kvs=>kvs.length<=sizeLine/\(a == sysModules)=false/\∃ vs,KV kvs vs/\h.DictOf (ZB P w) a vs
  | .dT kvs=>kvs.length<=sizeLine/\(a == sysModules)=false/\∃ xs:List (List Key×Addr×Value),
      Paired (λ(p:List Key×V)(q:List Key×Addr×Value)=>p.1=q.1/\H q.2.1=some (.tup (p.1.map kV))/\Zq p.2 q.2.2) kvs xs /\
      ∃ o es ep,h.get? a=some o/\o.ExactDict/\o.data = .dict es ep/\es.toList=xs.map (entryOfKey (tupleKind (ZB P w)))/\(xs.map (·.1)).Nodup
  |.set S n=>h.SetOf (intKind P w) a S n
  | .ins C dx fs=>H dx=some (.own a)/\fs.length<=1000/\dx≠a/\h.get? a=some (instObj C dx) /\
      ∃ mA,h.Ns1 dx mA/\(∀ f,XM (fs.lookup f) (mA f))/\PySem.Within mA (fs.map (·.1))
  |.own _=>∃ o,h.get? a=some o
  |.xd fs=>∃ mA,h.Ns1 a mA/\∀ f,XM (fs.lookup f) (mA f)
  |.rng lo hi=>∃ t u v,h.get? a=some { cls:=.type "range",data:=.fields #[.int lo t, .int hi u, .int 1 v] }
  |.frz o u=>h.get? a=some o/\ZI H h a u
  |.tbl ps=>h.get? a=some { cls:=.none,data:=.fields ps }
  |.met f x=>h.get? a=some (PySem.W.methodObj (.ref f) (.ref x))
  |.ext φ=>φ h/\(∃ o,h.get? a=some o)/\∀ h1 h2:Heap,φ h1->(∀ o,h1.get? a=some o->h2.get? a=some o)->φ h2
noncomputable def HOk (H:Hp)(h:Heap):Prop:=∀ a o,H a=some o->ZI P w H h a o
end
section
variable {P:Program}{w:World}{H H':Hp}{h h':Heap}{a:Addr}{o:HO}
theorem ZI.lt (x:ZI P w H h a o):a<h.objs.size:=by
  cases o with
  |lst xs=>obtain⟨_,_,_,_,e⟩:=x;exact Heap.lt_size e
  |tup xs=>obtain⟨_,_,_,p⟩:=x;exact p.lt
  |dK kvs=>obtain⟨_,_,_,_,o,_,_,e,_⟩:=x;exact Heap.lt_size e
  |dT kvs=>obtain⟨_,_,_,_,o,_,_,e,_⟩:=x;exact Heap.lt_size e
  |set S n=>obtain⟨o,_,_,_,e,_⟩:=x;exact Heap.lt_size e
  |ins C dx fs=>obtain⟨_,_,_,e,_⟩:=x;exact Heap.lt_size e
  |own y=>obtain⟨_,e⟩:=x;exact Heap.lt_size e
  |xd fs=>obtain⟨_,⟨_,_,_,e,_⟩,_⟩:=x;exact Heap.lt_size e
  |rng lo hi=>obtain⟨_,_,_,e⟩:=x;exact Heap.lt_size e
  |frz ob u=>obtain⟨e,_⟩:=x;exact Heap.lt_size e
  |tbl ps=>exact Heap.lt_size (show h.get? a=some _ from x)
  |met f y=>exact Heap.lt_size (show h.get? a=some _ from x)
  |ext φ=>obtain⟨_,⟨_,e⟩,_⟩:=x;exact Heap.lt_size e
theorem Paired.mapP {α β:Type}{F G:α->β->Prop}:∀ {l₁:List α} {l₂:List β},Paired F l₁ l₂->(∀ a b,F a b->G a b)->Paired G l₁ l₂
  |_,_, .nil,_ => .nil
  |_,_, .cons r t,f => .cons (f _ _ r) (Paired.mapP t f)
theorem ZI.stay (x:ZI P w H h a o)(k:∀ b u,(b=a\/H b=some (.own a))->h.get? b=some u->h'.get? b=some u)(ho:∀ b,H b=some (.own a)->H' b=some (.own a))(ht:∀ b xs,H b=some (.tup xs)->H' b=some (.tup xs)):ZI P w H' h' a o:=by
  induction o with
  |lst xs=>obtain⟨z,its,n,r,e⟩:=x;exact⟨z,its,n,r,k _ _ (.inl rfl) e⟩
  |tup xs=>obtain⟨z,its,r,ob,e,c⟩:=x;exact⟨z,its,r,ob,k _ _ (.inl rfl) e,c⟩
  |dK kvs=>obtain⟨z,y,vs,r,ob,es,ep,e,c⟩:=x;exact⟨z,y,vs,r,ob,es,ep,k _ _ (.inl rfl) e,c⟩
  |dT kvs=>
    obtain⟨z,y,xs,r,ob,es,ep,e,c⟩:=x;exact⟨z,y,xs,Paired.mapP r λ p q z=>⟨z.1,ht _ _ z.2.1,z.2.2⟩,ob,es,ep,k _ _ (.inl rfl) e,c⟩
  |set S n=>obtain⟨ob,es,ep,t,e,c⟩:=x;exact⟨ob,es,ep,t,k _ _ (.inl rfl) e,c⟩
  |ins C dx fs=>
    obtain⟨d,z,ne,e,mA,⟨od,es,ep,e2,c⟩,r⟩:=x;exact⟨ho _ d,z,ne,k _ _ (.inl rfl) e,mA,⟨od,es,ep,k _ _ (.inr d) e2,c⟩,r⟩
  |own y=>obtain⟨ob,e⟩:=x;exact⟨ob,k _ _ (.inl rfl) e⟩
  |xd fs=>obtain⟨mA,⟨od,es,ep,e,c⟩,r⟩:=x;exact⟨mA,⟨od,es,ep,k _ _ (.inl rfl) e,c⟩,r⟩
  |rng lo hi=>obtain⟨t,u,v,e⟩:=x;exact⟨t,u,v,k _ _ (.inl rfl) e⟩
  |frz ob u ih=>obtain⟨e,q⟩:=x;exact⟨k _ _ (.inl rfl) e,ih q⟩
  |tbl ps=>
    have e:h.get? a=some { cls:=.none,data:=.fields ps }:=x;show h'.get? a=some { cls:=.none,data:=.fields ps };exact k a _ (.inl rfl) e
  |met f y=>
    have e:h.get? a=some (PySem.W.methodObj (.ref f) (.ref y)):=x;show h'.get? a=some (PySem.W.methodObj (.ref f) (.ref y));exact k a _ (.inl rfl) e
  |ext φ=>obtain⟨p,⟨o,e⟩,st⟩:=x;exact⟨st _ _ p λ o q=>k _ _ (.inl rfl) q,⟨o,k _ _ (.inl rfl) e⟩,st⟩
theorem HOk.lt (x:HOk P w H h)(e:H a=some o):a<h.objs.size:=(x a o e).lt
theorem HOk.fresh (x:HOk P w H h)(e:h.objs.size<=a):H a=none:=by
  cases q:H a with
  |none=>rfl
  |some u=>exact absurd (lt_of_lt_of_le (x.lt q) e) (lt_irrefl _)
theorem HOk.kept (x:HOk P w H h)(k:∀ b u,h.get? b=some u->h'.get? b=some u):HOk P w H h':=λ a o e=>
 (x a o e).stay (λ b u _ q=>k b u q) (λ _ q=>q) λ _ _ q=>q
theorem HOk.laid (x:HOk P w H h)(k:∀ b u,h.get? b=some u->h'.get? b=some u)(hp:h.objs.size<=a)(new:ZI P w (upd H a o) h' a o):HOk P w (upd H a o) h':=λ b u e=>by
  have hn:=x.fresh hp
  by_cases hb:b=a
  . subst hb;rw[Zd]at e;cases e;exact new
  . rw[Zh hb]at e;exact(x b u e).stay (λ c v _ q=>k c v q) (λ c q=>by rw[Zh (Zj q hn)];exact q) λ c xs q=>by rw[Zh (Zj q hn)];exact q
end
noncomputable def Rd (H:Hp)(a:Addr)(u:HO):Prop:=H a=some u\/∃ o,H a=some (.frz o u)
theorem Rd.ok {P:Program}{w:World}{H:Hp}{h:Heap}{a:Addr}{u:HO}(r:Rd H a u)(x:HOk P w H h):ZI P w H h a u:=by
  rcases r with r|⟨o,r⟩
  . exact x a u r
  . obtain⟨_,q⟩:=x a _ r;exact q
noncomputable def Mut:Option HO->Prop
  |some (.lst _)=>True
  |some (.dK _)=>True
  |some (.dT _)=>True
  |some (.set _ _)=>True
  |some (.ins _ _ _)=>True
  |some (.ext _)=>True
  |_=>False
section
variable {P:Program}{w:World}{H:Hp}{h h':Heap}{x e:Addr}{o':HO}
theorem HOk.write (ok:HOk P w H h)(mu:Mut (H x))(he:e=x\/H e=some (.own x))(k:∀ b u,b≠e->h.get? b=some u->h'.get? b=some u)(heo:∃ u,h'.get? e=some u)(new:ZI P w (upd H x o') h' x o'):HOk P w (upd H x o') h':=λ b u q=>by
  have nown:∀ c y,H c=some (.own y)->c≠x:=λ c y r z=>by subst z;rw[r]at mu;exact mu
  have ntup:∀ c xs,H c=some (.tup xs)->c≠x:=λ c xs r z=>by subst z;rw[r]at mu;exact mu
  by_cases hb:b=x
  . subst hb;rw[Zd]at q;cases q;exact new
  . rw[Zh hb]at q
    by_cases hbe:b=e
    . have q':H b=some (.own x):=by
        rcases he with z|z
        . exact absurd (hbe.trans z) hb
        . rw[hbe];exact z
      rw[q]at q';cases q';obtain⟨v,hv⟩:=heo;exact⟨v,by rw[hbe];exact hv⟩
    . refine(ok b u q).stay (λ c v hc r=>k c v ?_ r) (λ c r=>by rw[Zh (nown c b r)];exact r) λ c xs r=>by rw[Zh (ntup c xs r)];exact r
      rcases hc with rfl|hc
      . exact hbe
      . rintro rfl;rcases he with z|z
        . exact nown c b hc z
        . rw[hc]at z;cases z;exact hb rfl
end
structure Un (fs ex:List Addr)(H H':Hp)(h h':Heap):Prop where
  keep:∀ b o,h.get? b=some o->H b=none->b∉fs->b∉ex->h'.get? b=some o
  slot:∀ b o,h.get? b=some o->H b=none->b∈fs->b∉ex->∃ sl,h'.get? b=some { o with slots:=sl }
  free:∀ b o,h.get? b=some o->H b=none->b∉ex->H' b=none
  there:∀ b o,h.get? b=some o->b∉ex->∃ o',h'.get? b=some o'
  tups:∀ b xs,H b=some (.tup xs)->H' b=some (.tup xs)
  frzs:∀ b o u,H b=some (.frz o u)->H' b=some (.frz o u)
  tbls:∀ b ps,H b=some (.tbl ps)->∃ more,H' b=some (.tbl (ps++more))
section
variable {fs fs' ex ex':List Addr}{H H1 H2:Hp}{h h1 h2 h':Heap}{a x e:Addr}{o:HO}
theorem Un.any (u:Un fs ex H H1 h h1){b:Addr}{ob:Obj}(q:h.get? b=some ob)(n:H b=none)(hx:b∉ex):∃ sl,h1.get? b=some { ob with slots:=sl }:=by
  by_cases hb:b∈fs
  . exact u.slot b ob q n hb hx
  . exact⟨ob.slots,u.keep b ob q n hb hx⟩
theorem Un.trans (a:Un fs ex H H1 h h1)(b:Un fs ex H1 H2 h1 h2):Un fs ex H H2 h h2 where
  keep:=λ c ob q n hc hx=>b.keep c ob (a.keep c ob q n hc hx) (a.free c ob q n hx) hc hx
  slot:=λ c ob q n hc hx=>by
    obtain⟨sl,e1⟩:=a.slot c ob q n hc hx;obtain⟨sl',e2⟩:=b.slot c _ e1 (a.free c ob q n hx) hc hx;exact⟨sl',e2⟩
  free:=λ c ob q n hx=>by
    obtain⟨o',e1⟩:=a.there c ob q hx;exact b.free c o' e1 (a.free c ob q n hx) hx
  there:=λ c ob q hx=>by
    obtain⟨o',e1⟩:=a.there c ob q hx;exact b.there c o' e1 hx
  tups:=λ c xs q=>b.tups c xs (a.tups c xs q)
  frzs:=λ c ob xs q=>b.frzs c ob xs (a.frzs c ob xs q)
  tbls:=λ c ps q=>by
    obtain⟨m1,e1⟩:=a.tbls c ps q;obtain⟨m2,e2⟩:=b.tbls c _ e1;exact⟨m1++m2,by rw[e2,Array.append_assoc]⟩
theorem Un.kept (k:∀ b u,h.get? b=some u->h'.get? b=some u):Un fs ex H H h h':=
 ⟨λ b ob q _ _ _=>k b ob q,λ b ob q _ _ _=>⟨ob.slots,k b ob q⟩,λ _ _ _ n _=>n,λ b ob q _=>⟨ob,k b ob q⟩,λ _ _ q=>q,λ _ _ _ q=>q,λ _ ps q=>⟨#[],by rw[q];simp⟩⟩
theorem Un.refl:Un fs ex H H h h:=Un.kept λ _ _ q=>q
theorem Un.laid (k:∀ b u,h.get? b=some u->h'.get? b=some u)(hp:h.objs.size<=a)(hn:H a=none):Un fs ex H (upd H a o) h h' where
 keep:=λ b u q _ _ _=>k b u q
 slot:=λ b u q _ _ _=>⟨u.slots,k b u q⟩
 free:=λ b u q n _=>by rw[Zh (ne_of_lt (lt_of_lt_of_le (Heap.lt_size q) hp))];exact n
 there:=λ b u q _=>⟨u,k b u q⟩
 tups:=λ b xs q=>by rw[Zh (Zj q hn)];exact q
 frzs:=λ b u xs q=>by rw[Zh (Zj q hn)];exact q
 tbls:=λ b ps q=>⟨#[],by rw[Zh (Zj q hn),q];simp⟩
theorem Un.write (mu:Mut (H x))(he:e=x\/H e=some (.own x))(k:∀ b u,b≠e->h.get? b=some u->h'.get? b=some u)(heo:∃ u,h'.get? e=some u):Un fs ex H (upd H x o) h h':=by
  have hx:∀ b,H b=none->b≠x:=λ b n z=>by subst z;rw[n]at mu;exact mu
  have hb:∀ b,H b=none->b≠e:=λ b n z=>by
    subst z;rcases he with r|r
    . exact hx b n r
    . rw[n]at r;cases r
  have hm:∀ b u,H b=some u->¬ Mut (some u)->b≠x:=λ b u q nm z=>by subst z;rw[q]at mu;exact nm mu
  refine⟨λ b u q n _ _=>k b u (hb b n) q,λ b u q n _ _=>⟨u.slots,k b u (hb b n) q⟩,λ b u q n _=>by rw[Zh (hx b n)];exact n,λ b u q _=>?_,
    λ b xs q=>by rw[Zh (hm b _ q λ z=>z)];exact q,λ b u xs q=>by rw[Zh (hm b _ q λ z=>z)];exact q,λ b ps q=>⟨#[],by rw[Zh (hm b _ q λ z=>z),q];simp⟩⟩
  by_cases hbe:b=e
  . subst hbe;exact heo
  . exact⟨u,k b u hbe q⟩
theorem Un.mono (u:Un fs ex H H1 h h1)(hs:∀ b∈fs,b∈fs')(hx:∀ b∈ex,b∈ex'):Un fs' ex' H H1 h h1:=
 ⟨λ b ob q n hb he=>u.keep b ob q n (λ z=>hb (hs b z)) λ z=>he (hx b z),λ _ _ q n _ he=>u.any q n λ z=>he (hx _ z),λ b ob q n he=>u.free b ob q n λ z=>he (hx b z),λ b ob q he=>u.there b ob q λ z=>he (hx b z),u.tups,u.frzs,u.tbls⟩
end
noncomputable def trk (h:Heap)(H:Hp):List Addr:=(List.range h.objs.size).filter λ a=>(H a).isSome
noncomputable def J8 (h:Heap)(H:Hp):Heap:=PySem.W.hideAll h (trk h H)
theorem ZbH (h:Heap)(H:Hp):(J8 h H).objs.size=h.objs.size:=PySem.W.hideAll_size _ _
theorem Zcr {h:Heap}{H:Hp}{b:Addr}{o:Obj}(e:h.get? b=some o)(n:H b=none):(J8 h H).get? b=some o:=
  PySem.W.hideAll_get _ e λ hm=>by
    have q:(H b).isSome=true:=(List.mem_filter.mp hm).2;rw[n]at q;simp at q
theorem Zc0 {h:Heap}{H:Hp}{b:Addr}{o:Obj}(e:(J8 h H).get? b=some o):h.get? b=some o/\H b=none:=by
  have e':h.get? b=some o:=PySem.W.of_hideAll (trk h H) e;refine⟨e',?_⟩;cases q:H b with
  |none=>rfl
  |some x=>
    have hm:b∈trk h H:=List.mem_filter.mpr ⟨List.mem_range.mpr (Heap.lt_size e'),by simp[q]⟩;have z:(J8 h H).get? b=none:=PySem.W.hideAll_none (trk h H) hm;rw[z]at e;cases e
noncomputable def Zdg (g h:Heap)(L:Addr):List (Addr×Obj):=(List.range h.objs.size).filterMap λ a=>if a=L\/(g.get? a).isSome=true then none else (h.get? a).map λ o=>(a,o)
noncomputable def Jd (g h:Heap)(L d:Addr):List (Addr×Obj):=(Zdg g h L).filter λ p=>decide (p.1≠d)
open PySem PySem.Spec PyProof.Rows
structure Mod (K:Frag)(mg:Str->Option Value)(base:Heap):Prop where
  kin:K.In base
  glob:base.Ns mainGlobals mg
  blt:∃ mb,base.Ns builtinsNs mb/\∀ x:Str,x≠"__name__"->mb x=bootBuiltins x
  nolimit:base.NoLimit
structure Cx where
  prog:Program
  w:World
  K:Frag
  mg:Str->Option Value
  base:Heap
  A:Around
  N:List Str
  s₀:Shared
  H₀:Hp
  env:Env
  outer:List Env
  stack:List Env
  ex:List Addr
  fn:Str->Bool
  calm:Bool
  pn:List (Addr×Obj)
  xe:Value->Shared->Prop
noncomputable def frs (l:List Env):List Addr:=l.filterMap (·.frame)
noncomputable abbrev Cx.fs (X:Cx):List Addr:=frs X.outer
noncomputable def Vis (sc:Scope)(x:Str):Prop:=sc.names.lookup x=some .local\/sc.names.lookup x=some .cell\/sc.names.lookup x=some .free
noncomputable def Loc (sc:Scope)(x:Str):Prop:=sc.names.lookup x=some .local\/sc.names.lookup x=some .cell
noncomputable def Look (env:Env)(h:Heap)(m:Str->Option Value)(x:Str)(u:Value):Prop:=
 (env.kindOf x=some .local/\m x=some u)\/((env.kindOf x=some .cell\/env.kindOf x=some .free)/\∃ c,env.cells.lookup x=some c/\h.IsCell c (some u))
structure Cx.Ok (X:Cx):Prop where
  mod:Mod X.K X.mg X.base
  kind:X.env.scope.kind = .function
  glob:X.env.globals=mainGlobals
  blt:X.env.builtins=builtinsNs
  above:X.s₀.heap.objs.size<=X.env.locals
  inj:∀ x y c,X.env.cells.lookup x=some c->X.env.cells.lookup y=some c->x=y
  has:∀ x,(X.env.kindOf x=some .cell\/X.env.kindOf x=some .free)->∃ c,X.env.cells.lookup x=some c
  cab:∀ x c,X.fn x=true->X.env.cells.lookup x=some c->X.s₀.heap.objs.size<=c
  hd:X.calm=true->X.A.handled=none
  frames:X.A.frames=some X.stack
  stk:X.stack=X.outer\/(X.stack=X.env::X.outer/\X.env.frame=some X.env.locals)
  exf:∀ b∈X.ex,b≠X.env.locals/\∀ x c,X.env.cells.lookup x=some c->c≠b
  bs:∀ b o,X.base.get? b=some o->X.s₀.heap.get? b=some o/\X.H₀ b=none
  bsz:X.base.objs.size<=X.s₀.heap.objs.size
  noex:∀ b o,X.base.get? b=some o->b∉X.ex
  exfs:∀ b∈X.ex,b∉X.fs
  funs:X.s₀.heap.FunFrames X.base X.outer
  frf:∀ b∈X.fs,X.H₀ b=none
structure Inv (X:Cx)(pins:List (Addr×Obj))(σ:List (Option V))(H:Hp)(s:Shared):Prop where
  ok:X.Ok
  os:s.os=X.s₀.os
  bare:AllBare s.gens
  base:Un X.fs X.ex X.H₀ H X.s₀.heap s.heap
  loc:∃ m,s.heap.Ns X.env.locals m/\∀(i:Nat)(x:Str)(v:V),X.N[i]? = some x->σ[i]? = some (some v)->Vis X.env.scope x->∃ u,Zq v u/\Look X.env s.heap m x u
  cell:∀ x c,X.env.cells.lookup x=some c->∃ v,s.heap.IsCell c v
  free:H X.env.locals=none
  freeC:∀ x c,X.env.cells.lookup x=some c->H c=none
  pin:∀ p∈X.pn++pins,s.heap.get? p.1=some p.2/\H p.1=none/\p.1≠X.env.locals/\p.1∉X.fs/\∀ v,p.2.data ≠ .cell v
  hok:HOk X.prog X.w H s.heap
  len:σ.length=X.N.length
section
variable {X:Cx}{pins:List (Addr×Obj)}{σ:List (Option V)}{H H':Hp}{s:Shared}{h':Heap}
theorem Cx.Ok.nofr (ok:X.Ok){b:Addr}{o:Obj}(e:X.base.get? b=some o):b∉X.fs:=λ hb=>by
 have:=(ok.funs.mem hb).1;rw[e]at this;cases this
theorem Inv.bs (I:Inv X pins σ H s):∀ b o,X.base.get? b=some o->s.heap.get? b=some o/\H b=none:=λ b o e=>
 ⟨I.base.keep b o (I.ok.bs b o e).1 (I.ok.bs b o e).2 (I.ok.nofr e) (I.ok.noex b o e),I.base.free b o (I.ok.bs b o e).1 (I.ok.bs b o e).2 (I.ok.noex b o e)⟩
theorem Inv.bk (I:Inv X pins σ H s):∀ b o,X.base.get? b=some o->s.heap.get? b=some o:=λ b o e=>(I.bs b o e).1
theorem Inv.mod (I:Inv X pins σ H s):Mod X.K X.mg X.base:=I.ok.mod
theorem Inv.kIn (I:Inv X pins σ H s):X.K.In s.heap:=I.ok.mod.kin.keeps I.bk
theorem Inv.lt (I:Inv X pins σ H s):X.env.locals<s.heap.objs.size:=let ⟨_,hn,_⟩:=I.loc;hn.lt
theorem Inv.sz (I:Inv X pins σ H s):X.s₀.heap.objs.size<=s.heap.objs.size:=le_trans I.ok.above (le_of_lt I.lt)
theorem Inv.nofs (I:Inv X pins σ H s){a:Addr}(h:s.heap.objs.size<=a):a∉X.fs:=λ hb=>by
 obtain⟨_,o,ho,_⟩:=I.ok.funs.mem hb;exact absurd (lt_of_lt_of_le (Heap.lt_size ho) (le_trans I.sz h)) (lt_irrefl _)
theorem Inv.cne (I:Inv X pins σ H s):∀ x c,X.env.cells.lookup x=some c->c≠X.env.locals:=λ x c e z=>by
 obtain⟨v,o,ho,hd⟩:=I.cell x c e;obtain⟨m,⟨o',es,ep,ho',hd',_⟩,_⟩:=I.loc;rw[z,ho']at ho;cases ho;rw[hd']at hd;cases hd
theorem Inv.funs (I:Inv X pins σ H s):s.heap.FunFrames X.base X.outer:=by
  have all:∀(l:List Env),(∀ b∈frs l,b∈X.fs)->X.s₀.heap.FunFrames X.base l->s.heap.FunFrames X.base l:=by
    intro l
    induction l with
    |nil=>intro _ _;trivial
    |cons env r ih=>
      intro hs hl;obtain⟨hk,⟨L,o,hf,hn,ho,hd⟩,hr⟩:=hl;have hL:L∈X.fs:=hs L (by unfold frs;rw[List.filterMap_cons,hf];exact mem_cons_self);obtain⟨sl,e⟩:=I.base.slot L o ho (I.ok.frf L hL) hL λ z=>I.ok.exfs L z hL;exact⟨hk,⟨L,_,hf,hn,e,hd⟩,ih (λ b hb=>hs b (by unfold frs;rw[List.filterMap_cons,hf];exact mem_cons_of_mem _ hb)) hr⟩
  exact all X.outer (λ _ hb=>hb) I.ok.funs
theorem Inv.stack (I:Inv X pins σ H s):s.heap.FunFrames X.base X.stack:=by
  rcases I.ok.stk with e|⟨e,hf⟩
  . rw[e];exact I.funs
  . rw[e];obtain⟨m,hn,_⟩:=I.loc;refine .cons (by rw[I.ok.kind];decide) hf hn ?_ I.funs;exact Heap.get?_none_of_le (le_trans I.ok.bsz I.ok.above)
theorem Inv.stkSub (I:Inv X pins σ H s):∀ b∈frs X.stack,b∈X.env.locals::X.fs:=λ b hb=>by
  rcases I.ok.stk with e|⟨e,hf⟩
  . rw[e]at hb;exact mem_cons_of_mem _ hb
  . rw[e]at hb;unfold frs at hb;rw[List.filterMap_cons,hf]at hb;exact hb
theorem Inv.stkFree (I:Inv X pins σ H s):∀ b∈frs X.stack,H b=none:=λ b hb=>by
  rcases List.mem_cons.mp (I.stkSub b hb) with e|hb
  . rw[e];exact I.free
  . obtain⟨_,o,ho,_⟩:=I.ok.funs.mem hb;exact I.base.free b o ho (I.ok.frf b hb) λ z=>I.ok.exfs b z hb
theorem Inv.step {g':Array GenState}{t':Nat}{d':Drawn}{ch:List Addr}(I:Inv X pins σ H s)(hch:∀ b∈ch,(b∈X.ex\/X.s₀.heap.objs.size<=b)/\b≠X.env.locals/\(∀ x c,X.env.cells.lookup x=some c->c≠b)/\∀ p∈X.pn++pins,p.1≠b)(keep:∀ b o,b≠X.env.locals->b∉X.fs->b∉ch->s.heap.get? b=some o->H b=none->h'.get? b=some o)(slot:∀ b o,b≠X.env.locals->b∈X.fs->b∉ch->s.heap.get? b=some o->H b=none->∃ sl,h'.get? b=some { o with slots:=sl })(free:∀ b o,b∉ch->s.heap.get? b=some o->H b=none->H' b=none)(there:∀ b o,b∉ch->s.heap.get? b=some o->∃ o',h'.get? b=some o')(tups:∀ b xs,H b=some (.tup xs)->H' b=some (.tup xs))(frzs:∀ b o u,H b=some (.frz o u)->H' b=some (.frz o u))(tbls:∀ b ps,H b=some (.tbl ps)->∃ more,H' b=some (.tbl (ps++more)))(ns:∀ m,s.heap.Ns X.env.locals m->h'.Ns X.env.locals m)(hok:HOk X.prog X.w H' h')(hg:AllBare g') :
    Inv X pins σ H' { s with heap:=h',gens:=g',drawn:=d',toks:=t' }:=by
  have neL:∀ b o,X.s₀.heap.get? b=some o->b≠X.env.locals:=λ b o e=>ne_of_lt (lt_of_lt_of_le (Heap.lt_size e) I.ok.above);have neC:∀ b o,X.s₀.heap.get? b=some o->b∉X.ex->b∉ch:=λ b o e hx hb=>by
    rcases(hch b hb).1 with z|z
    . exact hx z
    . exact absurd (lt_of_lt_of_le (Heap.lt_size e) z) (lt_irrefl _)
  have cellK:∀ x c,X.env.cells.lookup x=some c->∀ v,s.heap.IsCell c v->h'.IsCell c v:=λ x c e v ⟨o,ho,hd⟩=>by
    have nch:c∉ch:=λ z=>(hch c z).2.2.1 x c e rfl
    by_cases hc:c∈X.fs
    . obtain⟨sl,q⟩:=slot c o (I.cne x c e) hc nch ho (I.freeC x c e);exact⟨_,q,hd⟩
    . exact⟨o,keep c o (I.cne x c e) hc nch ho (I.freeC x c e),hd⟩
  refine⟨I.ok,I.os,hg,⟨λ b o e n hb hx=>?_,λ b o e n hb hx=>?_,λ b o e n hx=>?_,λ b o e hx=>?_,λ b xs e=>tups b xs (I.base.tups b xs e),λ b o xs e=>frzs b o xs (I.base.frzs b o xs e),λ b ps e=>?_⟩,?_,λ x c e=>?_,?_,λ x c e=>?_,λ p hp=>?_,hok,I.len⟩
  . exact keep b o (neL b o e) hb (neC b o e hx) (I.base.keep b o e n hb hx) (I.base.free b o e n hx)
  . obtain⟨sl,e1⟩:=I.base.slot b o e n hb hx;obtain⟨sl',e2⟩:=slot b _ (neL b o e) hb (neC b o e hx) e1 (I.base.free b o e n hx);exact⟨sl',e2⟩
  . obtain⟨o',e1⟩:=I.base.there b o e hx;exact free b o' (neC b o e hx) e1 (I.base.free b o e n hx)
  . obtain⟨o',e1⟩:=I.base.there b o e hx;exact there b o' (neC b o e hx) e1
  . obtain⟨m1,e1⟩:=I.base.tbls b ps e;obtain⟨m2,e2⟩:=tbls b _ e1;exact⟨m1++m2,by rw[e2,Array.append_assoc]⟩
  . obtain⟨m,hn,hl⟩:=I.loc;refine⟨m,ns m hn,λ i x v e1 e2 e3=>?_⟩;obtain⟨u,r,l⟩:=hl i x v e1 e2 e3;refine⟨u,r,?_⟩;rcases l with l|⟨k,c,e,z⟩
    . exact .inl l
    . exact .inr ⟨k,c,e,cellK x c e _ z⟩
  . obtain⟨v,z⟩:=I.cell x c e;exact⟨v,cellK x c e v z⟩
  . obtain⟨m,⟨o,_,_,ho,_⟩,_⟩:=I.loc;exact free _ o (λ z=>(hch _ z).2.1 rfl) ho I.free
  . obtain⟨v,o,ho,hd⟩:=I.cell x c e;exact free c o (λ z=>(hch c z).2.2.1 x c e rfl) ho (I.freeC x c e)
  . obtain⟨e,n,ne,nf,d⟩:=I.pin p hp;have nch:p.1∉ch:=λ z=>(hch p.1 z).2.2.2 p hp rfl;exact⟨keep p.1 p.2 ne nf nch e n,free p.1 p.2 nch e n,ne,nf,d⟩
theorem Inv.un {t':Nat}(I:Inv X pins σ H s)(u:Un X.fs [] H H' s.heap h')(hok:HOk X.prog X.w H' h'):Inv X pins σ H' { s with heap:=h',toks:=t' }:=by
  obtain⟨m,⟨o,es,ep,ho,r⟩,_⟩:=id I.loc;obtain⟨sl,hL⟩:=u.any ho I.free (by simp);exact I.step (g':=s.gens) (d':=s.drawn) (ch:=[]) (λ _ z=>nomatch z) (λ b o _ hb _ e n=>u.keep b o e n hb (by simp)) (λ b o _ hb _ e n=>u.slot b o e n hb (by simp)) (λ b o _ e n=>u.free b o e n (by simp)) (λ b o _ e=>u.there b o e (by simp)) u.tups u.frzs u.tbls (λ m' hm=>by
    obtain⟨o',es',ep',ho',r'⟩:=hm;rw[ho]at ho';cases ho';exact⟨_,es',ep',hL,r'⟩) hok I.bare
theorem Inv.call {g':Array GenState}{t':Nat}{d':Drawn}{ch:List Addr}(I:Inv X pins σ H s)(u:Un (frs X.stack) ch H H' s.heap h')(hok:HOk X.prog X.w H' h')(hg:AllBare g')(hch:∀ b∈ch,(b∈X.ex\/X.s₀.heap.objs.size<=b)/\b≠X.env.locals/\(∀ x c,X.env.cells.lookup x=some c->c≠b)/\∀ p∈X.pn++pins,p.1≠b) :
    Inv X pins σ H' { s with heap:=h',gens:=g',drawn:=d',toks:=t' }:=by
  obtain⟨m,⟨o,es,ep,ho,r⟩,_⟩:=id I.loc;obtain⟨sl,hL⟩:=u.any ho I.free λ z=>(hch _ z).2.1 rfl;exact I.step (ch:=ch) hch (λ b o hL hb hc e n=>u.keep b o e n (λ z=>(List.mem_cons.mp (I.stkSub b z)).elim hL hb) hc) (λ b o _ _ hc e n=>u.any e n hc) (λ b o hc e n=>u.free b o e n hc) (λ b o hc e=>u.there b o e hc) u.tups u.frzs u.tbls (λ m' hm=>by
    obtain⟨o',es',ep',ho',r'⟩:=hm;rw[ho]at ho';cases ho';exact⟨_,es',ep',hL,r'⟩) hok hg
theorem Inv.turned {t':Nat}{it:Addr}(I:Inv X pins σ H s)(k:∀ b o,b≠it->s.heap.get? b=some o->h'.get? b=some o)(hn:H it=none)(hL:it≠X.env.locals)(h1:it∈X.ex\/X.s₀.heap.objs.size<=it)(h2:∀ x c,X.env.cells.lookup x=some c->c≠it)(h3:∀ p∈X.pn++pins,p.1≠it):Inv X pins σ H { s with heap:=h',toks:=t' }:=by
  have nit:∀ b u,H b=some u->b≠it:=λ b u e z=>by rw[z,hn]at e;cases e
  refine I.step (g':=s.gens) (d':=s.drawn) (ch:=[it]) (λ b hb=>?_) (λ b o _ _ hc e _=>k b o (λ z=>hc (by simp[z])) e) (λ b o _ _ hc e _=>⟨o.slots,k b o (λ z=>hc (by simp[z])) e⟩) (λ _ _ _ _ n=>n)
    (λ b o hc e=>⟨o,k b o (λ z=>hc (by simp[z])) e⟩) (λ _ _ e=>e) (λ _ _ _ e=>e) (λ b ps e=>⟨#[],by rw[e];simp⟩) (λ m hm=>?_) (λ b u e=>?_) I.bare
  . have e:b=it:=by simpa using hb
    subst e;exact⟨h1,hL,h2,h3⟩
  . obtain⟨o,es,ep,ho,r⟩:=hm;exact⟨o,es,ep,k _ o (Ne.symm hL) ho,r⟩
  . refine(I.hok b u e).stay (λ c v hc q=>k c v ?_ q) (λ _ q=>q) λ _ _ q=>q;rcases hc with z|z
    . rw[z];exact nit b u e
    . exact nit c _ z
theorem Inv.tok (I:Inv X pins σ H s)(t:Nat):Inv X pins σ H { s with toks:=t }:=I.un (h':=s.heap) (t':=t) Un.refl I.hok
theorem Inv.kept {t':Nat}(I:Inv X pins σ H s)(k:∀ b u,s.heap.get? b=some u->h'.get? b=some u):Inv X pins σ H { s with heap:=h',toks:=t' }:=I.un (Un.kept k) (I.hok.kept k)
theorem Inv.laid {a:Addr}{o:HO}{t':Nat}(I:Inv X pins σ H s)(k:∀ b u,s.heap.get? b=some u->h'.get? b=some u)(hp:s.heap.objs.size<=a)(new:ZI X.prog X.w (upd H a o) h' a o) :
    Inv X pins σ (upd H a o) { s with heap:=h',toks:=t' }:=I.un (Un.laid k hp (I.hok.fresh hp)) (I.hok.laid k hp new)
theorem Inv.write {x e:Addr}{o:HO}{t':Nat}(I:Inv X pins σ H s)(mu:Mut (H x))(he:e=x\/H e=some (.own x))(k:∀ b u,b≠e->s.heap.get? b=some u->h'.get? b=some u)(heo:∃ u,h'.get? e=some u)(new:ZI X.prog X.w (upd H x o) h' x o):Inv X pins σ (upd H x o) { s with heap:=h',toks:=t' }:=I.un (Un.write mu he k heo) (I.hok.write mu he k heo new)
theorem Inv.pins_of {pins':List (Addr×Obj)}(I:Inv X pins σ H s)(h:∀ p∈pins',s.heap.get? p.1=some p.2/\H p.1=none/\p.1≠X.env.locals/\p.1∉X.fs/\∀ v,p.2.data ≠ .cell v):Inv X pins' σ H s:=
 ⟨I.ok,I.os,I.bare,I.base,I.loc,I.cell,I.free,I.freeC,λ p hp=>(List.mem_append.mp hp).elim (λ z=>I.pin p (List.mem_append_left _ z)) (h p),I.hok,I.len⟩
theorem Zaq {N:List Str}(hN:N.Nodup){i j:Nat}{x:Str}(a:N[i]? = some x)(b:N[j]? = some x):i=j:=by
 obtain⟨h1,e1⟩:=List.getElem?_eq_some_iff.mp a;obtain⟨h2,e2⟩:=List.getElem?_eq_some_iff.mp b;exact(List.getElem_inj hN).mp (e1.trans e2.symm)
theorem Zbn {M:Model}{A:Around}{E:Value->Shared->Prop}{i:Nat}{x:Str}{v:V}{u:Value}{Q:Unit->Shared->Prop}(I:Inv X pins σ H s)(hN:X.N.Nodup)(hi:X.N[i]? = some x)(hx:Loc X.env.scope x)(r:Zq v u)(h:∀ s',Inv X pins (σ.set i (some v)) H s'->(∃ a,Heap.SameBut a s.heap s'.heap/\(a=X.env.locals\/X.env.cells.lookup x=some a))->Q () s')(hf:X.fn x=true\/X.env.scope.names.lookup x=some .local:=by first|exact .inl rfl|exact .inr rfl|assumption):wpAny M A (storeName X.env x u) Q E s:=by
  obtain⟨m,hn,hl⟩:=id I.loc;have hcls:(X.env.scope.kind == .class || (X.env.scope.kind == .module && X.env.locals != X.env.globals))=false:=by rw[I.ok.kind];rfl
  have hiσ:i<σ.length:=by rw[I.len];exact(List.getElem?_eq_some_iff.mp hi).1
  have cne:=I.cne;have tracked:∀ {a:Addr} {h':Heap},(∃ o,s.heap.get? a=some o/\H a=none)->Heap.SameBut a s.heap h'->HOk X.prog X.w H h':=λ {a h'} ha hs b ob e=>by
    obtain⟨_,_,hfree⟩:=ha;refine(I.hok b ob e).stay (λ c w' hc q=>(hs.2 c ?_).trans q) (λ _ q=>q) λ _ _ q=>q;rintro rfl;rcases hc with rfl|hc
    . rw[hfree]at e;cases e
    . rw[hfree]at hc;cases hc
  rcases hx with hk|hk
  . refine wpAny_storeName_local hk hn (λ h' hn' hs=>?_) hcls;obtain⟨oL,_,_,hoL,_⟩:=id hn;refine h _ ⟨I.ok,I.os,I.bare,⟨λ b o e n hb hx=>?_,λ b o e n hb hx=>?_,I.base.free,λ b o e hx=>?_,I.base.tups,I.base.frzs,I.base.tbls⟩,⟨_,hn',λ j y v' e1 e2 e3=>?_⟩,λ y c e=>?_,I.free,I.freeC,λ p hp=>?_,tracked ⟨oL,hoL,I.free⟩ hs,by simpa using I.len⟩ ⟨_,hs, .inl rfl⟩
    . exact(hs.2 b (ne_of_lt (lt_of_lt_of_le (Heap.lt_size e) I.ok.above))).trans (I.base.keep b o e n hb hx)
    . obtain⟨sl,e1⟩:=I.base.slot b o e n hb hx;exact⟨sl,(hs.2 b (ne_of_lt (lt_of_lt_of_le (Heap.lt_size e) I.ok.above))).trans e1⟩
    . obtain⟨o',e1⟩:=I.base.there b o e hx;exact⟨o',(hs.2 b (ne_of_lt (lt_of_lt_of_le (Heap.lt_size e) I.ok.above))).trans e1⟩
    . by_cases hj:j=i
      . subst hj;rw[hi]at e1;cases e1;rw[List.getElem?_set_self hiσ]at e2;cases e2;exact⟨u,r, .inl ⟨hk,by simp⟩⟩
      . rw[List.getElem?_set_ne (Ne.symm hj)]at e2;obtain⟨u',r',q⟩:=hl j y v' e1 e2 e3;refine⟨u',r',?_⟩;rcases q with ⟨k,e⟩|⟨k,c,e,z⟩
        . refine .inl ⟨k,?_⟩;have:y≠x:=λ e=>hj (Zaq hN e1 (e▸hi));simp[this,e]
        . exact .inr ⟨k,c,e,z.sameBut hs (cne y c e)⟩
    . obtain⟨w',z⟩:=I.cell y c e;exact⟨w',z.sameBut hs (cne y c e)⟩
    . obtain⟨e,n,ne,nf,d⟩:=I.pin p hp;exact⟨(hs.2 p.1 ne).trans e,n,ne,nf,d⟩
  . have hfn:X.fn x=true:=by
      rcases hf with z|z
      . exact z
      . rw[z]at hk;cases hk
    obtain⟨c,hc⟩:=I.ok.has x (.inl hk);obtain⟨w',z⟩:=I.cell x c hc;refine wpAny_storeName_cell I.ok.kind hk hc z (λ h' hc' hs=>?_);obtain⟨oc,hoc,hocd⟩:=id z;refine h { s with heap:=h' } ⟨I.ok,I.os,I.bare,⟨λ b o e n hb hx=>?_,λ b o e n hb hx=>?_,I.base.free,λ b o e hx=>?_,I.base.tups,I.base.frzs,I.base.tbls⟩,⟨m,hn.sameBut hs (Ne.symm (cne x c hc)),λ j y v' e1 e2 e3=>?_⟩,λ y c' e=>?_,I.free,I.freeC,λ p hp=>?_,tracked ⟨oc,hoc,I.freeC x c hc⟩ hs,by simpa using I.len⟩ ⟨c,hs, .inr hc⟩
    . exact(hs.2 b (ne_of_lt (lt_of_lt_of_le (Heap.lt_size e) (I.ok.cab x c hfn hc)))).trans (I.base.keep b o e n hb hx)
    . obtain⟨sl,e1⟩:=I.base.slot b o e n hb hx;exact⟨sl,(hs.2 b (ne_of_lt (lt_of_lt_of_le (Heap.lt_size e) (I.ok.cab x c hfn hc)))).trans e1⟩
    . obtain⟨o',e1⟩:=I.base.there b o e hx;exact⟨o',(hs.2 b (ne_of_lt (lt_of_lt_of_le (Heap.lt_size e) (I.ok.cab x c hfn hc)))).trans e1⟩
    . by_cases hj:j=i
      . subst hj;rw[hi]at e1;cases e1;rw[List.getElem?_set_self hiσ]at e2;cases e2;exact⟨u,r, .inr ⟨.inl hk,c,hc,hc'⟩⟩
      . rw[List.getElem?_set_ne (Ne.symm hj)]at e2;obtain⟨u',r',q⟩:=hl j y v' e1 e2 e3;refine⟨u',r',?_⟩;rcases q with q|⟨k,c',e,z'⟩
        . exact .inl q
        . refine .inr ⟨k,c',e,z'.sameBut hs ?_⟩;rintro rfl;exact hj (Zaq hN e1 (I.ok.inj _ _ _ e hc▸hi))
    . by_cases hcc:c'=c
      . subst hcc;exact⟨_,hc'⟩
      . obtain⟨w2,z2⟩:=I.cell y c' e;exact⟨w2,z2.sameBut hs hcc⟩
    . obtain⟨e,n,ne,nf,d⟩:=I.pin p hp;refine⟨(hs.2 p.1 ?_).trans e,n,ne,nf,d⟩;intro q;rw[q,hoc]at e;have q':oc=p.2:=Option.some.inj e;exact d w' (by rw[<- q'];exact hocd)
theorem YH {M:Model}{A:Around}{E:Value->Shared->Prop}{i:Nat}{x:Str}{v:V}{u:Value}{Q:Unit->Shared->Prop}(I:Inv X pins σ H s)(hN:X.N.Nodup)(hi:X.N[i]? = some x)(hx:Loc X.env.scope x)(r:Zq v u)(h:∀ s',Inv X pins (σ.set i (some v)) H s'->Q () s')(hf:X.fn x=true\/X.env.scope.names.lookup x=some .local:=by first|exact .inl rfl|exact .inr rfl|assumption):wpAny M A (storeName X.env x u) Q E s:=
 Zbn I hN hi hx r (λ s' I' _=>h s' I') hf
theorem Inv.call' {s':Shared}{ch:List Addr}(I:Inv X pins σ H s)(ho:s'.os=s.os)(u:Un (frs X.stack) ch H H' s.heap s'.heap)(hok:HOk X.prog X.w H' s'.heap)(hg:AllBare s'.gens)(hch:∀ b∈ch,(b∈X.ex\/X.s₀.heap.objs.size<=b)/\b≠X.env.locals/\(∀ x c,X.env.cells.lookup x=some c->c≠b)/\∀ p∈X.pn++pins,p.1≠b):Inv X pins σ H' s':=by
 obtain⟨h',g',d',t',o'⟩:=s';have e:o'=s.os:=ho;subst e;exact I.call (g':=g') (t':=t') (d':=d') u hok hg hch
end
noncomputable abbrev XK:=Value->Option Addr->Hp->Prop
noncomputable abbrev St:=List (Option V)
noncomputable abbrev VK:=V->Hp->Prop
noncomputable abbrev TE:=St->Hp->VK->Prop
noncomputable abbrev TT:=St->Hp->(Bool->Hp->Prop)->Prop
noncomputable abbrev TA:=St->Hp->(List V->Hp->Prop)->Prop
structure Ends where
  nx:St->Hp->Prop
  rt:VK
  bk:St->Hp->Prop:=λ _ _=>False
  ct:St->Hp->Prop:=λ _ _=>False
noncomputable abbrev TS:=Ends->St->Hp->Prop
noncomputable def EP (X:Cx)(pins:List (Addr×Obj))(σ:St)(Q:VK)(u:Value)(s':Shared):Prop:=∃ v H',Inv X pins σ H' s'/\Zq v u/\Q v H'
noncomputable def TP (X:Cx)(pins:List (Addr×Obj))(σ:St)(Q:Bool->Hp->Prop)(b:Bool)(s':Shared):Prop:=∃ H',Inv X pins σ H' s'/\Q b H'
noncomputable def AP (X:Cx)(pins:List (Addr×Obj))(σ:St)(Q:List V->Hp->Prop)(us:List Value)(s':Shared):Prop:=∃ vs H',Inv X pins σ H' s'/\ZJ vs us/\Q vs H'
noncomputable def SP (X:Cx)(pins:List (Addr×Obj))(D:Ends)(f:Flow)(s':Shared):Prop:=
  match f with
  |.next=>∃ σ' H',Inv X pins σ' H' s'/\D.nx σ' H'
  |.brk=>∃ σ' H',Inv X pins σ' H' s'/\D.bk σ' H'
  |.cont=>∃ σ' H',Inv X pins σ' H' s'/\D.ct σ' H'
  |.ret u=>∃ v σ' H',Inv X pins σ' H' s'/\Zq v u/\D.rt v H'
noncomputable abbrev PEb (X:Cx)(e:Expr)(t:TE):Prop:=
  ∀(pins:List (Addr×Obj))(s:Shared)(σ:St)(H:Hp)(Q:VK),Inv X pins σ H s->t σ H Q->wpAny (model X.prog X.w) X.A (eval e X.env) (EP X pins σ Q) X.xe s
structure PE (X:Cx)(e:Expr)(t:TE):Prop where
  go:PEb X e t
instance {X:Cx}{e:Expr}{t:TE}:CoeFun (PE X e t) λ _=>PEb X e t:=⟨PE.go⟩
noncomputable abbrev PTb (X:Cx)(e:Expr)(t:TT):Prop:=
  ∀(pins:List (Addr×Obj))(s:Shared)(σ:St)(H:Hp)(Q:Bool->Hp->Prop),Inv X pins σ H s->t σ H Q->wpAny (model X.prog X.w) X.A (isTrue e X.env (eval e X.env)) (TP X pins σ Q) X.xe s
structure PT (X:Cx)(e:Expr)(t:TT):Prop where
  go:PTb X e t
instance {X:Cx}{e:Expr}{t:TT}:CoeFun (PT X e t) λ _=>PTb X e t:=⟨PT.go⟩
noncomputable abbrev PWb (X:Cx)(e:Expr)(t:TT):Prop:=
  ∀(whole:Sem Value)(pins:List (Addr×Obj))(s:Shared)(σ:St)(H:Hp)(Q:Bool->Hp->Prop),Inv X pins σ H s->t σ H Q->wpAny (model X.prog X.w) X.A (isTrue e X.env whole) (TP X pins σ Q) X.xe s
structure PW (X:Cx)(e:Expr)(t:TT):Prop where
  go:PWb X e t
instance {X:Cx}{e:Expr}{t:TT}:CoeFun (PW X e t) λ _=>PWb X e t:=⟨PW.go⟩
theorem PW.pt {X:Cx}{e:Expr}{t:TT}(h:PW X e t):PT X e t:=⟨h _⟩
noncomputable abbrev PAb (X:Cx)(es:List Expr)(t:TA):Prop:=
  ∀(pos:Pos)(pins:List (Addr×Obj))(s:Shared)(σ:St)(H:Hp)(Q:List V->Hp->Prop),Inv X pins σ H s->t σ H Q->wpAny (model X.prog X.w) X.A (spliced (backTo pos (starEach es X.env))) (AP X pins σ Q) X.xe s
structure PA (X:Cx)(es:List Expr)(t:TA):Prop where
  go:PAb X es t
instance {X:Cx}{es:List Expr}{t:TA}:CoeFun (PA X es t) λ _=>PAb X es t:=⟨PA.go⟩
noncomputable abbrev PSb (X:Cx)(st:Stmt)(t:TS):Prop:=
  ∀(pins:List (Addr×Obj))(s:Shared)(σ:St)(H:Hp)(D:Ends),Inv X pins σ H s->t D σ H->wpAny (model X.prog X.w) X.A (exec st X.env) (SP X pins D) X.xe s
structure PS (X:Cx)(st:Stmt)(t:TS):Prop where
  go:PSb X st t
instance {X:Cx}{st:Stmt}{t:TS}:CoeFun (PS X st t) λ _=>PSb X st t:=⟨PS.go⟩
noncomputable abbrev PSsb (X:Cx)(st:List Stmt)(t:TS):Prop:=
  ∀(pins:List (Addr×Obj))(s:Shared)(σ:St)(H:Hp)(D:Ends),Inv X pins σ H s->t D σ H->wpAny (model X.prog X.w) X.A (execs st X.env) (SP X pins D) X.xe s
structure PSs (X:Cx)(st:List Stmt)(t:TS):Prop where
  go:PSsb X st t
instance {X:Cx}{st:List Stmt}{t:TS}:CoeFun (PSs X st t) λ _=>PSsb X st t:=⟨PSs.go⟩
theorem thn {α:Type}{t:Sem α}{Q Q':α->Shared->Prop}{M:Model}{A:Around}{E:Value->Shared->Prop}{s:Shared}(h:wpAny M A t Q E s)(hQ:∀ a s,Q a s->Q' a s):wpAny M A t Q' E s:=wpAny_mono h hQ λ _ _ x=>x
open PySem PySem.Spec PyProof.Rows
section
variable {X:Cx}
noncomputable def tVar (i:Nat):TE:=λ σ H Q=>∃ v,σ[i]? = some (some v)/\Q v H
noncomputable def tC (v:V):TE:=λ _ H Q=>Q v H
theorem pe_var {i:Nat}{x:Str}{pos:Pos}(hN:X.N[i]? = some x)(hv:Vis X.env.scope x)(hd:(x == ("__debug__":Str))=false:=by decide)(hcd:(x == ("__classdict__":Str))=false:=by decide):PE X (.Name x pos) (tVar i):=by
  refine⟨?_⟩;intro pins s σ H Q I h;obtain⟨v,e,h⟩:=h;obtain⟨m,hn,hl⟩:=I.loc;obtain⟨u,r,l⟩:=hl i x v hN e hv;have fin:EP X pins σ Q u s:=⟨v,H,I,r,h⟩;rcases l with ⟨hk,hm⟩|⟨hk,c,hc,hcell⟩
  . exact wpAny_Name (wpAny_loadName_local I.ok.kind hk hn hm fin) hd
  . rcases hk with hk|hk
    . exact wpAny_Name (wpAny_loadName_cell I.ok.kind hk hc hcell fin) hd
    . exact wpAny_Name (wpAny_loadName_free I.ok.kind hk hc hcell fin hcd) hd
theorem Zb {i j pos}:PE X (.Constant (.int i) j pos) (tC (.int i)):=⟨λ _ _ _ H _ I h=>wpAny_Constant_int ⟨.int i,H,I.tok _,⟨_,rfl⟩,h⟩⟩
theorem Xf {b j pos}:PE X (.Constant (.bool b) j pos) (tC (.bl b)):=⟨λ _ _ _ H _ I h=>Constant_bool ⟨.bl b,H,I,rfl,h⟩⟩
theorem Yg {x j pos}:PE X (.Constant (.str x) j pos) (tC (.str x)):=⟨λ _ _ _ H _ I h=>Calls.Constant_str ⟨.str x,H,I.tok _,⟨_,rfl⟩,h⟩⟩
noncomputable def Gl (X:Cx)(x:Str):Prop:=X.env.kindOf x=some .globalImplicit
theorem Za7 {E:Value->Shared->Prop}{pins:List (Addr×Obj)}{s:Shared}{σ:St}{H:Hp}{x:Str}{u:Value}{pos:Pos}{Q:Value->Shared->Prop}(I:Inv X pins σ H s)(hg:Gl X x)(hm:X.mg x=some u)(h:Q u s)(hd:(x == ("__debug__":Str))=false:=by decide):wpAny (model X.prog X.w) X.A (eval (.Name x pos) X.env) Q E s:=
 Calls.Name_function_global I.ok.kind hg (Calls.loadGlobal_global (by rw[I.ok.glob];exact I.mod.glob.keeps I.bk) hm h) hd
theorem Jo {E:Value->Shared->Prop}{pins:List (Addr×Obj)}{s:Shared}{σ:St}{H:Hp}{x:Str}{u:Value}{pos:Pos}{Q:Value->Shared->Prop}(I:Inv X pins σ H s)(hg:Gl X x)(hm:X.mg x=none)(hv:bootBuiltins x=some u)(h:Q u s)(hn:x≠"__name__":=by decide)(hd:(x == ("__debug__":Str))=false:=by decide):wpAny (model X.prog X.w) X.A (eval (.Name x pos) X.env) Q E s:=by
 obtain⟨mb,h1,h2⟩:=I.mod.blt;exact Calls.Name_function_global I.ok.kind hg (Calls.loadGlobal_builtin (by rw[I.ok.glob];exact I.mod.glob.keeps I.bk) hm (by rw[I.ok.blt];exact h1.keeps I.bk) ((h2 x hn).trans hv) h) hd
theorem Za3 {x:Str}{v:V}{u:Value}{pos:Pos}(hg:Gl X x)(hm:X.mg x=some u)(r:Zq v u)(hd:(x == ("__debug__":Str))=false:=by decide):PE X (.Name x pos) (tC v):=
 ⟨λ _ _ _ H _ I h=>Za7 I hg hm ⟨v,H,I,r,h⟩ hd⟩
theorem Y2 {x:Str}{v:V}{u:Value}{pos:Pos}(hg:Gl X x)(hm:X.mg x=none)(hv:bootBuiltins x=some u)(r:Zq v u)(hn:x≠"__name__":=by decide)(hd:(x == ("__debug__":Str))=false:=by decide):PE X (.Name x pos) (tC v):=
 ⟨λ _ _ _ H _ I h=>Jo I hg hm hv ⟨v,H,I,r,h⟩ hn hd⟩
variable {a b:Expr}{ta tb:TE}{pos:Pos}
noncomputable abbrev PCb (X:Cx)(op:CmpOp)(a b:Expr)(t:TE):Prop:=
  ∀(pins:List (Addr×Obj))(s:Shared)(σ:St)(H:Hp)(Q:VK),Inv X pins σ H s->t σ H Q ->
    wpAny (model X.prog X.w) X.A (eval a X.env) (λ v s₁=>wpAny (model X.prog X.w) X.A (eval b X.env) (λ u s₂=>wpAny (model X.prog X.w) X.A (compareOp op v u) (EP X pins σ Q) X.xe s₂) X.xe s₁) X.xe s
structure PC (X:Cx)(op:CmpOp)(a b:Expr)(t:TE):Prop where
  go:PCb X op a b t
instance {X:Cx}{op:CmpOp}{a b:Expr}{t:TE}:CoeFun (PC X op a b t) λ _=>PCb X op a b t:=⟨PC.go⟩
noncomputable def tB (t:TE):TT:=λ σ H Q=>t σ H λ x H1=>∃ c,x = .bl c/\Q c H1
theorem ZbZ {op:CmpOp}{t:TE}(h:PC X op a b t)(h1:behindInMarks op b=false:=by first|exact nobehind _ (by decide) (by decide)|rfl):PT X (.Compare a [op] [b] pos) (tB t):=by
 refine⟨?_⟩;intro pins s σ H Q I hw;refine wpAny_isTrue_Compare1 (thn (h pins s σ H _ I hw) λ v s1 h1=>thn h1 λ u s2 h2=>thn h2 λ c s3 zz9=>?_) h1;obtain⟨x,H1,I1,r1,q1⟩:=zz9;obtain⟨d,rfl,q⟩:=q1;cases r1;exact wpAny_truthy_bool ⟨H1,I1,q⟩
theorem YQ {e:Expr}{t:TE}(h:PE X e t)(he:∀ whole,isTrue e X.env whole=(do let v <- whole;standAt e.pos;holding [v] (truthy v)):=by intro _;rfl):PT X e (tB t):=by
 refine⟨?_⟩;intro pins s σ H Q I hw;refine isTrue_plain (thn (h pins s σ H _ I hw) λ v s1 ⟨x,H1,I1,r1,q1⟩=>?_) (he _);obtain⟨d,rfl,q⟩:=q1;cases r1;exact wpAny_truthy_bool ⟨H1,I1,q⟩
variable {tA tB':TT}{Jd:List Expr}
noncomputable def tAnd (t u:TT):TT:=λ σ H Q=>t σ H λ c H1=>if c=true then u σ H1 Q else Q false H1
noncomputable def tOr (t u:TT):TT:=λ σ H Q=>t σ H λ c H1=>if c=true then Q true H1 else u σ H1 Q
noncomputable def tNot (t:TT):TT:=λ σ H Q=>t σ H λ c H1=>Q (!c) H1
theorem Za1 (ha:PT X a tA):PW X (.BoolOp .And [a] pos) tA:=by
  refine⟨?_⟩;intro wh pins s σ H Q I h;refine isTrue_and (thn (ha pins s σ H Q I h) λ c s1 e=>?_);cases c with
  |true=>exact isTrue_and_nil e
  |false=>exact e
theorem YO (ha:PT X a tA):PW X (.BoolOp .Or [a] pos) tA:=by
  refine⟨?_⟩;intro wh pins s σ H Q I h;refine isTrue_or (thn (ha pins s σ H Q I h) λ c s1 e=>?_);cases c with
  |false=>exact isTrue_or_nil e
  |true=>exact e
theorem ZbY (ha:PT X a tA)(hb:PW X (.BoolOp .And (b::Jd) pos) tB'):PW X (.BoolOp .And (a::b::Jd) pos) (tAnd tA tB'):=by
  refine⟨?_⟩;intro wh pins s σ H Q I h;refine isTrue_and (thn (ha pins s σ H _ I h) λ c s1 zz9=>?_);obtain⟨H1,I1,q1⟩:=zz9;cases c with
  |true=>exact hb wh pins s1 σ H1 Q I1 q1
  |false=>exact⟨H1,I1,q1⟩
theorem Xe (ha:PT X a tA)(hb:PW X (.BoolOp .Or (b::Jd) pos) tB'):PW X (.BoolOp .Or (a::b::Jd) pos) (tOr tA tB'):=by
  refine⟨?_⟩;intro wh pins s σ H Q I h;refine isTrue_or (thn (ha pins s σ H _ I h) λ c s1 zz9=>?_);obtain⟨H1,I1,q1⟩:=zz9;cases c with
  |true=>exact⟨H1,I1,q1⟩
  |false=>exact hb wh pins s1 σ H1 Q I1 q1
theorem YR (ha:PT X a tA):PT X (.UnaryOp .Not a pos) (tNot tA):=by
 refine⟨?_⟩;intro pins s σ H Q I h;exact isTrue_not (ha pins s σ H (λ c H1=>Q (!c) H1) I h)
noncomputable def tAndV (ta tb:TE):TE:=λ σ H Q=>ta σ H λ x H1=>∃ c,x = .bl c/\if c=true then tb σ H1 Q else Q (.bl false) H1
noncomputable def tNotV (ta:TE):TE:=λ σ H Q=>ta σ H λ x H1=>∃ c,x = .bl c/\Q (.bl (!c)) H1
theorem Zb3 {op}{t:TE}(h:PE X a t):PE X (.BoolOp op [a] pos) t:=⟨λ pins s σ H Q I hw=>BoolOp_one (h pins s σ H Q I hw)⟩
theorem Zb6 (ha:PE X a ta)(hb:PE X (.BoolOp .And (b::Jd) pos) tb):PE X (.BoolOp .And (a::b::Jd) pos) (tAndV ta tb):=by
  refine⟨?_⟩;intro pins s σ H Q I h;refine BoolOp_and (thn (ha pins s σ H _ I h) λ v s1 zz9=>?_);obtain⟨x,H1,I1,r1,q1⟩:=zz9;obtain⟨c,rfl,q1⟩:=q1;cases r1;refine wpAny_truthy_bool ?_;cases c with
  |true=>exact hb pins s1 σ H1 Q I1 q1
  |false=>exact⟨.bl false,H1,I1,rfl,q1⟩
theorem pe_not (ha:PE X a ta):PE X (.UnaryOp .Not a pos) (tNotV ta):=by
 refine⟨?_⟩;intro pins s σ H Q I h;refine UnaryOp_ (thn (ha pins s σ H _ I h) λ v s1 zz9=>?_);obtain⟨x,H1,I1,r1,q1⟩:=zz9;obtain⟨c,rfl,q1⟩:=q1;cases r1;exact not_of (wpAny_truthy_bool ⟨.bl (!c),H1,I1,rfl,q1⟩)
end
open PySem PySem.Spec PyProof.Rows
noncomputable def SqL (K:Frag)(H:Hp)(a:Addr)(xs:List V):Prop:=
  Rd H a (.lst xs) \/
    ∃(o:Obj)(its:Array Value)(n:Nat),K.lookup a=some o/\o.cls = .type "list"/\o.dict=none/\o.data = .seq its n/\its.size<=sizeLine/\ZJ xs its.toList
noncomputable def SqT (K:Frag)(H:Hp)(a:Addr)(xs:List V):Prop:=
  Rd H a (.tup xs) \/
    ∃(o:Obj)(its:Array Value)(n:Nat),K.lookup a=some o/\o.cls = .type "tuple"/\o.data = .seq its n/\its.size<=sizeLine/\ZJ xs its.toList
noncomputable def absV:Value->Option V
  |.none=>some .non
  |.bool b=>some (.bl b)
  |.int i _=>some (.int i)
  |.str x _=>some (.str x)
  |.bytes b _=>some (.byt b)
  |.float b _=>some (.flt b)
  |.ref a=>some (.ref a)
  |.type n=>some (.ty n)
  |_=>none
theorem Zq.abs {x:V}{u:Value}(r:Zq x u):absV u=some x:=by
  cases x with
  |non=>cases r;rfl
  |bl _=>cases r;rfl
  |int _=>obtain⟨t,rfl⟩:=r;rfl
  |str _=>obtain⟨t,rfl⟩:=r;rfl
  |byt _=>obtain⟨t,rfl⟩:=r;rfl
  |flt _=>obtain⟨t,rfl⟩:=r;rfl
  |ref _=>cases r;rfl
  |ty _=>cases r;rfl
theorem Zq.inj {x y:V}{u:Value}(r:Zq x u)(q:Zq y u):x=y:=Option.some.inj (r.abs.symm.trans q.abs)
theorem ZJ.inj:∀ {xs ys:List V} {us:List Value},ZJ xs us->ZJ ys us->xs=ys
  |_,_,_, .nil, .nil=>rfl
  |_,_,_, .cons r t, .cons r' t'=>by rw[r.inj r',ZJ.inj t t']
section
variable {X:Cx}{pins:List (Addr×Obj)}{σ:St}{H:Hp}{s:Shared}{a:Addr}{xs ys:List V}
theorem SqL.of {K:Frag}(h:H a=some (.lst xs)):SqL K H a xs:=.inl (.inl h)
theorem SqT.of {K:Frag}(h:H a=some (.tup xs)):SqT K H a xs:=.inl (.inl h)
theorem Inv.list (I:Inv X pins σ H s)(h:SqL X.K H a xs):∃ its:List Value,ZJ xs its/\PlainL s.heap a its.toArray/\xs.length<=sizeLine:=by
  rcases h with h|⟨o,its,n,hk,hc,hd,hs,hz,r⟩
  . obtain⟨z,its,n,r,e⟩:=h.ok I.hok;exact⟨its,r,⟨_,n,e,rfl,rfl,rfl⟩,z⟩
  . refine⟨its.toList,r,⟨o,n,I.kIn a o hk,hc,hd,by simpa using hs⟩,?_⟩;have e:=r.length;simp only[length_toList]at e;omega
theorem Inv.tuple (I:Inv X pins σ H s)(h:SqT X.K H a xs):∃ its:List Value,ZJ xs its/\IsTup s.heap a its.toArray/\xs.length<=sizeLine:=by
  rcases h with h|⟨o,its,n,hk,hc,hs,hz,r⟩
  . obtain⟨z,its,r,p⟩:=h.ok I.hok;exact⟨its,r,p,z⟩
  . refine⟨its.toList,r,⟨o,I.kIn a o hk,hc,n,by simpa using hs⟩,?_⟩;have e:=r.length;simp only[length_toList]at e;omega
theorem Inv.list_inj (I:Inv X pins σ H s)(h:SqL X.K H a xs)(h':SqL X.K H a ys):xs=ys:=by
 obtain⟨its,r,⟨o,n,e,_,_,d⟩,_⟩:=I.list h;obtain⟨its',r',⟨o',n',e',_,_,d'⟩,_⟩:=I.list h';rw[e]at e';cases e';rw[d]at d';injection d' with d1 _;have:its=its':=by simpa using congrArg Array.toList d1
 subst this;exact r.inj r'
end
noncomputable abbrev Cx.wish (X:Cx)(E:Value->Shared->Prop):Cx:={ X with xe:=E }
noncomputable abbrev Cx.nox (X:Cx):Cx:=X.wish λ _ _=>False
theorem Cx.Ok.wish {X:Cx}(ok:X.Ok)(E:Value->Shared->Prop):(X.wish E).Ok:=
 ⟨ok.mod,ok.kind,ok.glob,ok.blt,ok.above,ok.inj,ok.has,ok.cab,ok.hd,ok.frames,ok.stk,ok.exf,ok.bs,ok.bsz,ok.noex,ok.exfs,ok.funs,ok.frf⟩
theorem Cx.Ok.unwish {X:Cx}{E:Value->Shared->Prop}(ok:(X.wish E).Ok):X.Ok:=
 ⟨ok.mod,ok.kind,ok.glob,ok.blt,ok.above,ok.inj,ok.has,ok.cab,ok.hd,ok.frames,ok.stk,ok.exf,ok.bs,ok.bsz,ok.noex,ok.exfs,ok.funs,ok.frf⟩
section
variable {X:Cx}{pins:List (Addr×Obj)}{σ:St}{H:Hp}{s:Shared}{E:Value->Shared->Prop}
theorem Inv.wish (I:Inv X pins σ H s)(E:Value->Shared->Prop):Inv (X.wish E) pins σ H s:=⟨I.ok.wish E,I.os,I.bare,I.base,I.loc,I.cell,I.free,I.freeC,I.pin,I.hok,I.len⟩
theorem Inv.unwish (I:Inv (X.wish E) pins σ H s):Inv X pins σ H s:=⟨I.ok.unwish,I.os,I.bare,I.base,I.loc,I.cell,I.free,I.freeC,I.pin,I.hok,I.len⟩
theorem SP.unwish {D:Ends}{f:Flow}{s':Shared}(h:SP (X.wish E) pins D f s'):SP X pins D f s':=by
  cases f with
  |next=>obtain⟨σ',H',I,q⟩:=h;exact⟨σ',H',I.unwish,q⟩
  |brk=>obtain⟨σ',H',I,q⟩:=h;exact⟨σ',H',I.unwish,q⟩
  |cont=>obtain⟨σ',H',I,q⟩:=h;exact⟨σ',H',I.unwish,q⟩
  |ret u=>obtain⟨v,σ',H',I,r,q⟩:=h;exact⟨v,σ',H',I.unwish,r,q⟩
theorem PSs.nox {st:List Stmt}{t:TS}(h:PSs X.nox st t):PSs X st t:=⟨λ pins s σ H D I hw=>
 wpAny_mono (h pins s σ H D (I.wish _) hw) (λ _ _ q=>q.unwish) λ _ _ z=>False.elim z⟩
end
section
variable {X:Cx}{st:Stmt}{Jd:List Stmt}{t u:TS}{e:Expr}{te:TE}{pos:Pos}
noncomputable def tNext:TS:=λ D σ H=>D.nx σ H
noncomputable def tSeq (t u:TS):TS:=λ D σ H=>t { D with nx:=u D } σ H
theorem ZH:PSs X [] tNext:=⟨λ _ _ σ H _ I h=>wpAny_execs_nil ⟨σ,H,I,h⟩⟩
theorem Zc (h1:PS X st t)(h2:PSs X Jd u):PSs X (st::Jd) (tSeq t u):=by
  refine⟨?_⟩;intro pins s σ H D I h;refine wpAny_execs_cons (thn (h1 pins s σ H { D with nx:=u D } I h) λ f s1 q=>?_);cases f with
  |next=>
    obtain⟨σ',H',I',q⟩:=q;exact h2 pins s1 σ' H' D I' q
  |ret v=>exact q
  |brk=>exact q
  |cont=>exact q
theorem Zf (h1:PS X st t):PSs X [st] t:=by
  refine⟨?_⟩;intro pins s σ H D I h;refine wpAny_execs_cons (thn (h1 pins s σ H D I h) λ f s1 q=>?_);cases f with
  |next=>exact wpAny_execs_nil q
  |ret v=>exact q
  |brk=>exact q
  |cont=>exact q
theorem Inv.quiet {pins:List (Addr×Obj)}{σ:St}{H:Hp}{s:Shared}(I:Inv X pins σ H s):interactive X.env=false:=by simp[interactive,I.ok.kind]
noncomputable def tDrop (te:TE):TS:=λ D σ H=>te σ H λ _ H1=>D.nx σ H1
theorem J2 (he:PE X e te)(hs:swapsWith e none pos.line X.env=pure false:=by rfl):PS X (.Expr e pos) (tDrop te):=by
 refine⟨?_⟩;intro pins s σ H D I h;exact wpAny_Expr_any (thn (he pins s σ H _ I h) λ v s1 ⟨x,H1,I1,r1,q1⟩=>⟨σ,H1,I1,q1⟩) I.quiet hs
noncomputable def tRet (te:TE):TS:=λ D σ H=>te σ H D.rt
theorem Zn (he:PE X e te):PS X (.Return (some e) pos) (tRet te):=by
 refine⟨?_⟩;intro pins s σ H D I h;exact wpAny_Return_some (thn (he pins s σ H _ I h) λ v s1 ⟨x,H1,I1,r1,q1⟩=>⟨x,σ,H1,I1,r1,q1⟩)
noncomputable def tIfS (c:TT)(t u:TS):TS:=λ D σ H=>c σ H λ b H1=>if b=true then t D σ H1 else u D σ H1
theorem ZX {c:Expr}{a b:List Stmt}{tc:TT}(hc:PT X c tc)(ha:PSs X a t)(hb:PSs X b u):PS X (.If c a b pos) (tIfS tc t u):=by
  refine⟨?_⟩;intro pins s σ H D I h;refine wpAny_If (thn (hc pins s σ H _ I h) λ d s1 zz9=>?_);obtain⟨H1,I1,q1⟩:=zz9;cases d with
  |true=>exact ha pins s1 σ H1 D I1 q1
  |false=>exact hb pins s1 σ H1 D I1 q1
end
noncomputable abbrev TG:=V->St->Hp->(St->Hp->Prop)->Prop
noncomputable abbrev TGs:=List V->St->Hp->(St->Hp->Prop)->Prop
noncomputable abbrev PGb (X:Cx)(target:Expr)(t:TG):Prop:=
  ∀(pins:List (Addr×Obj))(s:Shared)(σ:St)(H:Hp)(v:V)(u:Value)(Q:St->Hp->Prop),Inv X pins σ H s->Zq v u->t v σ H Q ->
    wpAny (model X.prog X.w) X.A (assign target X.env u) (λ _ s'=>∃ σ' H',Inv X pins σ' H' s'/\Q σ' H') X.xe s
structure PG (X:Cx)(target:Expr)(t:TG):Prop where
  go:PGb X target t
instance {X:Cx}{target:Expr}{t:TG}:CoeFun (PG X target t) λ _=>PGb X target t:=⟨PG.go⟩
noncomputable abbrev PGsb (X:Cx)(ts:List Expr)(t:TGs):Prop:=
  ∀(pins:List (Addr×Obj))(s:Shared)(σ:St)(H:Hp)(vs:List V)(us:List Value)(Q:St->Hp->Prop),Inv X pins σ H s->ZJ vs us->t vs σ H Q ->
    wpAny (model X.prog X.w) X.A (assignInOrder ((assignEach ts X.env).map (·.2)) us) (λ _ s'=>∃ σ' H',Inv X pins σ' H' s'/\Q σ' H') X.xe s
structure PGs (X:Cx)(ts:List Expr)(t:TGs):Prop where
  go:PGsb X ts t
instance {X:Cx}{ts:List Expr}{t:TGs}:CoeFun (PGs X ts t) λ _=>PGsb X ts t:=⟨PGs.go⟩
noncomputable abbrev TSet:=V->V->V->Hp->(Hp->Prop)->Prop
noncomputable abbrev PSetb (X:Cx)(t:TSet):Prop:=
  ∀(pins:List (Addr×Obj))(s:Shared)(σ:St)(H:Hp)(o i v:V)(ov iv u:Value)(Q:Hp->Prop),Inv X pins σ H s->Zq o ov->Zq i iv->Zq v u->t o i v H Q ->
    wpAny (model X.prog X.w) X.A (setItem ov iv u) (λ _ s'=>∃ H',Inv X pins σ H' s'/\Q H') X.xe s
structure PSet (X:Cx)(t:TSet):Prop where
  go:PSetb X t
instance {X:Cx}{t:TSet}:CoeFun (PSet X t) λ _=>PSetb X t:=⟨PSet.go⟩
noncomputable abbrev TIp:=V->V->Hp->VK->Prop
noncomputable abbrev PIpb (X:Cx)(op:Operator)(t:TIp):Prop:=
  ∀(pins:List (Addr×Obj))(s:Shared)(σ:St)(H:Hp)(x y:V)(v u:Value)(Q:VK),Inv X pins σ H s->Zq x v->Zq y u->t x y H Q ->
    wpAny (model X.prog X.w) X.A (inplaceOp op v u) (EP X pins σ Q) X.xe s
structure PIp (X:Cx)(op:Operator)(t:TIp):Prop where
  go:PIpb X op t
instance {X:Cx}{op:Operator}{t:TIp}:CoeFun (PIp X op t) λ _=>PIpb X op t:=⟨PIp.go⟩
section
variable {X:Cx}{pos:Pos}
noncomputable def Zax (i:Nat):TG:=λ v σ H Q=>Q (σ.set i (some v)) H
theorem Zv {i:Nat}{x:Str}(hN:X.N.Nodup)(hi:X.N[i]? = some x)(hx:Loc X.env.scope x)(hf:X.fn x=true\/X.env.scope.names.lookup x=some .local:=by first|exact .inl rfl|exact .inr rfl|assumption):PG X (.Name x pos) (Zax i):=by
 refine⟨?_⟩;intro pins s σ H v u Q I r h;exact wpAny_assign_Name (YH I hN hi hx r (λ s' I'=>⟨_,H,I',h⟩) hf)
noncomputable def gNil:TGs:=λ vs σ H Q=>vs=[]/\Q σ H
noncomputable def Za8 (t:TG)(u:TGs):TGs:=λ vs σ H Q=>∃ v r,vs=v::r/\t v σ H λ σ' H'=>u r σ' H' Q
theorem Y0:PGs X [] gNil:=by
 refine⟨?_⟩;intro pins s σ H vs us Q I r h;obtain⟨e,h⟩:=h;subst e;cases r;exact assignInOrder_nil ⟨σ,H,I,h⟩
theorem Zy {e:Expr}{es:List Expr}{t:TG}{u:TGs}(h1:PG X e t)(h2:PGs X es u)(hs:(assignEach (e::es) X.env).map (·.2)=assign e X.env::(assignEach es X.env).map (·.2):=by rfl):PGs X (e::es) (Za8 t u):=by
  refine⟨?_⟩;intro pins s σ H vs us Q I r h;obtain⟨v,vr,e1,h⟩:=h;subst e1;cases r with
  |cons r rr=>
    rw[hs];refine assignInOrder_cons (thn (h1 pins s σ H _ _ _ I r h) λ _ s1 zz9=>?_);obtain⟨σ1,H1,I1,q1⟩:=zz9;exact h2 pins s1 σ1 H1 _ _ Q I1 rr q1
noncomputable def gTup (K:Frag)(n:Nat)(t:TGs):TG:=λ v σ H Q=>∃ a xs,v = .ref a/\SqT K H a xs/\xs.length=n/\t xs σ H Q
theorem XF {es:List Expr}{k:Nat}{t:TGs}{n:Nat}(hc:X.calm=true)(h:PGs X es t)(hn:(assignEach es X.env).length=n:=by rfl)(hst:(assignEach es X.env).findIdx? (·.1)=none:=by rfl):PG X (.Tuple es k pos) (gTup X.K n t):=by
 refine⟨?_⟩;intro pins s σ H v u Q I r hw;obtain⟨a,xs,e1,hq,hl,hw⟩:=hw;subst e1;cases r;obtain⟨its,rv,ht,hz⟩:=I.tuple hq;refine assign_Tuple_tuple (I.ok.hd hc) ht (by simp[hn,<- hl,rv.length]) hst λ h' hx=>?_;have I1:Inv X pins σ H { s with heap:=h' }:=I.kept (t':=s.toks) λ b o e=>hx b o (ne_of_lt (Heap.lt_size e)) e;exact h pins _ σ H xs _ Q I1 (by simpa using rv) hw
noncomputable def tAsg (te:TE)(g:TG):TS:=λ D σ H=>te σ H λ x H1=>g x σ H1 D.nx
theorem Zm {i:Nat}{x:Str}{e:Expr}{te:TE}{pos':Pos}(hN:X.N.Nodup)(hi:X.N[i]? = some x)(hx:Loc X.env.scope x)(he:PE X e te)(hs:swapsWith e (some (.Name x pos')) pos.line X.env=pure false:=by rfl)(hf:X.fn x=true\/X.env.scope.names.lookup x=some .local:=by first|exact .inl rfl|exact .inr rfl|assumption) :
    PS X (.Assign [.Name x pos'] e pos) (tAsg te (Zax i)):=by
  refine⟨?_⟩;intro pins s σ H D I h;refine wpAny_Assign_Name (thn (he pins s σ H _ I h) λ v s1 zz9=>?_) hs;obtain⟨y,H1,I1,r1,q1⟩:=zz9;exact YH I1 hN hi hx r1 (λ s2 I2=>⟨_,H1,I2,q1⟩) hf
noncomputable def tPar (i j:Nat)(ta:TA):TS:=λ D σ H=>ta σ H λ vs H1=>∃ v w,vs=[v,w]/\D.nx ((σ.set i (some v)).set j (some w)) H1
theorem Zb0 {i j:Nat}{x y:Str}{a b:Expr}{ta:TA}{px py pt:Pos}{kt k2 pt2}(hc:X.calm=true)(hN:X.N.Nodup)(hi:X.N[i]? = some x)(hj:X.N[j]? = some y)(hij:i≠j)(hx:X.env.scope.names.lookup x=some .local)(hy:X.env.scope.names.lookup y=some .local)(ha:PA X [a,b] ta)(hw:swappedStores [.Tuple [.Name x px, .Name y py] kt pt] (.Tuple [a,b] k2 pt2) X.env=pure (some [x,y]))(hs:swapsWithSole [.Tuple [.Name x px, .Name y py] kt pt] (.Tuple [a,b] k2 pt2) pos.line X.env=pure false:=by rfl) :
    PS X (.Assign [.Tuple [.Name x px, .Name y py] kt pt] (.Tuple [a,b] k2 pt2) pos) (tPar i j ta):=by
  refine⟨?_⟩;intro pins s σ H D I h;rw[exec_Assign_arm];refine wpAny_bind (wpAny_standAt ?_);rw[hs];refine wpAny_bind (wpAny_pure ?_);rw[if_neg (by decide)];refine wpAny_bind (Tuple_ (thn (ha _ pins s σ H _ I h) λ us s1 zz9=>?_));obtain⟨vs,H1,I1,r1,q1⟩:=zz9;obtain⟨v,w,e1,q1⟩:=q1;subst e1;obtain⟨u1,u2,rfl,rv,rw'⟩:∃ u1 u2,us=[u1,u2]/\Zq v u1/\Zq w u2:=by
    cases r1 with
    |cons p q=>
      cases q with
      |cons p' q'=>
        cases q';exact⟨_,_,rfl,p,p'⟩
  refine wpAny_newObj_type ?_ (by show 2<=sizeLine;decide);have I2:Inv X pins σ H1 { s1 with heap:=s1.heap.push { cls:=.type "tuple",data:=.seq [u1,u2].toArray } }:=I1.kept (t':=s1.toks) λ b o e=>Heap.get?_push_of_some _ e;rw[hw];refine wpAny_bind (wpAny_pure ?_);show wpAny (model X.prog X.w) X.A (do rule "assign.swapped-stores";let items <- unpackItems (.ref s1.heap.objs.size) 2 none;assignInOrder [λ v=>bindName X.env y v,λ v=>bindName X.env x v] items.reverse;pure Flow.next) _ _ _;refine wpAny_bind (wpAny_rule (wpAny_bind (unpackItems_tuple (items := #[u1,u2]) (I.ok.hd hc) (IsTup.new s1.heap _) λ h' hx'=>?_)));have I3:=I2.kept (h':=h') (t':=s1.toks) λ b o e=>hx' b o (ne_of_lt (Heap.lt_size e)) e;show wpAny _ _ (assignInOrder [λ v=>bindName X.env y v,λ v=>bindName X.env x v] [u2,u1] >>= λ _=>pure Flow.next) _ _ _;refine wpAny_bind (assignInOrder_cons (wpAny_bindName (YH I3 hN hj (.inl hy) rw' (λ s2 I4=>?_) (.inr hy))));refine assignInOrder_cons (wpAny_bindName (YH I4 hN hi (.inl hx) rv (λ s3 I5=>assignInOrder_nil (wpAny_pure ?_)) (.inr hx)));rw[List.set_comm _ _ (Ne.symm hij)]at I5;exact⟨_,H1,I5,q1⟩
noncomputable abbrev PGetb (X:Cx)(t:V->V->Hp->VK->Prop):Prop:=
  ∀(pins:List (Addr×Obj))(s:Shared)(σ:St)(H:Hp)(o i:V)(ov iv:Value)(Q:VK),Inv X pins σ H s->Zq o ov->Zq i iv->t o i H Q ->
    wpAny (model X.prog X.w) X.A (getItem ov iv) (EP X pins σ Q) X.xe s
structure PGet (X:Cx)(t:V->V->Hp->VK->Prop):Prop where
  go:PGetb X t
instance {X:Cx}{t:V->V->Hp->VK->Prop}:CoeFun (PGet X t) λ _=>PGetb X t:=⟨PGet.go⟩
end
section
variable {X:Cx}{pos:Pos}
noncomputable def ZbQ (c:TT)(tb:TS):TS:=λ D σ H=>∃ W:Nat->St->Hp->Prop,(∃ m,W m σ H)/\∀ m σ H,W m σ H ->
 c σ H λ b H1=>if b=true then ∃ N:St->Hp->Prop,(∀ σ' H',N σ' H'->∃ m',m'<m/\W m' σ' H')/\tb { D with nx:=N,ct:=N,bk:=D.nx } σ H1 else D.nx σ H1
theorem Zal {c:Expr}{body:List Stmt}{tc:TT}{tb:TS}(hp:PassesOwn (model X.prog X.w) X.A X.env X.xe)(hc:PT X c tc)(hb:PSs X body tb):PS X (.While c body [] pos) (ZbQ tc tb):=by
  refine⟨?_⟩;intro pins s σ H D I h;obtain⟨W,⟨m0,w0⟩,turn⟩:=h;refine wpAny_While (codeAny_whileLoop (λ n s'=>∃ σ' H',Inv X pins σ' H' s'/\W n σ' H') ?_ m0 ⟨σ,H,I,w0⟩);rintro n s1 ⟨σ1,H1,I1,w1⟩;refine wpAny_passesOwn hp (thn (hc pins s1 σ1 H1 _ I1 (turn n σ1 H1 w1)) λ b s2 zz9=>?_);obtain⟨H2,I2,q2⟩:=zz9;cases b with
  |true=>
    obtain⟨N,hN,q2⟩:=q2;rw[if_pos rfl];refine wpAny_passesOwn hp (thn (hb pins s2 σ1 H2 _ I2 q2) λ f s3 q3=>?_);cases f with
    |next=>
      obtain⟨σ3,H3,I3,n3⟩:=q3;obtain⟨m',hm,w3⟩:=hN σ3 H3 n3;exact⟨m',hm,σ3,H3,I3,w3⟩
    |cont=>
      obtain⟨σ3,H3,I3,n3⟩:=q3;obtain⟨m',hm,w3⟩:=hN σ3 H3 n3;exact⟨m',hm,σ3,H3,I3,w3⟩
    |brk=>exact q3
    |ret v=>exact q3
  |false=>
    rw[if_neg Bool.false_ne_true];exact wpAny_execs_nil ⟨σ1,H2,I2,q2⟩
end
structure It where
  go:Nat->Hp->Prop
  yld:Nat->Hp->V->Hp->Prop
  stop:Nat->Hp->Prop
noncomputable def Y8 (X:Cx)(pins:List (Addr×Obj))(H:Hp)(b:Addr):Prop:=
 H b=none/\b≠X.env.locals/\b∉X.fs/\(b∈X.ex\/X.s₀.heap.objs.size<=b)/\(∀ x c,X.env.cells.lookup x=some c->c≠b)/\∀ p∈X.pn++pins,p.1≠b
theorem Inv.fpOk {X:Cx}{pins:List (Addr×Obj)}{σ:St}{H H':Hp}{s:Shared}{b:Addr}(I:Inv X pins σ H s)(hb:s.heap.objs.size<=b)(hn:H' b=none):Y8 X pins H' b:=by
  refine⟨hn,Nat.ne_of_gt (lt_of_lt_of_le I.lt hb),I.nofs hb, .inr (le_trans I.sz hb),λ x c e z=>?_,λ p hp z=>?_⟩
  . obtain⟨v,q⟩:=I.cell x c e;exact absurd (lt_of_lt_of_le q.lt (by rw[z];exact hb)) (lt_irrefl _)
  . exact absurd (lt_of_lt_of_le (Heap.lt_size (I.pin p hp).1) (by rw[z];exact hb)) (lt_irrefl _)
structure Turn (P:Program)(w:World)(K:Frag)(tg:Expr)(J:It)(fp:List Addr)(it:Addr)(tn:Nat->Heap->Prop):Prop where
  mem:it∈fp
  obj:∀ i h,tn i h->∀ b∈fp,∃ o,h.get? b=some o/\∀ v,o.data ≠ .cell v
  keep:∀ i h h',tn i h->(∀ b∈fp,∀ o,h.get? b=some o->h'.get? b=some o)->tn i h'
  item:∀(X:Cx),X.prog=P->X.w=w->X.K=K->X.calm=true->∀(i:Nat)(pins:List (Addr×Obj))(s:Shared)(σ:St)(H:Hp)(E:Value->Shared->Prop),Inv X pins σ H s->(∀ b∈fp,Y8 X pins H b)->tn i s.heap->J.go i H ->
    wpAny (model P w) X.A (pyNext (.ref it)) (λ r s1=>∃ u,r=some u /\
      wpAny (model P w) X.A (letOwnedTupleGo tg (.ref it) u) (λ _ s2=>∃ x H',Inv X pins σ H' s2/\Zq x u/\J.yld i H x H'/\tn (i+1) s2.heap/\∀ b∈fp,H' b=none) E s1) E s
  done:∀(X:Cx),X.prog=P->X.w=w->X.K=K->X.calm=true->∀(i:Nat)(pins:List (Addr×Obj))(s:Shared)(σ:St)(H:Hp)(E:Value->Shared->Prop),Inv X pins σ H s->(∀ b∈fp,Y8 X pins H b)->tn i s.heap->J.stop i H ->
    wpAny (model P w) X.A (pyNext (.ref it)) (λ r s1=>r=none/\Inv X pins σ H s1) E s
  self:∀(A:Around)(i:Nat)(s:Shared)(Q:Value->Shared->Prop)(E:Value->Shared->Prop),tn i s.heap->Q (.ref it) s->wpAny (model P w) A (pyIter (.ref it)) Q E s
noncomputable abbrev TI:=St->Hp->(It->Hp->Prop)->Prop
noncomputable def PIE (X:Cx)(pins:List (Addr×Obj))(σ:St)(tg:Expr)(R:It->Hp->Prop)(itv:Value)(s2:Shared):Prop:=
 ∃(it:Addr)(fp:List Addr)(tn:Nat->Heap->Prop)(J:It)(H':Hp),itv = .ref it/\Inv X pins σ H' s2/\Turn X.prog X.w X.K tg J fp it tn/\tn 0 s2.heap/\(∀ b∈fp,Y8 X pins H' b)/\R J H'
noncomputable abbrev PIb (X:Cx)(tg iter:Expr)(wi:TI):Prop:=
  ∀(pins:List (Addr×Obj))(s:Shared)(σ:St)(H:Hp)(R:It->Hp->Prop),Inv X pins σ H s->wi σ H R ->
    wpAny (model X.prog X.w) X.A (eval iter X.env) (λ v s1=>wpAny (model X.prog X.w) X.A (pyIter v) (PIE X pins σ tg R) X.xe s1) X.xe s
structure PI (X:Cx)(tg iter:Expr)(wi:TI):Prop where
  go:PIb X tg iter wi
instance {X:Cx}{tg iter:Expr}{wi:TI}:CoeFun (PI X tg iter wi) λ _=>PIb X tg iter wi:=⟨PI.go⟩
theorem Zcs {M:Model}{A:Around}{E:Value->Shared->Prop}{s:Shared}{tg:Expr}{it:Addr}{u:Value}{o:Obj}{n:String}{vs:Array Value}{Q:Unit->Shared->Prop}(ho:s.heap.get? it=some o)(hc:o.cls = .type n)(hd:o.data = .fields vs)(hn:["enumerate","zip","dict_itemiterator","dict_reverseitemiterator","odict_iterator","itertools.zip_longest","itertools.pairwise"].contains n=false)(hQ:Q () s):wpAny M A (letOwnedTupleGo tg (.ref it) u) Q E s:=by
  unfold letOwnedTupleGo;cases tg <;> first
    | exact wpAny_pure hQ
    | (cases u <;> first
        | exact wpAny_pure hQ
        | (refine wpAny_bind (wpAny_load ho ?_)
           rw[hc,hd];show wpAny M A (if (["enumerate","zip","dict_itemiterator","dict_reverseitemiterator","odict_iterator","itertools.zip_longest","itertools.pairwise"].contains n && vs[0]? == some (rawInt _))=true then _ else _) Q E s;rw[if_neg (by intro h;rw[hn,Bool.false_and]at h;cases h)];exact wpAny_pure hQ))
noncomputable def Itl (K:Frag)(a:Addr):It:=
 ⟨λ i H=>∃ xs x,SqL K H a xs/\xs[i]? = some x,λ i H x H'=>H'=H/\∀ xs,SqL K H a xs->xs[i]? = some x,λ i H=>∃ xs,SqL K H a xs/\xs.length<=i⟩
noncomputable def Itr (lo:Int)(n:Nat):It:=⟨λ i _=>i<n,λ i H x H'=>H'=H/\x = .int (lo+i),λ i _=>n<=i⟩
theorem Zbj {P:Program}{w:World}{K:Frag}{tg:Expr}(a it:Addr):Turn P w K tg (Itl K a) [it] it (λ i h=>h.IsListIter it a i) where
  mem:=by simp
  obj:=λ i h st b hb=>by
    have e:b=it:=by simpa using hb
    subst e;obtain⟨o,e,c,d⟩:=st;exact⟨o,e,λ v z=>by rw[d]at z;cases z⟩
  keep:=λ i h h' st k=>st.at λ o e=>k it (by simp) o e
  item:=by
    intro X hP hw hK hc i pins s σ H E I hf st hg;subst hP hw hK;obtain⟨xs,x,hq,hx⟩:=hg;obtain⟨its,rv,p,hz⟩:=I.list hq;obtain⟨u,hu,ru⟩:=rv.get hx;obtain⟨f0,f1,f2,f3,f4,f5⟩:=hf it (by simp);refine wpAny_pyNext_list_item st p.isList (x:=u) (by simpa using hu) λ h' st' sb=>?_;have I1:Inv X pins σ H { s with heap:=h' }:=I.turned (t':=s.toks) (λ b o hb e=>(sb.2 b hb).trans e) f0 f1 f3 f4 f5;obtain⟨o,e,c,d⟩:=id st';exact⟨u,rfl,Zcs (s:={ s with heap:=h' }) e c d (by decide) ⟨x,H,I1,ru,⟨rfl,λ ys hy=>by rw[I.list_inj hy hq];exact hx⟩,st',λ b hb=>(hf b hb).1⟩⟩
  done:=by
    intro X hP hw hK hc i pins s σ H E I hf st hg;subst hP hw hK;obtain⟨xs,hq,hx⟩:=hg;obtain⟨its,rv,p,hz⟩:=I.list hq;obtain⟨f0,f1,f2,f3,f4,f5⟩:=hf it (by simp);have hl:=rv.length;exact wpAny_pyNext_list_end (I.ok.hd hc) st p.isList (by simp;omega) λ h' eb=>⟨rfl,I.turned (t':=s.toks) (λ b o hb e=>eb b o hb e) f0 f1 f3 f4 f5⟩
  self:=λ _ _ _ _ _ st h=>wpAny_pyIter_listiter st h
theorem ZaF {P:Program}{w:World}{K:Frag}{tg:Expr}(it:Addr)(lo:Int)(n:Nat):Turn P w K tg (Itr lo n) [it] it (λ i h=>IsRangeIter h it (lo+(i:Nat) * 1) ((n:Int) - (i:Nat)) 1) where
  mem:=by simp
  obj:=λ i h st b hb=>by
    have e:b=it:=by simpa using hb
    subst e;exact⟨_,st,λ v z=>by
      have z':Data.fields _=Data.cell v:=z;cases z'⟩
  keep:=λ i h h' st k=>k it (by simp) _ st
  item:=by
    intro X hP hw hK hc i pins s σ H E I hf st hg;subst hP hw hK;obtain⟨f0,f1,f2,f3,f4,f5⟩:=hf it (by simp);have W:=Walks.range (prog:=X.prog) (w:=X.w) (I.ok.hd hc) it lo 1 n;refine W.item i s _ _ hg st λ v h' tk hv st' kk=>?_;obtain⟨t,rfl⟩:=hv;have I1:Inv X pins σ H { s with heap:=h',toks:=tk }:=I.turned (λ b o hb e=>kk b o (by simpa using hb) e) f0 f1 f3 f4 f5;refine⟨_,rfl,Zcs (s:={ s with heap:=h',toks:=tk }) (n:="range_iterator") st' rfl rfl (by decide) ⟨.int (lo+i),H,I1,⟨t,?_⟩,⟨rfl,rfl⟩,st',λ b hb=>(hf b hb).1⟩⟩;rw[Int.mul_one]
  done:=by
    intro X hP hw hK hc i pins s σ H E I hf st hg;subst hP hw hK;obtain⟨f0,f1,f2,f3,f4,f5⟩:=hf it (by simp);exact wpAny_pyNext_range_end (I.ok.hd hc) st (by have:n<=i:=hg;omega) λ h' eb=>⟨rfl,I.turned (t':=s.toks) (λ b o hb e=>eb b o hb e) f0 f1 f3 f4 f5⟩
  self:=λ _ _ _ _ _ st h=>wpAny_pyIter_rangeiter st h
open PySem PySem.Spec PyProof.Rows
section
variable {X:Cx}{tg:Expr}
noncomputable def iList (K:Frag)(tl:TE):TI:=λ σ H R=>tl σ H λ x H1=>∃ a,x = .ref a/\(∃ xs,SqL K H1 a xs)/\R (Itl K a) H1
theorem Z7 {l:Expr}{tl:TE}(hl:PE X l tl):PI X tg l (iList X.K tl):=by
 refine⟨?_⟩;intro pins s σ H R I h;refine thn (hl pins s σ H _ I h) λ v s1 zz9=>?_;obtain⟨x,H1,I1,r1,q1⟩:=zz9;obtain⟨a,e,⟨xs,hq⟩,q⟩:=q1;subst e;cases r1;obtain⟨its,rv,p,hz⟩:=I1.list hq;refine wpAny_pyIter_list p.isList ?_;refine⟨s1.heap.objs.size,[s1.heap.objs.size],_,_,H1,rfl,I1.kept (t':=s1.toks) λ b o e=>Heap.get?_push_of_some _ e,Zbj a _,⟨_,Heap.get?_push_size _ rfl,rfl,rfl⟩,λ b hb=>?_,q⟩;have e:b=s1.heap.objs.size:=by simpa using hb
 subst e;exact I1.fpOk (le_refl _) (I1.hok.fresh (le_refl _))
theorem ZbX {pins:List (Addr×Obj)}{σ:St}{H:Hp}{s:Shared}{R:It->Hp->Prop}{E:Value->Shared->Prop}{lo hi:Int}{t u v:Tok}{tk:Nat}(I:Inv X pins σ H s)(h1 : -(2 ^ 62)<=lo)(h2:lo<2 ^ 62)(h3 : -(2 ^ 62)<=hi)(h4:hi<2 ^ 62)(q:R (Itr lo (hi - lo).toNat) H):wpAny (model X.prog X.w) X.A (pyIter (.ref s.heap.objs.size)) (PIE X pins σ tg R) E { s with heap:=s.heap.push { cls:=.type "range",data:=.fields #[.int lo t, .int hi u, .int 1 v] },toks:=tk }:=by
  refine wpAny_pyIter_range (IsRange.new ..) (small_one h1 h2 h3 h4) ?_;have I1:Inv X pins σ H { s with heap:=s.heap.push { cls:=.type "range",data:=.fields #[.int lo t, .int hi u, .int 1 v] },toks:=tk }:=I.kept λ b o e=>Heap.get?_push_of_some _ e;refine⟨(s.heap.push { cls:=.type "range",data:=.fields #[.int lo t, .int hi u, .int 1 v] }).objs.size,[(s.heap.push { cls:=.type "range",data:=.fields #[.int lo t, .int hi u, .int 1 v] }).objs.size],_,_,H,rfl,
    I1.kept (t':=tk) λ b o e=>Heap.get?_push_of_some _ e,ZaF _ lo (hi - lo).toNat,?_,λ b hb=>?_,q⟩
  . have e1:lo+((0:Nat):Int) * 1=lo:=by simp
    have e2:(((hi - lo).toNat:Nat):Int) - ((0:Nat):Int)=Builtin.Range.rangeSize lo hi 1:=by rw[rangeSize_one];split <;> omega
    show IsRangeIter _ _ (lo+((0:Nat):Int) * 1) ((((hi - lo).toNat:Nat):Int) - ((0:Nat):Int)) 1;rw[e1,e2];exact Heap.get?_push_size _ rfl
  . have e:b=(s.heap.push { cls:=.type "range",data:=.fields #[.int lo t, .int hi u, .int 1 v] }).objs.size:=by simpa using hb
    subst e;exact I1.fpOk (le_refl _) (I1.hok.fresh (le_refl _))
noncomputable def iRng1 (ta:TA):TI:=λ σ H R=>ta σ H λ vs H1=>∃ j:Int,vs=[.int j] /\ -(2 ^ 62)<=j/\j<2 ^ 62/\R (Itr 0 j.toNat) H1
theorem XE {a:Expr}{ta:TA}{p pos:Pos}(hg:Gl X "range")(hm:X.mg "range"=none)(ha:PA X [a] ta)(hs:starEach [a] X.env=[(false,eval a X.env)]:=by rfl):PI X tg (.Call (.Name "range" p) [a] [] pos) (iRng1 ta):=by
  refine⟨?_⟩;intro pins s σ H R I h;refine Call_ (Jo I hg hm boot_range (PyProof.Rows.callWith_type1 (thn (ha pos pins s σ H _ I h) λ us s1 zz9=>?_) hs rfl));obtain⟨vs,H1,I1,r1,q1⟩:=zz9;obtain⟨j,e,q1,q2,q⟩:=q1;subst e;cases r1 with
  |cons r rr=>
    cases rr;obtain⟨t,rfl⟩:=r;exact call_range_1 (ZbX I1 (by omega) (by omega) q1 q2 (by simpa using q))
noncomputable def tFor (wi:TI)(g:TG)(tb:TS):TS:=λ D σ H=>wi σ H λ J H1=>∃ W:Nat->Nat->St->Hp->Prop,(∃ m,W 0 m σ H1)/\∀ i m σ H,W i m σ H ->
 (J.stop i H/\D.nx σ H)\/(J.go i H/\∃ N:St->Hp->Prop,(∀ σ' H',N σ' H'->∃ m',m'<m/\W (i+1) m' σ' H')/\∀ x H',J.yld i H x H'->g x σ H' λ σ2 H2=>tb { D with nx:=N,ct:=N,bk:=D.nx } σ2 H2)
noncomputable def XD (fp:List Addr)(h:Heap):List (Addr×Obj):=fp.filterMap λ b=>(h.get? b).map λ o=>(b,o)
theorem ZZ {fp:List Addr}{h:Heap}{b:Addr}{o:Obj}(hb:b∈fp)(e:h.get? b=some o):(b,o)∈XD fp h:=List.mem_filterMap.mpr ⟨b,hb,by rw[e];rfl⟩
theorem Zbx {fp:List Addr}{h:Heap}{p:Addr×Obj}(hp:p∈XD fp h):p.1∈fp/\h.get? p.1=some p.2:=by
  obtain⟨b,hb,e⟩:=List.mem_filterMap.mp hp;cases q:h.get? b with
  |none=>rw[q]at e;cases e
  |some o=>
    rw[q]at e;have e':(b,o)=p:=Option.some.inj e;subst e';exact⟨hb,q⟩
theorem Inv.pinned {pins:List (Addr×Obj)}{σ:St}{H:Hp}{s:Shared}{fp:List Addr}(I:Inv X pins σ H s)(hf:∀ b∈fp,Y8 X pins H b)(ho:∀ b∈fp,∃ o,s.heap.get? b=some o/\∀ v,o.data ≠ .cell v):Inv X (pins++XD fp s.heap) σ H s:=
  I.pins_of λ p hp=>(List.mem_append.mp hp).elim (λ z=>I.pin p (mem_append_right _ z)) λ z=>by
    obtain⟨hb,e⟩:=Zbx z;obtain⟨f0,f1,f2,_⟩:=hf p.1 hb;obtain⟨o,e',d⟩:=ho p.1 hb;rw[e]at e';cases e';exact⟨e,f0,f1,f2,d⟩
theorem Inv.unpinned {pins pl:List (Addr×Obj)}{σ:St}{H:Hp}{s:Shared}(I:Inv X (pins++pl) σ H s):Inv X pins σ H s:=I.pins_of λ p hp=>I.pin p (mem_append_right _ (List.mem_append_left _ hp))
theorem Yf {iter:Expr}{body:List Stmt}{wi:TI}{g:TG}{tb:TS}{pos:Pos}(hp:PassesOwn (model X.prog X.w) X.A X.env X.xe)(hc:X.calm=true)(hi:PI X tg iter wi)(hg:PG X tg g)(hb:PSs X body tb)(hs:∀ x,foldedSetIterable iter X.env x=pure x:=by intro _;rfl):PS X (.For tg iter body [] pos) (tFor wi g tb):=by
  refine⟨?_⟩;intro pins s σ H D I h;refine wpAny_For (thn (hi pins s σ H _ I h) λ v s1 h1=>thn h1 λ itv s2 h2=>?_) hs;obtain⟨it,fp,tn,J,H2,e,I2,T,st2,f2,W,⟨m0,w0⟩,turn⟩:=h2;subst e;have stat:∀ {H':Hp},(∀ b∈fp,H' b=none)->∀ b∈fp,Y8 X pins H' b:=λ hn b hb=>⟨hn b hb,(f2 b hb).2⟩;refine codeAny_forLoop_any (λ n s'=>∃ i σ' H',Inv X pins σ' H' s'/\tn i s'.heap/\(∀ b∈fp,H' b=none)/\W i n σ' H') ?_ m0 ⟨0,σ,H2,I2,st2,λ b hb=>(f2 b hb).1,w0⟩;rintro n s3 ⟨i,σ3,H3,I3,st3,fr3,w3⟩;rcases turn i n σ3 H3 w3 with ⟨stop,qn⟩|⟨go,N,hN,step⟩
  . refine wpAny_passesOwn hp (thn (T.done X rfl rfl rfl hc i pins s3 σ3 H3 X.xe I3 (stat fr3) st3 stop) λ r s4 zz9=>?_);obtain⟨hr,I4⟩:=zz9;subst hr;exact wpAny_execs_nil ⟨σ3,H3,I4,qn⟩
  . refine wpAny_passesOwn hp (thn (T.item X rfl rfl rfl hc i pins s3 σ3 H3 X.xe I3 (stat fr3) st3 go) λ r s4 zz9=>?_);obtain⟨u,hr,h4⟩:=zz9;subst hr;refine wpAny_passesOwn hp (thn h4 λ _ s5 zz9=>?_);obtain⟨x,H5,I5,r5,y5,st5,fr5⟩:=zz9;have I5':=I5.pinned (stat fr5) (T.obj _ _ st5);refine wpAny_passesOwn hp (thn (hg _ s5 σ3 H5 x u _ I5' r5 (step x H5 y5)) λ _ s6 zz9=>?_);obtain⟨σ6,H6,I6,q6⟩:=zz9;refine wpAny_passesOwn hp (thn (hb _ s6 σ6 H6 _ I6 q6) λ f s7 q7=>?_);have again:∀ {σ7:St} {H7:Hp},Inv X (pins++XD fp s5.heap) σ7 H7 s7->N σ7 H7->∃ m,m<n/\∃ i σ' H',Inv X pins σ' H' s7/\tn i s7.heap/\(∀ b∈fp,H' b=none)/\W i m σ' H':=λ {σ7 H7} I7 n7=>by
      obtain⟨m',hm,w7⟩:=hN σ7 H7 n7;refine⟨m',hm,i+1,σ7,H7,I7.unpinned,T.keep _ _ _ st5 λ b hb o e=>(I7.pin (b,o) (mem_append_right _ (mem_append_right _ (ZZ hb e)))).1,λ b hb=>?_,w7⟩;obtain⟨o,e,d⟩:=T.obj _ _ st5 b hb;exact(I7.pin (b,o) (mem_append_right _ (mem_append_right _ (ZZ hb e)))).2.1
    cases f with
    |next=>obtain⟨σ7,H7,I7,n7⟩:=q7;exact again I7 n7
    |cont=>obtain⟨σ7,H7,I7,n7⟩:=q7;exact again I7 n7
    |brk=>obtain⟨σ7,H7,I7,q7⟩:=q7;exact⟨σ7,H7,I7.unpinned,q7⟩
    |ret v=>obtain⟨x7,σ7,H7,I7,r7,q7⟩:=q7;exact⟨x7,σ7,H7,I7.unpinned,r7,q7⟩
end
theorem Yn {K:Frag}{a:Addr}{xs:List V}{g:TG}{tb:TS}{D:Ends}{σ:St}{H:Hp}(Pv:Nat->St->Hp->Prop)(h0:Pv 0 σ H)(hl:∀ i σ H,i<=xs.length->Pv i σ H->SqL K H a xs)(hs:∀ i x σ H,xs[i]? = some x->Pv i σ H->g x σ H λ σ2 H2=>tb { D with nx:=Pv (i+1),ct:=Pv (i+1),bk:=D.nx } σ2 H2)(hd:∀ σ H,Pv xs.length σ H->D.nx σ H) :
    ∃ W:Nat->Nat->St->Hp->Prop,(∃ m,W 0 m σ H)/\∀ i m σ H,W i m σ H ->
      ((Itl K a).stop i H/\D.nx σ H)\/((Itl K a).go i H/\∃ N:St->Hp->Prop,(∀ σ' H',N σ' H'->∃ m',m'<m/\W (i+1) m' σ' H')/\∀ x H',(Itl K a).yld i H x H'->g x σ H' λ σ2 H2=>tb { D with nx:=N,ct:=N,bk:=D.nx } σ2 H2):=by
  refine⟨λ i m σ H=>m=xs.length - i/\i<=xs.length/\Pv i σ H,⟨xs.length,by simp,zero_le _,h0⟩,?_⟩;rintro i m σ H ⟨rfl,hi,p⟩;have q:=hl i σ H hi p
  by_cases hlt:i<xs.length
  . refine .inr ⟨⟨xs,xs[i],q,by simp[hlt]⟩,Pv (i+1),λ σ' H' p'=>⟨xs.length - (i+1),by omega,rfl,hlt,p'⟩,λ x H' y=>?_⟩;obtain⟨e,y⟩:=y;subst e;exact hs i x σ _ (y xs q) p
  . have e:i=xs.length:=by omega
    subst e;exact .inl ⟨⟨xs,q,le_refl _⟩,hd σ H p⟩
theorem XJ {lo:Int}{n:Nat}{g:TG}{tb:TS}{D:Ends}{σ:St}{H:Hp}(Pv:Nat->St->Hp->Prop)(h0:Pv 0 σ H)(hs:∀ i σ H,i<n->Pv i σ H->g (.int (lo+i)) σ H λ σ2 H2=>tb { D with nx:=Pv (i+1),ct:=Pv (i+1),bk:=D.nx } σ2 H2)(hd:∀ σ H,Pv n σ H->D.nx σ H) :
    ∃ W:Nat->Nat->St->Hp->Prop,(∃ m,W 0 m σ H)/\∀ i m σ H,W i m σ H ->
      ((Itr lo n).stop i H/\D.nx σ H)\/((Itr lo n).go i H/\∃ N:St->Hp->Prop,(∀ σ' H',N σ' H'->∃ m',m'<m/\W (i+1) m' σ' H')/\∀ x H',(Itr lo n).yld i H x H'->g x σ H' λ σ2 H2=>tb { D with nx:=N,ct:=N,bk:=D.nx } σ2 H2):=by
  refine⟨λ i m σ H=>m=n - i/\i<=n/\Pv i σ H,⟨n,by simp,zero_le _,h0⟩,?_⟩;rintro i m σ H ⟨rfl,hi,p⟩
  by_cases hlt:i<n
  . refine .inr ⟨hlt,Pv (i+1),λ σ' H' p'=>⟨n - (i+1),by omega,rfl,hlt,p'⟩,λ x H' y=>?_⟩;obtain⟨e,y⟩:=y;subst e y;exact hs i σ _ hlt p
  . have e:i=n:=by omega
    subst e;exact .inl ⟨le_refl _,hd σ H p⟩
theorem Zae {c:TT}{tb:TS}{D:Ends}{σ:St}{H:Hp}(Pv:St->Hp->Prop)(μ:St->Hp->Nat)(h0:Pv σ H)(hs:∀ σ H,Pv σ H->c σ H λ b H1=>if b=true then tb { D with nx:=λ σ' H'=>Pv σ' H'/\μ σ' H'<μ σ H,ct:=λ σ' H'=>Pv σ' H'/\μ σ' H'<μ σ H,bk:=D.nx } σ H1 else D.nx σ H1)(mono:∀ σ H Q Q',(∀ b H1,Q b H1->Q' b H1)->c σ H Q->c σ H Q'):ZbQ c tb D σ H:=by
  refine⟨λ m σ H=>m=μ σ H/\Pv σ H,⟨_,rfl,h0⟩,?_⟩;rintro m σ H ⟨rfl,p⟩;refine mono σ H _ _ (λ b H1 q=>?_) (hs σ H p);cases b with
  |true=>exact⟨_,λ σ' H' ⟨p',l⟩=>⟨_,l,rfl,p'⟩,q⟩
  |false=>exact q
open PySem PySem.Spec PyProof.Rows
noncomputable abbrev R2:=V->V->Hp->VK->Prop
noncomputable def OpR (X:Cx)(f:Value->Value->Sem Value)(r:R2):Prop:=
  ∀(pins:List (Addr×Obj))(s:Shared)(σ:St)(H:Hp)(x y:V)(v u:Value)(Q:VK),Inv X pins σ H s->Zq x v->Zq y u->r x y H Q ->
    wpAny (model X.prog X.w) X.A (f v u) (EP X pins σ Q) X.xe s
noncomputable def YD (X:Cx)(f:Value)(r:List V->Hp->VK->Prop):Prop:=
  ∀(pins:List (Addr×Obj))(s:Shared)(σ:St)(H:Hp)(xs:List V)(us:List Value)(Q:VK),Inv X pins σ H s->ZJ xs us->r xs H Q ->
    wpAny (model X.prog X.w) X.A (call f us) (EP X pins σ Q) X.xe s
noncomputable def tOp (r:R2)(ta tb:TE):TE:=λ σ H Q=>ta σ H λ x H1=>tb σ H1 λ y H2=>r x y H2 Q
noncomputable def rI (C:Int->Int->Prop)(g:Int->Int->V):R2:=λ x y H Q=>∃ i j,x = .int i/\y = .int j/\C i j/\Q (g i j) H
noncomputable def rI0 (g:Int->Int->V):R2:=λ x y H Q=>∃ i j,x = .int i/\y = .int j/\Q (g i j) H
section
variable {X:Cx}{a b c:Expr}{ta tb tc:TE}{pos:Pos}
theorem binT (ha:PE X a ta)(hb:PE X b tb){pins:List (Addr×Obj)}{s:Shared}{σ:St}{H:Hp}{R:V->V->Hp->Prop}(I:Inv X pins σ H s)(h:ta σ H λ x H1=>tb σ H1 λ y H2=>R x y H2){Q:Value->Shared->Prop}{f:Value->Value->Sem Value}(hf:∀ v u s2 x y H2,Inv X pins σ H2 s2->Zq x v->Zq y u->R x y H2->wpAny (model X.prog X.w) X.A (f v u) Q X.xe s2) :
    wpAny (model X.prog X.w) X.A (eval a X.env) (λ v s₁=>wpAny (model X.prog X.w) X.A (eval b X.env) (λ u s₂=>wpAny (model X.prog X.w) X.A (f v u) Q X.xe s₂) X.xe s₁) X.xe s:=by
  refine thn (ha pins s σ H _ I h) λ v s1 zz9=>?_;obtain⟨x,H1,I1,r1,q1⟩:=zz9;refine thn (hb pins s1 σ H1 _ I1 q1) λ u s2 zz9=>?_;obtain⟨y,H2,I2,r2,q2⟩:=zz9;exact hf v u s2 x y H2 I2 r1 r2 q2
theorem Zk {op:Operator}{r:R2}(ho:OpR X (binaryOp op) r)(ha:PE X a ta)(hb:PE X b tb):PE X (.BinOp a op b pos) (tOp r ta tb):=by
 refine⟨?_⟩;intro pins s σ H Q I h;exact wpAny_BinOp (binT ha hb I h λ v u s2 x y H2 I2 rx ry q=>ho pins s2 σ H2 x y v u Q I2 rx ry q)
theorem opI {f:Value->Value->Sem Value}{C:Int->Int->Prop}{g:Int->Int->Int}(rule:∀(i j:Int)(t u:Tok)(s:Shared)(Q:Value->Shared->Prop)(E:Value->Shared->Prop),C i j->Q (.int (g i j) s.toks) { s with toks:=s.toks+1 }->wpAny (model X.prog X.w) X.A (f (.int i t) (.int j u)) Q E s) :
    OpR X f (rI C λ i j => .int (g i j)):=by
  intro pins s σ H x y v u Q I rx ry h;obtain⟨i,j,rfl,rfl,hc,q⟩:=h;obtain⟨t,rfl⟩:=rx;obtain⟨t',rfl⟩:=ry;exact rule i j t t' s _ _ hc ⟨.int (g i j),H,I.tok _,⟨_,rfl⟩,q⟩
theorem opI0 {f:Value->Value->Sem Value}{g:Int->Int->Int}(rule:∀(i j:Int)(t u:Tok)(s:Shared)(Q:Value->Shared->Prop)(E:Value->Shared->Prop),Q (.int (g i j) s.toks) { s with toks:=s.toks+1 }->wpAny (model X.prog X.w) X.A (f (.int i t) (.int j u)) Q E s) :
    OpR X f (rI0 λ i j => .int (g i j)):=by
  intro pins s σ H x y v u Q I rx ry h;obtain⟨i,j,rfl,rfl,q⟩:=h;obtain⟨t,rfl⟩:=rx;obtain⟨t',rfl⟩:=ry;exact rule i j t t' s _ _ ⟨.int (g i j),H,I.tok _,⟨_,rfl⟩,q⟩
theorem opB0 {f:Value->Value->Sem Value}{g:Int->Int->Bool}(rule:∀(i j:Int)(t u:Tok)(s:Shared)(Q:Value->Shared->Prop)(E:Value->Shared->Prop),Q (.bool (g i j)) s->wpAny (model X.prog X.w) X.A (f (.int i t) (.int j u)) Q E s) :
    OpR X f (rI0 λ i j => .bl (g i j)):=by
  intro pins s σ H x y v u Q I rx ry h;obtain⟨i,j,rfl,rfl,q⟩:=h;obtain⟨t,rfl⟩:=rx;obtain⟨t',rfl⟩:=ry;exact rule i j t t' s _ _ ⟨.bl (g i j),H,I,rfl,q⟩
noncomputable def CDiv (i j:Int):Prop:=0<j/\j<1073741824
noncomputable def CPow (i j:Int):Prop:=0<=j/\j<=1000000/\i.natAbs<2 ^ 64
noncomputable def CMul (i j:Int):Prop:=(-(2 ^ 64)<i/\i<2 ^ 64)\/(-(2 ^ 64)<j/\j<2 ^ 64)
theorem CMul.ok {i j:Int}(h:CMul i j):IntMulOk i j:=by
  rcases h with ⟨h1,h2⟩|⟨h1,h2⟩
  . exact .of_left (intBits_le_64 h1 h2)
  . exact .of_right (intBits_le_64 h1 h2)
theorem ZT:OpR X (binaryOp .Add) (rI0 λ i j => .int (i+j)):=opI0 λ _ _ _ _ _ _ _ q=>add_int q
theorem YS:OpR X (binaryOp .Mult) (rI CMul λ i j => .int (i * j)):=opI λ _ _ _ _ _ _ _ hc q=>mul_int q hc.ok
theorem ZV:OpR X (binaryOp .FloorDiv) (rI CDiv λ i j => .int (i / j)):=opI λ i j _ _ _ _ _ hc q=>by
 have h1:(0:Int)<j:=hc.1;have h2:j<1073741824:=hc.2;exact floordiv_int (by omega) (by rw[Int.fdiv_eq_ediv_of_nonneg i (by omega)];exact q) (.inl (PyProof.noPylong_small (by omega)))
theorem ZS:OpR X (binaryOp .Mod) (rI (λ _ j=>0<j) λ i j => .int (i % j)):=opI λ i j _ _ _ _ _ hc q=>by
 have h1:(0:Int)<j:=hc;exact mod_int' (by omega) (by rw[Int.fmod_eq_emod_of_nonneg i (by omega)];exact q)
theorem op_pow:OpR X (binaryOp .Pow) (rI CPow λ i j => .int (i ^ j.toNat)):=opI λ _ _ _ _ _ _ _ hc q=>pow_int_small hc.1 hc.2.1 hc.2.2 q
end
noncomputable def scal:V->V->Bool
  |.non, .non=>true|.non, .int _=>true|.int _, .non=>true|.non, .bl _=>true|.bl _, .non=>true|.non, .str _=>true|.str _, .non=>true
  |.int _, .int _=>true|.bl _, .bl _=>true|.str _, .str _=>true|.byt _, .byt _=>true
  |.int _, .str _=>true|.str _, .int _=>true|.bl _, .str _=>true|.str _, .bl _=>true
  |_,_=>false
noncomputable def rEq:R2:=λ x y H Q=>scal x y=true/\Q (.bl (decide (x=y))) H
noncomputable def rNe:R2:=λ x y H Q=>scal x y=true/\Q (.bl (!decide (x=y))) H
theorem Zbb {i j:Int}:decide (V.int i=V.int j)=(i == j):=by
 rw[Bool.eq_iff_iff];simp
theorem Zcy {i j:Bool}:decide (V.bl i=V.bl j)=(i == j):=by
 rw[Bool.eq_iff_iff];simp
theorem Zba {i j:Str}:decide (V.str i=V.str j)=(i == j):=by
 rw[Bool.eq_iff_iff];simp
theorem Zbc {i j:Array UInt8}:decide (V.byt i=V.byt j)=(i.toList == j.toList):=by
 rw[Bool.eq_iff_iff];cases i;cases j;simp
section
variable {X:Cx}{a b c:Expr}{ta tb tc:TE}{pos:Pos}
theorem Zs {pins:List (Addr×Obj)}{σ:St}{H:Hp}{s:Shared}{Q:VK}{k k':Bool}(I:Inv X pins σ H s)(q:Q (.bl k) H)(e:k=k'):EP X pins σ Q (.bool k') s:=by
 subst e;exact⟨.bl k,H,I,rfl,q⟩
theorem JK:OpR X (compareOp .Eq) rEq:=by
  intro pins s σ H x y v u Q I rx ry h;obtain⟨hs,q⟩:=h;cases x with
  |non=>
    cases rx;cases y with
    |non=>cases ry;exact PySem.EqNone.eq_none_none (Zs I q (by simp))
    |bl j=>cases ry;exact PySem.EqNone.eq_none_bool (Zs I q (by simp))
    |int j=>obtain⟨t',rfl⟩:=ry;exact PySem.EqNone.eq_none_int (Zs I q (by simp))
    |str j=>obtain⟨t',rfl⟩:=ry;exact PySem.EqNone.eq_none_str (Zs I q (by simp))
    |_=>exact absurd (show false=true from hs) Bool.false_ne_true
  |bl i=>
    cases rx;cases y with
    |non=>cases ry;exact PySem.EqNone.eq_bool_none (Zs I q (by simp))
    |bl j=>cases ry;exact eq_bool (Zs I q Zcy)
    |str j=>obtain⟨t',rfl⟩:=ry;exact PySem.EqMixed.eq_bool_str (Zs I q (by simp))
    |_=>exact absurd (show false=true from hs) Bool.false_ne_true
  |int i=>
    obtain⟨t,rfl⟩:=rx;cases y with
    |non=>cases ry;exact PySem.EqNone.eq_int_none (Zs I q (by simp))
    |int j=>obtain⟨t',rfl⟩:=ry;exact eq_int (Zs I q Zbb)
    |str j=>obtain⟨t',rfl⟩:=ry;exact PySem.EqMixed.eq_int_str (Zs I q (by simp))
    |_=>exact absurd (show false=true from hs) Bool.false_ne_true
  |str i=>
    obtain⟨t,rfl⟩:=rx;cases y with
    |non=>cases ry;exact PySem.EqNone.eq_str_none (Zs I q (by simp))
    |bl j=>cases ry;exact PySem.EqMixed.eq_str_bool (Zs I q (by simp))
    |int j=>obtain⟨t',rfl⟩:=ry;exact PySem.EqMixed.eq_str_int (Zs I q (by simp))
    |str j=>obtain⟨t',rfl⟩:=ry;exact eq_str (Zs I q Zba)
    |_=>exact absurd (show false=true from hs) Bool.false_ne_true
  |byt i=>
    obtain⟨t,rfl⟩:=rx;cases y with
    |byt j=>obtain⟨t',rfl⟩:=ry;exact PySem.W.eq_bytes (Zs I q Zbc)
    |_=>exact absurd (show false=true from hs) Bool.false_ne_true
  |_=>cases y <;> exact absurd (show false=true from hs) Bool.false_ne_true
theorem op_ne:OpR X (compareOp .NotEq) rNe:=by
  intro pins s σ H x y v u Q I rx ry h;obtain⟨hs,q⟩:=h;cases x with
  |non=>
    cases rx;cases y with
    |non=>cases ry;exact PySem.EqNone.ne_none_none (Zs I q (by simp))
    |bl j=>cases ry;exact PySem.EqNone.ne_none_bool (Zs I q (by simp))
    |int j=>obtain⟨t',rfl⟩:=ry;exact PySem.EqNone.ne_none_int (Zs I q (by simp))
    |str j=>obtain⟨t',rfl⟩:=ry;exact PySem.EqNone.ne_none_str (Zs I q (by simp))
    |_=>exact absurd (show false=true from hs) Bool.false_ne_true
  |bl i=>
    cases rx;cases y with
    |non=>cases ry;exact PySem.EqNone.ne_bool_none (Zs I q (by simp))
    |bl j=>cases ry;exact ne_bool (Zs I q (congrArg not Zcy))
    |str j=>obtain⟨t',rfl⟩:=ry;exact PySem.EqMixed.ne_bool_str (Zs I q (by simp))
    |_=>exact absurd (show false=true from hs) Bool.false_ne_true
  |int i=>
    obtain⟨t,rfl⟩:=rx;cases y with
    |non=>cases ry;exact PySem.EqNone.ne_int_none (Zs I q (by simp))
    |int j=>obtain⟨t',rfl⟩:=ry;exact ne_int (Zs I q (congrArg not Zbb))
    |str j=>obtain⟨t',rfl⟩:=ry;exact PySem.EqMixed.ne_int_str (Zs I q (by simp))
    |_=>exact absurd (show false=true from hs) Bool.false_ne_true
  |str i=>
    obtain⟨t,rfl⟩:=rx;cases y with
    |non=>cases ry;exact PySem.EqNone.ne_str_none (Zs I q (by simp))
    |bl j=>cases ry;exact PySem.EqMixed.ne_str_bool (Zs I q (by simp))
    |int j=>obtain⟨t',rfl⟩:=ry;exact PySem.EqMixed.ne_str_int (Zs I q (by simp))
    |str j=>obtain⟨t',rfl⟩:=ry;exact ne_str (Zs I q (congrArg not Zba))
    |_=>exact absurd (show false=true from hs) Bool.false_ne_true
  |byt i=>
    obtain⟨t,rfl⟩:=rx;cases y with
    |byt j=>obtain⟨t',rfl⟩:=ry;exact PySem.W.ne_bytes (Zs I q (congrArg not Zbc))
    |_=>exact absurd (show false=true from hs) Bool.false_ne_true
  |_=>cases y <;> exact absurd (show false=true from hs) Bool.false_ne_true
theorem Zb7:OpR X (compareOp .Lt) (rI0 λ i j => .bl (decide (i<j))):=opB0 λ _ _ _ _ _ _ _ q=>lt_int q
theorem JJ:OpR X (compareOp .Gt) (rI0 λ i j => .bl (decide (j<i))):=opB0 λ _ _ _ _ _ _ _ q=>gt_int q
theorem op_ge:OpR X (compareOp .GtE) (rI0 λ i j => .bl (decide (j<=i))):=opB0 λ _ _ _ _ _ _ _ q=>ge_int q
theorem Zz (b:Expr){op:CmpOp}(h:op ≠ .In:=by decide)(h2:op ≠ .NotIn:=by decide):behindInMarks op b=false:=by
 have e1:(op == CmpOp.In)=false:=by cases op <;> first|rfl|exact absurd rfl h
 have e2:(op == CmpOp.NotIn)=false:=by cases op <;> first|rfl|exact absurd rfl h2
 cases b <;> simp[behindInMarks,e1,e2]
theorem J4 {op:CmpOp}{r:R2}(ho:OpR X (compareOp op) r)(ha:PE X a ta)(hb:PE X b tb)(hm:behindInMarks op b=false):PE X (.Compare a [op] [b] pos) (tOp r ta tb):=by
 refine⟨?_⟩;intro pins s σ H Q I h;exact wpAny_Compare1 (binT ha hb I h λ v u s2 x y H2 I2 rx ry q=>ho pins s2 σ H2 x y v u Q I2 rx ry q) hm
noncomputable def tTest (t:TE):TT:=λ σ H Q=>t σ H λ x H'=>∃ k,x = .bl k/\Q k H'
theorem Zt {op:CmpOp}{r:R2}(ho:OpR X (compareOp op) r)(ha:PE X a ta)(hb:PE X b tb)(hm:behindInMarks op b=false):PT X (.Compare a [op] [b] pos) (tTest (tOp r ta tb)):=by
  refine⟨?_⟩;intro pins s σ H Q I h;refine wpAny_isTrue_Compare1 (thn (ha pins s σ H _ I h) λ v s1 ⟨x,H1,I1,r1,q1⟩=>thn (hb pins s1 σ H1 _ I1 q1) λ u s2 ⟨y,H2,I2,r2,q2⟩=>
    thn (ho pins s2 σ H2 x y v u _ I2 r1 r2 q2) λ c s3 ⟨z,H3,I3,r3,k,e,q3⟩=>?_) hm
  subst e;cases r3;exact wpAny_truthy_bool ⟨H3,I3,q3⟩
theorem J7:(sizeLine:Nat)<2 ^ 63:=by rw[sizeLine_eq];decide
theorem Jk:OpR X (binaryOp .Add) (λ x y H Q=>∃ i j,x = .str i/\y = .str j/\i.length+j.length<=sizeLine/\Q (.str (i++j)) H):=by
 intro pins s σ H x y v u Q I rx ry h;obtain⟨i,j,rfl,rfl,hz,q⟩:=h;obtain⟨t,rfl⟩:=rx;obtain⟨t',rfl⟩:=ry;exact add_str (λ t' tk=>⟨.str (i++j),H,I.tok _,⟨_,rfl⟩,q⟩) hz
theorem Zag {x:V}{us:List Value}(r:ZJ [x] us):∃ u,us=[u]/\Zq x u:=by
  cases r with
  |cons r1 r2=>cases r2;exact⟨_,rfl,r1⟩
noncomputable def LenV (K:Frag)(x:V)(H:Hp)(n:Nat):Prop:=
  match x with
  |.str y=>y.length<=sizeLine/\n=y.length
  |.byt y=>y.size<=sizeLine/\n=y.size
  |.ref p=>(∃ xs,SqL K H p xs/\n=xs.length)\/∃ xs,SqT K H p xs/\n=xs.length
  |_=>False
theorem Yp:YD X (.builtin "len") (λ xs H Q=>∃ x n,xs=[x]/\LenV X.K x H n/\Q (.int n) H):=by
  intro pins s σ H xs us Q I r h;obtain⟨x,n,rfl,e,q⟩:=h;obtain⟨u,rfl,rx⟩:=Zag r;have hl:=J7;have hs:sizeLine=16777216:=sizeLine_eq;cases x with
  |str y=>
    obtain⟨t,rfl⟩:=rx;obtain⟨hy,e'⟩:y.length<=sizeLine/\n=y.length:=e;subst e';exact len_str (by omega) ⟨.int _,H,I.tok _,⟨_,rfl⟩,q⟩
  |byt y=>
    obtain⟨t,rfl⟩:=rx;obtain⟨hy,e'⟩:y.size<=sizeLine/\n=y.size:=e;subst e';exact PySem.W.len_bytes (by omega) ⟨.int _,H,I.tok _,⟨_,rfl⟩,q⟩
  |ref p=>
    cases rx;have e':(∃ xs,SqL X.K H p xs/\n=xs.length)\/∃ xs,SqT X.K H p xs/\n=xs.length:=e;rcases e' with ⟨xs,hx,e'⟩|⟨xs,hx,e'⟩
    . subst e';obtain⟨its,r',pl,hz⟩:=I.list hx;have hlen:=r'.length;exact Calls.call_len_list pl.isList (by simp only[size_toArray];omega) ⟨.int xs.length,H,I.tok _,⟨_,by simp only[size_toArray];rw[hlen]⟩,q⟩
    . subst e';obtain⟨its,r',pl,hz⟩:=I.tuple hx;have hlen:=r'.length;exact len_tuple pl (by simp only[size_toArray];omega) ⟨.int xs.length,H,I.tok _,⟨_,by simp only[size_toArray];rw[hlen]⟩,q⟩
  |_=>exact(show False from e).elim
end
open PySem PySem.Spec PyProof.Rows
structure ObjM (h:Heap)(x dx C:Addr)(mA:Str->Option Value):Prop where
  obj:h.get? x=some (instObj C dx)
  ns:h.Ns1 dx mA
  ne:dx≠x
theorem ZbA {h:Heap}{dx:Addr}{mA:Str->Option Value}(n:h.Ns1 dx mA):∃ od,h.get? dx=some od/\∀ name,lookIn name od=some (mA name):=by
  obtain⟨o,es,ep,ho,hd,hk,_,hm⟩:=n;refine⟨o,ho,λ name=>?_⟩;have e:=hm name;unfold nsFind findBy at e;rw[<- Array.find?_toList]at e;unfold lookIn;rw[hd];dsimp only;split
  . rename_i y q;rw[q]at e;exact congrArg some e
  . rename_i q;rw[q]at e;have a:es.toList.any (·.refKey)=false:=by
      rw[List.any_eq_false];intro y hy;obtain⟨z,t,hkey⟩:=hk y (Array.mem_toList_iff.mp hy);simp[DictEntry.refKey,hkey]
    have a':¬ es.toList.any (·.refKey)=true:=by rw[a];exact Bool.false_ne_true
    rw[if_neg a'];exact congrArg some e
theorem ObjM.look {h:Heap}{x dx C:Addr}{mA:Str->Option Value}(I:ObjM h x dx C mA):∃ od,PySem.W.InstAt h x (instObj C dx) C (some od)/\∀ name,lookIn name od=some (mA name):=
 let ⟨od,ho,hl⟩:=ZbA I.ns
 ⟨od,⟨I.obj,rfl,rfl,ho⟩,hl⟩
section
variable {prog:Program}{w:World}{A:Around}{E:Value->Shared->Prop}{s:Shared}{K:Frag}{x dx C f:Addr}{mA:Str->Option Value}{name:Str}{v:Value}
end
theorem XM.some_of {v:V}{o:Option Value}(r:XM (some v) o):∃ u,o=some u/\Zq v u:=by
  cases o with
  |none=>exact(show False from r).elim
  |some u=>exact⟨u,rfl,r⟩
section
variable {P:Program}{w:World}{H H':Hp}{h h':Heap}{a C dx:Addr}{fs fs':List (Str×V)}
theorem Zdc (hok:HOk P w H h)(e:H a=some (.ins C dx fs)):∃ mA,ObjM h a dx C mA/\(∀ f,XM (fs.lookup f) (mA f))/\PySem.Within mA (fs.map (·.1))/\fs.length<=1000/\H dx=some (.own a):=by
 obtain⟨d,z,ne,ob,mA,n,r,q⟩:=(show ZI P w H h a (.ins C dx fs) from hok a _ e);exact⟨mA,⟨ob,n,ne⟩,r,q,z,d⟩
end
structure Cls (K:Frag)(C:Addr):Prop where
  pg:plainGet K C Str.empty=true
  hd:PySem.W.hasDictIn K C=true
  po:PySem.W.plainOver K C=true
  sa:findIn K (.ref C) "__setattr__"=some (some (.builtin "object.__setattr__"))
theorem Cls.get {K:Frag}{C:Addr}(c:Cls K C)(f:Str):plainGet K C f=true:=c.pg
noncomputable def NoAttr (K:Frag)(C:Addr)(f:Str):Prop:=findIn K (.ref C) f=some none
section
variable {X:Cx}{pins:List (Addr×Obj)}{σ:St}{H:Hp}{s:Shared}{a C dx:Addr}{fs:List (Str×V)}{f:Str}{v:V}{A:Around}{E:Value->Shared->Prop}
end
section
variable {X:Cx}{o e value:Expr}{f:Str}{pos pos' tpos:Pos}{ta tv:TE}
end
section
variable {X:Cx}{pins:List (Addr×Obj)}{σ:St}{H:Hp}{s:Shared}{A:Around}{E:Value->Shared->Prop}{Q:Value->Shared->Prop}{c:Value}{b:Bool}
inductive TyOf (K:Frag)(H:Hp):V->Value->Prop where
  | non:TyOf K H .non (.type "NoneType")
  | bl (x:Bool):TyOf K H (.bl x) (.type "bool")
  | int (i:Int):TyOf K H (.int i) (.type "int")
  | str (x:Str):TyOf K H (.str x) (.type "str")
  | flt (x:UInt64):TyOf K H (.flt x) (.type "float")
  | lst {a:Addr} {xs:List V} (e:H a=some (.lst xs)):TyOf K H (.ref a) (.type "list")
  | frz {a:Addr} {o:Obj} {xs:List V} (e:H a=some (.frz o (.lst xs))):TyOf K H (.ref a) (.type "list")
  | tup {a:Addr} {xs:List V} (e:H a=some (.tup xs)):TyOf K H (.ref a) (.type "tuple")
  | dK {a:Addr} {kvs:List (Key×V)} (e:H a=some (.dK kvs)):TyOf K H (.ref a) (.type "dict")
  | dT {a:Addr} {kvs:List (List Key×V)} (e:H a=some (.dT kvs)):TyOf K H (.ref a) (.type "dict")
  | ins {a C dx:Addr} {fs:List (Str×V)} (e:H a=some (.ins C dx fs)) (cl:Cls K C) (ha:findIn K (.ref C) "__class__"=some (some (.builtin "object.__class__")))
      (hn:PySem.W.specialIn K (.builtin "object.__class__") "__get__"=some (some (.builtin "getset_descriptor.__get__"))) (htk:PySem.W.takesIn K (.builtin "object.__class__")=some true)
      (hm:PySem.W.mroIn K C (.type "object")=some true):TyOf K H (.ref a) (.ref C)
theorem ZbF {x:V}{u t:Value}(I:Inv X pins σ H s)(rx:Zq x u)(ty:TyOf X.K H x t)(e:PySem.W.kitOne X.K t c=some b)(h:∀ tk,Q (.bool b) { s with toks:=tk }) :
    wpAny (model X.prog X.w) A (call (.builtin "isinstance") [u,c]) Q E s:=by
  cases ty with
  |non=>cases (show u=Value.none from rx);exact PySem.W.kia_one PySem.W.kitx_none I.kIn True.intro e (λ z=>nomatch z) h
  |bl y=>cases (show u=Value.bool y from rx);exact PySem.W.kia_one PySem.W.kitx_bool I.kIn True.intro e (λ z=>nomatch z) h
  |int i=>obtain⟨t,q⟩:=(show ∃ t,u=Value.int i t from rx);cases q;exact PySem.W.kia_one PySem.W.kitx_int I.kIn True.intro e (λ z=>nomatch z) h
  |str y=>obtain⟨t,q⟩:=(show ∃ t,u=Value.str y t from rx);cases q;exact PySem.W.kia_one PySem.W.kitx_str I.kIn True.intro e (λ z=>nomatch z) h
  |flt y=>obtain⟨t,q⟩:=(show ∃ t,u=Value.float y t from rx);cases q;exact PySem.W.kia_one PySem.W.kitx_float I.kIn True.intro e (λ z=>nomatch z) h
  |@lst a xs ea=>
    cases (show u=Value.ref a from rx);obtain⟨_,_,n,_,h1⟩:=(show ZI X.prog X.w H s.heap a (.lst xs) from I.hok a _ ea);exact PySem.W.kia_one PySem.W.kitx_list I.kIn ⟨_,h1,rfl⟩ e (λ z=>nomatch z) h
  |@frz a ob xs ea=>
    cases (show u=Value.ref a from rx);obtain⟨_,_,_,n,_,h1⟩:=(show ZI X.prog X.w H s.heap a (.frz ob (.lst xs)) from I.hok a _ ea);exact PySem.W.kia_one PySem.W.kitx_list I.kIn ⟨_,h1,rfl⟩ e (λ z=>nomatch z) h
  |@tup a xs ea=>
    cases (show u=Value.ref a from rx);obtain⟨_,_,_,p⟩:=(show ZI X.prog X.w H s.heap a (.tup xs) from I.hok a _ ea);obtain⟨o,h1,h2,_⟩:=p;exact PySem.W.kia_one PySem.W.kitx_tuple I.kIn ⟨o,h1,h2⟩ e (λ z=>nomatch z) h
  |@dK a kvs ea=>
    cases (show u=Value.ref a from rx);obtain⟨_,_,vs,_,p⟩:=(show ZI X.prog X.w H s.heap a (.dK kvs) from I.hok a _ ea);obtain⟨o,es,ep,h1,h2,_⟩:=p;exact PySem.W.kia_one PySem.W.kitx_dict I.kIn ⟨o,h1,h2.1⟩ e (λ z=>nomatch z) h
  |@dT a kvs ea=>
    cases (show u=Value.ref a from rx);obtain⟨_,_,xs,_,o,es,ep,h1,h2,_⟩:=(show ZI X.prog X.w H s.heap a (.dT kvs) from I.hok a _ ea);exact PySem.W.kia_one PySem.W.kitx_dict I.kIn ⟨o,h1,h2.1⟩ e (λ z=>nomatch z) h
  |@ins a C dx fs ea cl ha hn htk hm=>
    cases (show u=Value.ref a from rx);obtain⟨mA,O,_⟩:=Zdc I.hok ea;obtain⟨od,J,_⟩:=O.look;exact PySem.W.kia_one (PySem.W.kitx_own (cl.get _) cl.hd ha hn htk hm) I.kIn J e (λ z=>nomatch z) h
end
open PySem PySem.Spec PyProof.Rows
structure Room (k:Nat)(A:Around):Prop where
  hd:A.handled=none
  dp:A.depth+3 * k+5<recursionLimit
  un:A.units+16 * k+200<cLine
theorem Room.mono {j k:Nat}{A:Around}(r:Room k A)(h:j<=k):Room j A:=⟨r.hd,by have:=r.dp;omega,by have:=r.un;omega⟩
theorem Room.deeper {k:Nat}{A:Around}(r:Room (k+1) A)(env:Env):Room k (A.deeper env):=
 ⟨r.hd,by have:=r.dp;show A.depth+1+3 * k+5<_;omega,by have:=r.un;show A.units+3+16 * k+200<_;omega⟩
theorem Room.depth {k:Nat}{A:Around}(r:Room k A):A.depth<recursionLimit:=by have:=r.dp;omega
theorem Room.units {k:Nat}{A:Around}(r:Room k A):A.units+64<cLine:=by have:=r.un;omega
noncomputable def tNil:TA:=λ _ H Q=>Q [] H
noncomputable def tCons (ta:TE)(tr:TA):TA:=λ σ H Q=>ta σ H λ x H1=>tr σ H1 λ xs H2=>Q (x::xs) H2
section
variable {X:Cx}{e:Expr}{es:List Expr}{te:TE}{t:TA}{pos:Pos}
theorem Ze:PA X [] tNil:=⟨λ _ _ _ _ H Q I h=>Calls.spliced_nil ⟨[],H,I, .nil,h⟩⟩
theorem Za (ha:PE X e te)(hr:PA X es t)(hs:starEach (e::es) X.env=(false,eval e X.env)::starEach es X.env:=by rfl):PA X (e::es) (tCons te t):=by
 refine⟨?_⟩;intro pos pins s σ H Q I h;rw[hs];show wpAny _ _ (spliced ((false,eval e X.env)::backTo pos (starEach es X.env))) _ _ s;refine Calls.spliced_cons (thn (ha pins s σ H _ I h) λ u s1 zz9=>?_);obtain⟨x,H1,I1,r1,q1⟩:=zz9;exact thn (hr pos pins s1 σ H1 _ I1 q1) λ us s2 ⟨xs,H2,I2,r2,q2⟩=>⟨x::xs,H2,I2, .cons r1 r2,q2⟩
noncomputable def tTup (t:TA):TE:=λ σ H Q=>t σ H λ xs H1=>xs.length<=sizeLine/\∀ p,H1 p=none->Q (.ref p) (upd H1 p (.tup xs))
noncomputable def tLst (t:TA):TE:=λ σ H Q=>t σ H λ xs H1=>xs.length<=sizeLine/\∀ p,H1 p=none->Q (.ref p) (upd H1 p (.lst xs))
theorem ZQ {x1}(h:PA X es t):PE X (.Tuple es x1 pos) (tTup t):=by
 refine⟨?_⟩;intro pins s σ H Q I hq;refine wpAny_Tuple_spliced (thn (h pos pins s σ H _ I hq) λ us s1 ⟨xs,H1,I1,r,z,q⟩=>⟨by rw[<- r.length];exact z,?_⟩);have hf:H1 s1.heap.objs.size=none:=I1.hok.fresh (le_refl _);refine⟨.ref s1.heap.objs.size,upd H1 s1.heap.objs.size (.tup xs),I1.laid (t':=s1.toks) (λ b u e=>Heap.get?_push_of_some _ e) (le_refl _) ?_,rfl,q _ hf⟩;exact⟨z,us,r,⟨_,Heap.get?_push_size _ rfl,rfl,_,rfl⟩⟩
theorem J3 (h:PA X es t):PE X (.List es pos) (tLst t):=by
 refine⟨?_⟩;intro pins s σ H Q I hq;refine wpAny_List_spliced (thn (h pos pins s σ H _ I hq) λ us s1 ⟨xs,H1,I1,r,z,q⟩=>⟨by rw[<- r.length];exact z,?_⟩);have hf:H1 s1.heap.objs.size=none:=I1.hok.fresh (le_refl _);refine⟨.ref s1.heap.objs.size,upd H1 s1.heap.objs.size (.lst xs),I1.laid (t':=s1.toks) (λ b u e=>Heap.get?_push_of_some _ e) (le_refl _) ?_,rfl,q _ hf⟩;exact⟨z,us,0,r,Heap.get?_push_size _ rfl⟩
end
noncomputable abbrev Sp:=List V->Hp->VK->XK->Prop
noncomputable abbrev CXT:=List Env->Hp->Shared->XK->Value->Shared->Prop
structure Env0 (P:Program)(w:World)(K:Frag)(mg:Str->Option Value)(base:Heap)(A:Around)(outer:List Env)(s:Shared)(H:Hp):Prop where
  frames:A.frames=some outer
  mod:Mod K mg base
  bs:∀ b o,base.get? b=some o->s.heap.get? b=some o/\H b=none
  bsz:base.objs.size<=s.heap.objs.size
  funs:s.heap.FunFrames base outer
  frf:∀ b∈frs outer,H b=none
  hok:HOk P w H s.heap
  bare:AllBare s.gens
noncomputable def CE (outer:List Env)(P:Program)(w:World)(H:Hp)(s:Shared)(Q:VK)(u:Value)(s':Shared):Prop:=
 ∃ v H',s'.os=s.os/\AllBare s'.gens/\Un (frs outer) [] H H' s.heap s'.heap/\HOk P w H' s'.heap/\Zq v u/\Q v H'
noncomputable def CR (CX:CXT)(outer:List Env)(P:Program)(w:World)(H:Hp)(s:Shared)(Q:VK)(E:XK)(r:Result)(s':Shared):Prop:=
  match r with
  |.ok (.ret u)=>CE outer P w H s Q u s'
  |.ok _=>False
  |.error e=>CX outer H s E e s'
structure FnOk (P:Program)(w:World)(K:Frag)(mg:Str->Option Value)(base:Heap)(CX:CXT)(k:Nat)(f:Addr)(fd:FuncData)(ps:List Str)(sp:Sp):Prop where
  len:∀ vs H Q E,sp vs H Q E->vs.length=ps.length
  run:∀(A:Around)(outer:List Env)(s:Shared)(H:Hp)(args:Args)(us:List Value)(vs:List V)(Q:VK)(E:XK),Room k A->Env0 P w K mg base A outer s H->BindsTo s fd args (ps.zip us)->ZJ vs us->sp vs H Q E ->
    codeAny (model P w) A (.call (.ref f) args) (CR CX outer P w H s Q E) s
theorem FnOk.mono {P:Program}{w:World}{K:Frag}{mg:Str->Option Value}{base:Heap}{CX:CXT}{j k:Nat}{f:Addr}{fd:FuncData}{ps:List Str}{sp:Sp}(F:FnOk P w K mg base CX j f fd ps sp)(h:j<=k) :
    FnOk P w K mg base CX k f fd ps sp:=⟨F.len,λ A outer s H args us vs Q E hr=>F.run A outer s H args us vs Q E (hr.mono h)⟩
section
variable {X:Cx}{pins:List (Addr×Obj)}{σ:St}{H:Hp}{s s':Shared}
theorem Inv.env0 (I:Inv X pins σ H s):Env0 X.prog X.w X.K X.mg X.base X.A X.stack s H:=
 ⟨I.ok.frames,I.ok.mod,I.bs,le_trans I.ok.bsz I.sz,I.stack,I.stkFree,I.hok,I.bare⟩
theorem Inv.after {Q:VK}{u:Value}(I:Inv X pins σ H s)(h:CE X.stack X.prog X.w H s Q u s'):EP X pins σ Q u s':=by
 obtain⟨v,H',os,bare,un,hok,r,q⟩:=h;obtain⟨hh,g,d,t,os'⟩:=s';obtain rfl:os'=s.os:=os;exact⟨v,H',I.call (h':=hh) (g':=g) (d':=d) (t':=t) (ch:=[]) un hok bare (λ b z=>absurd z (by simp)),r,q⟩
end
noncomputable def tCall (sp:Sp)(dvs:List V)(E:XK)(t:TA):TE:=λ σ H Q=>t σ H λ vs H1=>sp (vs++dvs) H1 Q E
noncomputable def JV (K:Frag)(fd:FuncData)(ps:List Str)(ds:List Value):Prop:=
 ∀(s:Shared)(us:List Value),K.In s.heap->(us++ds).length=ps.length->BindsTo s fd ⟨us,[]⟩ (ps.zip (us++ds))
theorem JV.all {K:Frag}{fd:FuncData}{ps:List Str}(h:∀ us:List Value,us.length=ps.length->bindArgs fd ⟨us,[]⟩=pure (ps.zip us)):JV K fd ps []:=λ s us _ hl=>by
 rw[append_nil]at hl ⊢;exact .of_eq (h us hl)
noncomputable def ZaV (CX:CXT)(X:Cx)(E:XK):Prop:=∀(pins:List (Addr×Obj))(σ:St)(H:Hp)(s:Shared)(e:Value)(s':Shared),Inv X pins σ H s->CX X.stack H s E e s'->X.xe e s'
section
variable {X:Cx}{CX:CXT}{k:Nat}{f C:Addr}{fd:FuncData}{ps:List Str}{sp:Sp}{dvs:List V}{ds:List Value}{E:XK}{x m:Str}{p pos apos:Pos}{e o:Expr}{es:List Expr}{ta:TE}{t:TA}
theorem run_fn {pins:List (Addr×Obj)}{σ:St}{H:Hp}{s:Shared}{Q:VK}{us:List Value}{vs:List V}(F:FnOk X.prog X.w X.K X.mg X.base CX k f fd ps sp)(hr:Room k X.A)(hb:JV X.K fd ps ds)(hd:ZJ dvs ds)(hx:ZaV CX X E)(I:Inv X pins σ H s)(r:ZJ vs us)(h:sp (vs++dvs) H Q E):wpAny (model X.prog X.w) X.A (call (.ref f) us) (EP X pins σ Q) X.xe s:=by
  have r2:ZJ (vs++dvs) (us++ds):=r.append hd;have hl:(us++ds).length=ps.length:=by rw[<- r2.length];exact F.len _ _ _ _ h
  refine wpAny_call (codeAny_mono (F.run X.A X.stack s H ⟨us,[]⟩ (us++ds) (vs++dvs) Q E hr I.env0 (hb s us I.kIn hl) r2 h) λ r s' hq=>?_);cases r with
  |error e=>exact hx pins σ H s e s' I hq
  |ok fl=>
    cases fl with
    |ret u=>exact I.after hq
    |next=>exact False.elim hq
    |brk=>exact False.elim hq
    |cont=>exact False.elim hq
theorem ZcY (F:FnOk X.prog X.w X.K X.mg X.base CX k f fd ps sp)(hr:Room k X.A)(hg:Gl X x)(hm:X.mg x=some (.ref f))(hk:keepIn X.K (.ref f)=true)(hb:JV X.K fd ps ds)(hd:ZJ dvs ds)(hx:ZaV CX X E)(ha:PA X (e::es) t)(hdb:(x == ("__debug__":Str))=false:=by decide)(he:starEach (e::es) X.env=(false,eval e X.env)::starEach es X.env:=by rfl)(hpl:(backTo pos (starEach es X.env)).any (·.1)=false:=by rfl) :
    PE X (.Call (.Name x p) (e::es) [] pos) (tCall sp dvs E t):=by
  refine⟨?_⟩;intro pins s σ H Q I h;refine wpAny_Call_Name_kw (Za7 I hg hm ?_ hdb);refine PySem.W.callWith_K (h₀:=X.base) I.ok.mod.kin hk (thn (ha pos pins s σ H _ I h) λ us s1 ⟨vs,H1,I1,r,q⟩=>⟨I1.kIn,?_⟩) he hpl;exact run_fn F hr hb hd hx I1 r q
end
noncomputable abbrev PKb (X:Cx)(kws:List Keyword)(t:TA):Prop:=
  ∀(pos:Pos)(pins:List (Addr×Obj))(s:Shared)(σ:St)(H:Hp)(Q:List V->Hp->Prop),Inv X pins σ H s->t σ H Q->wpAny (model X.prog X.w) X.A (evalAll ((backToKw pos (keywordEach kws X.env)).map (·.2))) (AP X pins σ Q) X.xe s
structure PK (X:Cx)(kws:List Keyword)(t:TA):Prop where
  go:PKb X kws t
instance {X:Cx}{kws:List Keyword}{t:TA}:CoeFun (PK X kws t) λ _=>PKb X kws t:=⟨PK.go⟩
section
variable {X:Cx}{CX:CXT}{k:Nat}{f C:Addr}{fd:FuncData}{ps ks:List Str}{sp:Sp}{E:XK}{x m:Str}{p pos apos kpos:Pos}{e o:Expr}{es:List Expr}{kws:List Keyword}{te ta:TE}{t tk:TA}{nm:Option Str}
variable {g:List Value->List Value->List Value}{gV:List V->List V->List V}
end
structure FnScope (N P:List Str)(sc:Scope):Prop where
  kind:sc.kind = .function
  co:sc.isCoroutine=false
  gen:sc.isGenerator=false
  nd:N.Nodup
  pre:N.take P.length=P
  par:∀ x∈P,sc.names.lookup x=some .local\/sc.names.lookup x=some .cell
  nofree:∀ y∈sc.names,y.2 ≠ .free
theorem JR {kindOf:Str->Option NameKind}{x:Str}:∀ {binds:List (Str×Value)} {m:Str->Option Value},(∀ v,(x,v)∉binds)->bindL kindOf binds m x=m x
  |[],_,_=>rfl
  | (n,v)::r,m,h=>by
    unfold bindL;rw[JR λ w hw=>h w (mem_cons_of_mem _ hw)];split
    . have:x≠n:=by rintro rfl;exact h v mem_cons_self
      simp[this]
    . rfl
theorem JT {kindOf:Str->Option NameKind}{x:Str}:∀ {binds:List (Str×Value)} {m:Str->Option Value},(∀ v,(x,v)∉binds)->bindC kindOf binds m x=m x
  |[],_,_=>rfl
  | (n,v)::r,m,h=>by
    unfold bindC;rw[JT λ w hw=>h w (mem_cons_of_mem _ hw)];split
    . rfl
    . have:x≠n:=by rintro rfl;exact h v mem_cons_self
      simp[this]
theorem JS {kindOf:Str->Option NameKind}{x:Str}{v:Value}:∀ {P:List Str} {vs:List Value} {i:Nat} {m:Str->Option Value},P.Nodup->P[i]? = some x->vs[i]? = some v->kindOf x=some .local ->
    bindL kindOf (P.zip vs) m x=some v
  |[],_,_,_,_,h,_,_=>by simp at h
  |_::_,[],_,_,_,_,h,_=>by simp at h
  | p::P,w::vs,0,m,nd,h1,h2,hk=>by
    simp at h1 h2;subst h1;subst h2;show bindL kindOf ((p,w)::P.zip vs) m p=_;unfold bindL;rw[JR λ v hv=>(List.nodup_cons.mp nd).1 (List.of_mem_zip hv).1,if_pos hk];simp
  | p::P,w::vs,i+1,m,nd,h1,h2,hk=>by
    show bindL kindOf ((p,w)::P.zip vs) m x=_;unfold bindL;exact JS (i:=i) (List.nodup_cons.mp nd).2 (by simpa using h1) (by simpa using h2) hk
theorem JU {kindOf:Str->Option NameKind}{x:Str}{v:Value}:∀ {P:List Str} {vs:List Value} {i:Nat} {m:Str->Option Value},P.Nodup->P[i]? = some x->vs[i]? = some v->kindOf x≠some .local ->
    bindC kindOf (P.zip vs) m x=some v
  |[],_,_,_,_,h,_,_=>by simp at h
  |_::_,[],_,_,_,_,h,_=>by simp at h
  | p::P,w::vs,0,m,nd,h1,h2,hk=>by
    simp at h1 h2;subst h1;subst h2;show bindC kindOf ((p,w)::P.zip vs) m p=_;unfold bindC;rw[JT λ v hv=>(List.nodup_cons.mp nd).1 (List.of_mem_zip hv).1,if_neg hk];simp
  | p::P,w::vs,i+1,m,nd,h1,h2,hk=>by
    show bindC kindOf ((p,w)::P.zip vs) m x=_;unfold bindC;exact JU (i:=i) (List.nodup_cons.mp nd).2 (by simpa using h1) (by simpa using h2) hk
noncomputable def XN (N:List Str)(vs:List V):St:=vs.map some++List.replicate (N.length - vs.length) none
noncomputable def ZaS (CX:CXT)(P:Program)(w:World)(K:Frag)(mg:Str->Option Value)(base:Heap)(N:List Str)(qual:Str)(scope:Scope)(f:Addr)(cd:Value)(A:Around)(outer:List Env)(s:Shared)(H:Hp)(E:XK):Cx where
 prog:=P
 w:=w
 K:=K
 mg:=mg
 base:=base
 A:=A.deeper (envOfC qual scope s.heap.objs.size f cd)
 N:=N
 s₀:=s
 H₀:=H
 env:=envOfC qual scope s.heap.objs.size f cd
 outer:=outer
 stack:=envOfC qual scope s.heap.objs.size f cd::outer
 ex:=[]
 calm:=true
 fn:=λ _=>true
 pn:=[]
 xe:=λ e s'=>wpAny (model P w) (A.deeper (envOfC qual scope s.heap.objs.size f cd)) (leaving (envOfC qual scope s.heap.objs.size f cd) e) (λ _ s''=>CX outer H s E e s'') (λ e' s''=>CX outer H s E e' s'') s'
theorem ZaC {sc:Scope}{n:Nat}{x:Str}(h:sc.names.lookup x=some .cell):∃ c,(cellsFrom n sc.names []).lookup x=some c:=by
 have q:=PySem.W.cellsFrom_some sc.names n [] (.inl h);exact Option.isSome_iff_exists.mp q
theorem ZbG {CX:CXT}{P:Program}{w:World}{K:Frag}{mg:Str->Option Value}{base:Heap}{N ps:List Str}{qual:Str}{scope:Scope}{f:Addr}{cd:Value}{A:Around}{outer:List Env}{s s1:Shared}{H:Hp}{E:XK}{us:List Value}{vs:List V}(S:FnScope N ps scope)(hd:A.handled=none)(e0:Env0 P w K mg base A outer s H)(hl:vs.length=ps.length)(r:ZJ vs us)(x:InCallC s s.heap.objs.size (bindL (envOfC qual scope s.heap.objs.size f cd).kindOf (ps.zip us) λ _=>none) (cellsFrom (s.heap.objs.size+1) scope.names []) (bindC (envOfC qual scope s.heap.objs.size f cd).kindOf (ps.zip us) λ _=>none) s1) :
    Inv (ZaS CX P w K mg base N qual scope f cd A outer s H E) [] (XN N vs) H s1:=by
  have hpl:ps.length<=N.length:=by have:=congrArg List.length S.pre;rw[length_take]at this;omega
  obtain⟨h1,tk,rfl,hk⟩:=x.done;have noA:∀ b:Addr,b∉(ZaS CX P w K mg base N qual scope f cd A outer s H E).ex:=λ b z=>absurd (show b∈([]:List Addr) from z) (by simp);refine⟨⟨e0.mod,S.kind,rfl,rfl,le_refl _,λ y z c h1 h2=>?_,λ y hy=>?_,λ y c _ h=>?_,λ _=>hd,Around.frames_deeper e0.frames, .inr ⟨rfl,rfl⟩,λ b z=>absurd z (noA b),e0.bs,e0.bsz,λ b _ _=>noA b,λ b z=>absurd z (noA b),e0.funs,e0.frf⟩,
    rfl,e0.bare,Un.kept hk,⟨_,x.toInCall.ns,λ i y v h1 h2 h3=>?_⟩,λ y c h=>⟨_,x.cell y c h⟩,e0.hok.fresh (le_refl _),λ y c h=>?_,λ p hp=>absurd (show p∈([]:List (Addr×Obj)) from hp) (by simp),e0.hok.kept hk,?_⟩
  . exact name_of_addr x.apart (PySem.mem_of_lookup h1) (PySem.mem_of_lookup h2)
  . have hy:scope.names.lookup y=some .cell\/scope.names.lookup y=some .free:=hy;rcases hy with hy|hy
    . exact ZaC hy
    . exact absurd rfl (S.nofree _ (PySem.mem_of_lookup hy))
  . exact le_of_lt (x.above y c (PySem.mem_of_lookup h))
  . have hi:i<vs.length:=by
      unfold XN at h2
      by_cases hi:i<vs.length
      . exact hi
      . rw[List.getElem?_append_right (by simpa using hi)]at h2;rw[List.getElem?_replicate]at h2;split at h2 <;> cases h2
    have ha:vs[i]? = some v:=by
      unfold XN at h2;rw[List.getElem?_append_left (by simpa using hi),getElem?_map]at h2;cases e:vs[i]? with
      |none=>rw[e]at h2;cases h2
      |some a=>rw[e]at h2;cases h2;rfl
    obtain⟨u,hu,rv⟩:=r.get ha;have hp:ps[i]? = some y:=by
      rw[<- S.pre,List.getElem?_take_of_lt (by omega)];exact h1
    have ndP:ps.Nodup:=by rw[<- S.pre];exact S.nd.sublist (List.take_sublist _ _)
    refine⟨u,rv,?_⟩;rcases S.par y (mem_of_getElem? hp) with k|k
    . exact .inl ⟨k,JS ndP hp hu k⟩
    . obtain⟨c,e⟩:=ZaC (n:=s.heap.objs.size+1) k;refine .inr ⟨.inl k,c,e,?_⟩;have q:=x.cell y c e;rw[JU ndP hp hu (by show scope.names.lookup y≠_;rw[k];decide)]at q;exact q
  . exact e0.hok.fresh (le_of_lt (x.above y c (PySem.mem_of_lookup h)))
  . unfold XN;show _=N.length;rw[length_append,length_map,List.length_replicate];omega
theorem fn_of {CX:CXT}{P:Program}{w:World}{K:Frag}{mg:Str->Option Value}{base:Heap}{k:Nat}{f:Addr}{name qual:Str}{params:Arguments}{body:List Stmt}{scope:Scope}{dV kV doc pm cdv ct oc:Value}{an od:Option Addr}{osl:Array (Option Value)}{N ps:List Str}{sp:Sp}(lk:K.lookup f=some ⟨oc,od, .func (fnOf name qual params body scope dV kV doc pm an cdv ct),osl⟩)(hcd:codeIn K cdv qual=true)(S:FnScope N ps scope)(len:∀ vs H Q E,sp vs H Q E->vs.length=ps.length)(hbody:∀(A:Around)(outer:List Env)(s:Shared)(H:Hp)(vs:List V)(Q:VK)(E:XK),Room k (A.deeper (envOfC qual scope s.heap.objs.size f cdv))->sp vs H Q E ->
      ∃ t,PSs (ZaS CX P w K mg base N qual scope f cdv A outer s H E) body t/\t { nx:=λ _ H'=>Q .non H',rt:=Q } (XN N vs) H) :
    FnOk P w K mg base CX (k+1) f (fnOf name qual params body scope dV kV doc pm an cdv ct) ps sp:=by
  refine⟨len,λ A outer s H args us vs Q E hr e0 hb r hsp=>?_⟩;have hl:=len _ _ _ _ hsp;have KX:K.In s.heap:=e0.mod.kin.keeps λ b o e=>(e0.bs b o e).1;have lim:s.heap.NoLimit:=e0.mod.nolimit.keeps λ b o e=>(e0.bs b o e).1;have hkind:∀ y∈ps.zip us,scope.names.lookup y.1=some .local\/(scope.names.lookup y.1=some .cell/\((cellsFrom (s.heap.objs.size+1) scope.names []).lookup y.1).isSome=true):=λ⟨n,v⟩ hy=>by
    rcases S.par n (List.of_mem_zip hy).1 with q|q
    . exact .inl q
    . exact .inr ⟨q,PySem.W.cellsFrom_some _ _ _ (.inl q)⟩
  refine codeAny_call_function hr.depth (KX _ _ lk) rfl S.co S.gen rfl (PySem.W.codeRec_of KX hcd) (hb _ _ _ _ ?_);refine wpAny_newFunctionEnv_cells S.kind hkind λ env he s1 x=>?_;subst he;refine⟨lim.keeps x.toInCall.keep,codeAny_func ?_⟩;obtain⟨t,ht,hq⟩:=hbody A outer s H vs Q E (hr.deeper _) hsp;have I:Inv (ZaS CX P w K mg base N qual scope f cdv A outer s H E) [] (XN N vs) H s1:=ZbG S hr.hd e0 hl r x;refine wpAny_mono (ht [] s1 (XN N vs) H _ I hq) (λ fl s' hs=>?_) λ e s' hs=>hs;have fin:∀ {σ':St} {H':Hp} {v:V} {u:Value},Inv (ZaS CX P w K mg base N qual scope f cdv A outer s H E) [] σ' H' s'->Zq v u->Q v H'->CE outer P w H s Q u s':=
    λ {σ' H' v u} J rv q=>⟨v,H',J.os,J.bare,J.base,J.hok,rv,q⟩
  cases fl with
  |ret u=>
    obtain⟨v,σ',H',J,rv,q⟩:=hs;exact fin J rv q
  |next=>
    obtain⟨σ',H',J,q⟩:=hs;exact fin (v:=V.non) (u:=Value.none) J rfl q
  |brk=>
    obtain⟨_,_,_,q⟩:=hs;exact False.elim q
  |cont=>
    obtain⟨_,_,_,q⟩:=hs;exact False.elim q
open PySem PySem.Spec PyProof.Rows
section
variable {X:Cx}{x:Str}{p pos:Pos}{e:Expr}{es:List Expr}{t:TA}{id T:String}{r:List V->Hp->VK->Prop}
noncomputable def tCB (r:List V->Hp->VK->Prop)(t:TA):TE:=λ σ H Q=>t σ H λ vs H1=>r vs H1 Q
theorem ZC (hc:YD X (.builtin id) r)(hg:Gl X x)(hm:X.mg x=none)(hv:bootBuiltins x=some (.builtin id))(ha:PA X (e::es) t)(hn:x≠"__name__":=by decide)(hdb:(x == ("__debug__":Str))=false:=by decide)(he:starEach (e::es) X.env=(false,eval e X.env)::starEach es X.env:=by rfl)(hpl:(backTo pos (starEach es X.env)).any (·.1)=false:=by rfl):PE X (.Call (.Name x p) (e::es) [] pos) (tCB r t):=by
 refine⟨?_⟩;intro pins s σ H Q I h;refine wpAny_Call_Name_kw (Jo I hg hm hv ?_ hn hdb);exact PyProof.Rows.callWith_builtin1 (thn (ha pos pins s σ H _ I h) λ us s1 ⟨vs,H1,I1,r1,q1⟩=>hc pins s1 σ H1 vs us Q I1 r1 q1) he hpl
theorem Y1 (hc:YD X (.type T) r)(hg:Gl X x)(hm:X.mg x=none)(hv:bootBuiltins x=some (.type T))(ha:PA X (e::es) t)(hn:x≠"__name__":=by decide)(hdb:(x == ("__debug__":Str))=false:=by decide)(he:starEach (e::es) X.env=(false,eval e X.env)::starEach es X.env:=by rfl)(hpl:(backTo pos (starEach es X.env)).any (·.1)=false:=by rfl):PE X (.Call (.Name x p) (e::es) [] pos) (tCB r t):=by
 refine⟨?_⟩;intro pins s σ H Q I h;refine wpAny_Call_Name_kw (Jo I hg hm hv ?_ hn hdb);exact PyProof.Rows.callWith_type1 (thn (ha pos pins s σ H _ I h) λ us s1 ⟨vs,H1,I1,r1,q1⟩=>hc pins s1 σ H1 vs us Q I1 r1 q1) he hpl
end
open PySem PySem.Spec PyProof.Rows
section
variable {κ:Type}[DecidableEq κ]
noncomputable def YG (kvs:List (κ×V))(k:κ):Option V:=(kvs.find? λ kv=>decide (kv.1=k)).map (·.2)
noncomputable def Yj (kvs:List (κ×V))(k:κ)(v:V):List (κ×V):=
 if (kvs.any λ kv=>decide (kv.1=k))=true then kvs.map (λ kv=>if kv.1=k then (kv.1,v) else kv) else kvs++[(k,v)]
noncomputable def Xr (kvs:List (κ×V))(k:κ):List (κ×V):=kvs.filter λ kv=>decide (kv.1≠k)
theorem YE {p:κ×V}{r:List (κ×V)}{k:κ}(e:p.1=k):YG (p::r) k=some p.2:=by simp[YG,find?_cons,e]
theorem YF {p:κ×V}{r:List (κ×V)}{k:κ}(e:¬ p.1=k):YG (p::r) k=YG r k:=by simp[YG,find?_cons,e]
theorem Zah (k:κ):∀ kvs:List (κ×V),(kvs.any λ kv=>decide (kv.1=k))=(YG kvs k).isSome
  |[]=>rfl
  | p::r=>by
    rw[any_cons]
    by_cases e:p.1=k
    . simp only[YE e,decide_eq_true e,Bool.true_or,Option.isSome_some]
    . rw[YF e,decide_eq_false e,Bool.false_or];exact Zah k r
theorem YU (kvs:List (κ×V))(k:κ)(v:V):(Yj kvs k v).length<=kvs.length+1:=by
  unfold Yj;split
  . rw[length_map];omega
  . rw[length_append,length_cons,List.length_nil];omega
theorem XM.isSome_eq {o:Option V}{u:Option Value}(r:XM o u):o.isSome=u.isSome:=by
  cases o with
  | none=>cases u with
    |none=>rfl
    |some _=>exact(show False from r).elim
  | some _=>cases u with
    |none=>exact(show False from r).elim
    |some _=>rfl
theorem XM.getD {o:Option V}{u:Option Value}{d:V}{d':Value}(r:XM o u)(rd:Zq d d'):Zq (o.getD d) (u.getD d'):=by
  cases o with
  | none=>cases u with
    |none=>exact rd
    |some _=>exact(show False from r).elim
  | some _=>cases u with
    |none=>exact(show False from r).elim
    |some _=>exact r
theorem KV.val {kvs:List (κ×V)}{vs:List (κ×Value)}(r:KV kvs vs)(k:κ):XM (YG kvs k) (valueAt vs k):=by
  unfold KV at r
  induction r with
  |nil=>exact True.intro
  |@cons p q ps qs h t ih=>
    obtain⟨h1,h2⟩:=h
    by_cases e:p.1=k
    . have e':q.1=k:=h1.symm.trans e;have b:valueAt (q::qs) k=some q.2:=by simp[valueAt,find?_cons,e']
      rw[YE e,b];exact h2
    . have e':¬ q.1=k:=λ z=>e (h1.trans z);have b:valueAt (q::qs) k=valueAt qs k:=by simp[valueAt,find?_cons,e']
      rw[YF e,b];exact ih
theorem KV.any {kvs:List (κ×V)}{vs:List (κ×Value)}(r:KV kvs vs)(k:κ):(kvs.any λ kv=>decide (kv.1=k))=vs.any λ kv=>decide (kv.1=k):=by
  unfold KV at r
  induction r with
  |nil=>rfl
  |cons h t ih=>rw[any_cons,any_cons,ih,h.1]
theorem KV.repl {kvs:List (κ×V)}{vs:List (κ×Value)}(r:KV kvs vs)(k:κ){y:V}{u:Value}(ry:Zq y u) :
    KV (kvs.map λ kv=>if kv.1=k then (kv.1,y) else kv) (vs.map λ kv=>if kv.1=k then (kv.1,u) else kv):=by
  unfold KV at r ⊢
  induction r with
  |nil=>exact .nil
  |@cons p q ps qs h t ih=>
    rw[map_cons,map_cons];refine .cons ?_ ih;obtain⟨h1,h2⟩:=h
    by_cases e:p.1=k
    . rw[if_pos e,if_pos (h1.symm.trans e)];exact⟨h1,ry⟩
    . rw[if_neg e,if_neg (λ z=>e (h1.trans z))];exact⟨h1,h2⟩
theorem KV.put {kvs:List (κ×V)}{vs:List (κ×Value)}(r:KV kvs vs)(k:κ){y:V}{u:Value}(ry:Zq y u):KV (Yj kvs k y) (stored vs k u):=by
  unfold Yj stored;rw[r.any k]
  by_cases e:(vs.any λ kv=>decide (kv.1=k))=true
  . rw[if_pos e,if_pos e];exact r.repl k ry
  . rw[if_neg e,if_neg e];exact Paired.snoc r ⟨rfl,ry⟩
theorem KV.drop {kvs:List (κ×V)}{vs:List (κ×Value)}(r:KV kvs vs)(k:κ):KV (Xr kvs k) (without vs k):=by
  unfold KV at r ⊢;unfold Xr without
  induction r with
  |nil=>exact .nil
  |@cons p q ps qs h t ih=>
    obtain⟨h1,h2⟩:=h;rw[List.filter_cons,List.filter_cons]
    by_cases e:p.1=k
    . have a:¬ decide (p.1≠k)=true:=by simp[e]
      have b:¬ decide (q.1≠k)=true:=by simp[h1.symm.trans e]
      rw[if_neg a,if_neg b];exact ih
    . have e':¬ q.1=k:=λ z=>e (h1.trans z);have a:decide (p.1≠k)=true:=by simp[e]
      have b:decide (q.1≠k)=true:=by simp[e']
      rw[if_pos a,if_pos b];exact .cons ⟨h1,h2⟩ ih
theorem KV.length {kvs:List (κ×V)}{vs:List (κ×Value)}(r:KV kvs vs):kvs.length=vs.length:=Paired.length r
theorem Zcx (kvs:List (κ×V))(k:κ):(Xr kvs k).length<=kvs.length:=length_filter_le _ _
end
theorem Jq {P:Program}{w:World}{k:Key}{u:Value}(r:Zq (kV k) u):(ZB P w).is k u=true:=by
  cases k with
  |inl i=>obtain⟨t,e⟩:=(show ∃ t,u=Value.int i t from r);subst e;exact YT P w i t
  |inr x=>obtain⟨t,e⟩:=(show ∃ t,u=Value.str x t from r);subst e;exact Zas P w x t
theorem JL {P:Program}{w:World}:∀ {ks:List Key} {us:List Value},ZJ (ks.map kV) us->ItemsAre (ZB P w) ks us
  |[],_,r=>by rw[map_nil]at r;cases r;exact .nil
  | k::ks,_,r=>by
    rw[map_cons]at r;cases r with
    |cons h t=>exact .cons (Jq h) (JL t)
noncomputable abbrev KT (H:Hp):List (List Key×V)->List (List Key×Addr×Value)->Prop:=Paired λ p q=>p.1=q.1/\H q.2.1=some (.tup (p.1.map kV))/\Zq p.2 q.2.2
theorem KT.val {H:Hp}{kvs:List (List Key×V)}{xs:List (List Key×Addr×Value)}(r:KT H kvs xs)(k:List Key):XM (YG kvs k) ((atKey xs k).map (·.2)):=by
  induction r with
  |nil=>exact True.intro
  |@cons p q ps qs h t ih=>
    obtain⟨h1,_,h2⟩:=h
    by_cases e:p.1=k
    . have e':q.1=k:=h1.symm.trans e;have b:atKey (q::qs) k=some q.2:=by simp[atKey,find?_cons,e']
      rw[YE e,b];exact h2
    . have e':¬ q.1=k:=λ z=>e (h1.trans z);have b:atKey (q::qs) k=atKey qs k:=by simp[atKey,find?_cons,e']
      rw[YF e,b];exact ih
theorem KT.repl {H:Hp}{kvs:List (List Key×V)}{xs:List (List Key×Addr×Value)}(r:KT H kvs xs)(k:List Key){y:V}{u:Value}(ry:Zq y u) :
    KT H (kvs.map λ kv=>if kv.1=k then (kv.1,y) else kv) (xs.map (putAt k u)):=by
  induction r with
  |nil=>exact .nil
  |@cons p q ps qs h t ih=>
    rw[map_cons,map_cons];refine .cons ?_ ih;obtain⟨h1,h2,h3⟩:=h;unfold putAt
    by_cases e:p.1=k
    . rw[if_pos e,if_pos (h1.symm.trans e)];exact⟨h1,h2,ry⟩
    . rw[if_neg e,if_neg (λ z=>e (h1.trans z))];exact⟨h1,h2,h3⟩
theorem KT.put {H:Hp}{kvs:List (List Key×V)}{xs:List (List Key×Addr×Value)}(r:KT H kvs xs)(k:List Key){b:Addr}{y:V}{u:Value}(hb:H b=some (.tup (k.map kV)))(ry:Zq y u) :
    KT H (Yj kvs k y) (storedH xs k b u):=by
  have e:(kvs.any λ kv=>decide (kv.1=k))=(atKey xs k).isSome:=by
    rw[Zah,(r.val k).isSome_eq,isSome_map]
  unfold Yj storedH;rw[e]
  by_cases q:(atKey xs k).isSome=true
  . rw[if_pos q,if_pos q];exact r.repl k ry
  . rw[if_neg q,if_neg q];exact Paired.snoc r ⟨rfl,hb,ry⟩
theorem KT.keeps {H H':Hp}{kvs:List (List Key×V)}{xs:List (List Key×Addr×Value)}(r:KT H kvs xs)(ht:∀ b ys,H b=some (.tup ys)->H' b=some (.tup ys)):KT H' kvs xs:=
 Paired.mapP r λ _ _ z=>⟨z.1,ht _ _ z.2.1,z.2.2⟩
section
variable {P:Program}{w:World}{H:Hp}{h:Heap}{a:Addr}
theorem rd_of {u:HO}(ok:HOk P w H h)(e:Rd H a u):ZI P w H h a u:=e.ok ok
theorem XS {kvs:List (Key×V)}(ok:HOk P w H h)(e:Rd H a (.dK kvs)):kvs.length<=sizeLine/\(a == sysModules)=false/\∃ vs,KV kvs vs/\h.DictOf (ZB P w) a vs:=
 show ZI P w H h a (.dK kvs) from rd_of ok e
theorem Za9 {kvs:List (Key×V)}(ok:HOk P w H h)(e:H a=some (.dK kvs)):kvs.length<=sizeLine/\(a == sysModules)=false/\∃ vs,KV kvs vs/\h.DictOf (ZB P w) a vs:=XS ok (.inl e)
theorem Jp {ks:List Key}(ok:HOk P w H h)(e:H a=some (.tup (ks.map kV))):(tupleKind (ZB P w)).is h ks a:=by
 obtain⟨_,its,r,o,h1,h2,n,h3⟩:=(show ZI P w H h a (.tup (ks.map kV)) from ok a _ e);exact⟨o,its.toArray,n,h1,h2,h3,by simpa using JL r⟩
theorem JN {kvs:List (List Key×V)}(ok:HOk P w H h)(e:Rd H a (.dT kvs)):kvs.length<=sizeLine/\(a == sysModules)=false /\
    ∃ xs,KT H kvs xs/\h.DictOfH (tupleKind (ZB P w)) a xs:=by
  obtain⟨z,y,xs,r,o,es,ep,h1,h2,h3,h4,h5⟩:=(show ZI P w H h a (.dT kvs) from rd_of ok e);refine⟨z,y,xs,r,o,es,ep,h1,h2,h3,h4,λ x hx=>?_,h5⟩;have all:∀ {l:List (List Key×V)} {m:List (List Key×Addr×Value)},KT H l m->∀ x∈m,(tupleKind (ZB P w)).is h x.1 x.2.1:=by
    intro l m q
    induction q with
    |nil=>intro x hx;exact nomatch hx
    |@cons p q ps qs hq t ih=>
      intro x hx;rcases List.mem_cons.mp hx with e|hx
      . subst e;exact Jp ok (by rw[<- hq.1];exact hq.2.1)
      . exact ih x hx
  exact all r x hx
theorem dt_of {kvs:List (List Key×V)}(ok:HOk P w H h)(e:H a=some (.dT kvs)):kvs.length<=sizeLine/\(a == sysModules)=false /\
    ∃ xs,KT H kvs xs/\h.DictOfH (tupleKind (ZB P w)) a xs:=JN ok (.inl e)
end
noncomputable def Z5 (H:Hp)(a:Addr)(y:V)(r:Option V):Prop:=
 (∃ kvs k,Rd H a (.dK kvs)/\y=kV k/\r=YG kvs k)\/∃ kvs k b,Rd H a (.dT kvs)/\y = .ref b/\H b=some (.tup (k.map kV))/\r=YG kvs k
noncomputable def XY (H:Hp)(a:Addr)(y v:V)(H':Hp):Prop:=
 (∃ kvs k,H a=some (.dK kvs)/\y=kV k/\kvs.length<sizeLine/\H'=upd H a (.dK (Yj kvs k v))) \/
 ∃ kvs k b,H a=some (.dT kvs)/\y = .ref b/\H b=some (.tup (k.map kV))/\kvs.length<sizeLine/\H'=upd H a (.dT (Yj kvs k v))
theorem Z5.k {H:Hp}{a:Addr}{kvs:List (Key×V)}{k:Key}(e:H a=some (.dK kvs)):Z5 H a (kV k) (YG kvs k):=.inl ⟨kvs,k, .inl e,rfl,rfl⟩
theorem XY.k {H:Hp}{a:Addr}{kvs:List (Key×V)}{k:Key}{v:V}(e:H a=some (.dK kvs))(hl:kvs.length<sizeLine):XY H a (kV k) v (upd H a (.dK (Yj kvs k v))):=.inl ⟨kvs,k,e,rfl,hl,rfl⟩
section
variable {X:Cx}{pins:List (Addr×Obj)}{σ:St}{H:Hp}{s:Shared}{a:Addr}{y v:V}{u r:Value}{o:Option V}{A:Around}{E:Value->Shared->Prop}
theorem Inv.big (I:Inv X pins σ H s):sysModules<s.heap.objs.size:=by
 have h:mainGlobals<s.heap.objs.size:=(I.mod.glob.keeps I.bk).lt;exact Nat.lt_trans (by decide) h
theorem ZbJ {Q:Value->Shared->Prop}(hu:A.units+1<cLine)(I:Inv X pins σ H s)(g:Z5 H a y (some v))(ry:Zq y u)(h:∀ w' s',Inv X pins σ H s'->Zq v w'->Q w' s') :
    wpAny (model X.prog X.w) A (getItem (.ref a) u) Q E s:=by
  rcases g with ⟨kvs,k,e,ey,l⟩|⟨kvs,k,b,e,ey,eb,l⟩
  . subst ey;obtain⟨z,hd,vs,rel,dd⟩:=XS I.hok e;obtain⟨w',hw,rw'⟩:=XM.some_of (v:=v) (o:=valueAt vs k) (by rw[l];exact rel.val k);exact wpAny_getItem_of (Jq ry) dd.mapOf hw (h w' _ (I.tok _) rw')
  . subst ey;cases (show u=Value.ref b from ry);obtain⟨z,hd,xs,rel,dd⟩:=JN I.hok e;obtain⟨w',hw,rw'⟩:=XM.some_of (v:=v) (o:=(atKey xs k).map (·.2)) (by rw[l];exact rel.val k);obtain⟨p,hp,hp2⟩:=Option.map_eq_some_iff.mp hw;refine wpAny_getItem_heap (tupleKind_room_in1 hu) (Jp I.hok eb) dd hp ?_;rw[hp2];exact h w' _ (I.tok _) rw'
theorem Zdf {Q:Value->Shared->Prop}(hu:A.units+1<cLine)(I:Inv X pins σ H s)(g:Z5 H a y o)(ry:Zq y u)(h:∀ s',Inv X pins σ H s'->Q (.bool (!o.isSome)) s') :
    wpAny (model X.prog X.w) A (compareOp .NotIn u (.ref a)) Q E s:=by
  rcases g with ⟨kvs,k,e,ey,l⟩|⟨kvs,k,b,e,ey,eb,l⟩
  . subst ey;obtain⟨z,hd,vs,rel,dd⟩:=XS I.hok e;refine wpAny_notIn_of (Jq ry) hd dd.mapOf ?_;rw[<- (rel.val k).isSome_eq,<- l];exact h _ (I.tok _)
  . subst ey;cases (show u=Value.ref b from ry);obtain⟨z,hd,xs,rel,dd⟩:=JN I.hok e;refine wpAny_notIn_heap (tupleKind_room_in1 hu) (Jp I.hok eb) hd dd ?_;have q:=(rel.val k).isSome_eq;rw[isSome_map]at q;rw[<- q,<- l];exact h _ (I.tok _)
theorem Xs {h':Heap}{t':Nat}{ob:HO}(I:Inv X pins σ H s)(mu:Mut (H a))(hs:Heap.SameBut a s.heap h')(he:∃ q,h'.get? a=some q)(new:ZI X.prog X.w (upd H a ob) h' a ob) :
    Inv X pins σ (upd H a ob) { s with heap:=h',toks:=t' }:=
  I.write (x:=a) (e:=a) mu (.inl rfl) (λ b q hb z=>(hs.2 b hb).trans z) he new
theorem Zab {P:Program}{w:World}{H':Hp}{h':Heap}{kvs:List (Key×V)}{vs:List (Key×Value)}(z:kvs.length<=sizeLine)(hd:(a == sysModules)=false)(rel:KV kvs vs)(dd:h'.DictOf (ZB P w) a vs) :
    ZI P w H' h' a (.dK kvs):=⟨z,hd,vs,rel,dd⟩
theorem ZbI {H':Hp}{Q:Unit->Shared->Prop}(hu:A.units+1<cLine)(I:Inv X pins σ H s)(g:XY H a y v H')(ry:Zq y u)(rv:Zq v r)(h:∀ s',Inv X pins σ H' s'->Q () s') :
    wpAny (model X.prog X.w) A (setItem (.ref a) u r) Q E s:=by
  rcases g with ⟨kvs,k,e,ey,l,eH⟩|⟨kvs,k,b,e,ey,eb,l,eH⟩
  . subst ey eH;obtain⟨z,hd,vs,rel,dd⟩:=Za9 I.hok e;have hz:vs.length<=sizeLine:=by rw[<- rel.length];exact z
    have hl:(Yj kvs k v).length<=sizeLine:=by have:=YU kvs k v;omega
    refine wpAny_setItem_pairs (hsz:=hz) (Jq ry) dd λ h' dd' hs=>h _ ?_;have he:∃ q,h'.get? a=some q:=let ⟨q,_,_,hq,_⟩:=dd';⟨q,hq⟩;exact Xs I (by rw[e];exact True.intro) hs he (Zab hl hd (rel.put k rv) dd')
  . subst ey eH;cases (show u=Value.ref b from ry);obtain⟨z,hd,xs,rel,dd⟩:=dt_of I.hok e;have hz:xs.length<=sizeLine:=by rw[<- Paired.length rel];exact z
    have hl:(Yj kvs k v).length<=sizeLine:=by have:=YU kvs k v;omega
    refine wpAny_setItem_heap (hsz:=hz) (tupleKind_room_in1 hu) (Jp I.hok eb) dd λ h' dd' hs=>h _ ?_;obtain⟨q,es,ep,hq,h2,h3,h4,_,h5⟩:=dd';refine Xs I (by rw[e];exact True.intro) hs ⟨q,hq⟩ ⟨hl,hd,_,(rel.put k eb rv).keeps λ c ys ec=>?_,q,es,ep,hq,h2,h3,h4,h5⟩;rw[Zh (Yk ec e (λ z=>nomatch z))];exact ec
end
section
variable {X:Cx}{pins:List (Addr×Obj)}{σ:St}{H:Hp}{s:Shared}{a:Addr}{kvs:List (Key×V)}{k:Key}{u:Value}{A:Around}{E:Value->Shared->Prop}
theorem ZbK {Q:Unit->Shared->Prop}(I:Inv X pins σ H s)(e:H a=some (.dK kvs))(ry:Zq (kV k) u)(l:(YG kvs k).isSome=true)(h:∀ s',Inv X pins σ (upd H a (.dK (Xr kvs k))) s'->Q () s') :
    wpAny (model X.prog X.w) A (delItem (.ref a) u) Q E s:=by
  obtain⟨z,hd,vs,rel,dd⟩:=Za9 I.hok e;refine wpAny_delItem_slot dd.typeIs (by decide) PySem.F.slot_dict_delitem
    (call_meetsIn PySem.F.slot_dict_delitem dd.typeIs PySem.F.entry_dict_delitem (PySem.F.args_dict_delitem_2 _ _) (meets_dict_delitem_pairs (ZB X.prog X.w) a (Jq ry)) ⟨vs,dd,by rw[<- rel.length];exact z,by rw[<- (rel.val k).isSome_eq];exact l,λ h' dd' hs=>h _ ?_⟩)
  have he:∃ q,h'.get? a=some q:=let ⟨q,_,_,hq,_⟩:=dd';⟨q,hq⟩;exact Xs I (by rw[e];exact True.intro) hs he (Zab (le_trans (Zcx kvs k) z) hd (rel.drop k) dd')
end
noncomputable def NoSl (i:Expr):Prop:=∀ ov iv,subscripted i false ov iv=operate [ov,iv] (getItem ov iv)
theorem ZaZ {prog:Program}{w:World}{A:Around}{E:Value->Shared->Prop}{s:Shared}{env:Env}{value slice:Expr}{pos:Pos}{T id:String}{Q:Value->Shared->Prop}(hl:typeLookup (.type T) "__getitem__"=pure (some (.builtin id)))(hs:NoSl slice)(h:wpAny (model prog w) A (eval value env) (λ o s₁=>wpAny (model prog w) A (eval slice env) (λ i s₂=>s₂.TypeIs o T/\wpAny (model prog w) A (getItem o i) Q E s₂) E s₁) E s) :
    wpAny (model prog w) A (eval (.Subscript value slice pos) env) Q E s:=by
  refine Subscript_ (wpAny_mono h (λ o s₁ h₁=>wpAny_mono h₁ (λ i s₂ h₂=>?_) λ _ _ x=>x) λ _ _ x=>x);obtain⟨hT,h₂⟩:=h₂;unfold subscriptTail;refine wpAny_bind ?_;rw[getitemInPython_of_ne hT.not_modules];refine wpAny_bind (wpAny_specialOf hT hl ?_);have fin:wpAny (model prog w) A (subscripted slice false o i) (λ r s₃=>wpAny (model prog w) A (letTemporaryGo value o r >>= λ _=>pure r) Q E s₃) E s₂:=by
    rw[hs o i];exact wpAny_operating (wpAny_mono h₂ (λ r s₃ h₃=>wpAny_bind (wpAny_letTemporaryGo (wpAny_pure h₃))) λ _ _ x=>x)
  first
    | exact wpAny_pure (wpAny_bind fin)
    | exact wpAny_bind (wpAny_pure (wpAny_bind fin))
    | exact wpAny_bind fin
theorem Zaz {X:Cx}{pins:List (Addr×Obj)}{σ:St}{H:Hp}{s:Shared}{a:Addr}{y:V}{o:Option V}(I:Inv X pins σ H s)(g:Z5 H a y o):s.TypeIs (.ref a) "dict":=by
  rcases g with ⟨kvs,k,e,_,_⟩|⟨kvs,k,b,e,_,_,_⟩
  . obtain⟨_,_,vs,_,dd⟩:=XS I.hok e;exact dd.typeIs
  . obtain⟨_,_,xs,_,dd⟩:=JN I.hok e;exact dd.typeIs
noncomputable def tDGet (td ty:TE):TE:=λ σ H Q=>td σ H λ x H1=>ty σ H1 λ y H2=>∃ a v,x = .ref a/\Z5 H2 a y (some v)/\Q v H2
noncomputable def ZcE (ty td:TE):TE:=λ σ H Q=>ty σ H λ y H1=>td σ H1 λ x H2=>∃ a o,x = .ref a/\Z5 H2 a y o/\Q (.bl (!o.isSome)) H2
noncomputable def sDPut (td ty tv:TE):TS:=λ D σ H=>tv σ H λ v H1=>td σ H1 λ x H2=>ty σ H2 λ y H3=>∃ a H4,x = .ref a/\XY H3 a y v H4/\D.nx σ H4
noncomputable def sDDel (td ty:TE):TS:=λ D σ H=>td σ H λ x H1=>ty σ H1 λ y H2=>∃ a kvs k,x = .ref a/\H2 a=some (.dK kvs)/\y=kV k/\(YG kvs k).isSome=true/\D.nx σ (upd H2 a (.dK (Xr kvs k)))
section
variable {X:Cx}{o i e value:Expr}{pos pos' tpos:Pos}{td ty tv:TE}
theorem Z8 (hu:X.A.units+1<cLine)(ho:PE X o td)(hi:PE X i ty)(hs:NoSl i):PE X (.Subscript o i pos) (tDGet td ty):=by
 refine⟨?_⟩;intro pins s σ H Q I h;refine ZaZ PySem.F.slot_dict_getitem.lookup hs (thn (ho pins s σ H _ I h) λ u s1 ⟨x,H1,I1,rx,q1⟩=>thn (hi pins s1 σ H1 _ I1 q1) λ iv s2 zz9=>?_);obtain⟨y,H2,I2,ry,a,v,ex,g,q2⟩:=zz9;subst ex;obtain rfl:u=Value.ref a:=rx;exact⟨Zaz I2 g,ZbJ hu I2 g ry λ w' s3 I3 rw'=>⟨v,H2,I3,rw',q2⟩⟩
theorem Zbs (hu:X.A.units+1<cLine)(hi:PE X i ty)(ho:PE X o td):PC X .NotIn i o (ZcE ty td):=by
 refine⟨?_⟩;intro pins s σ H Q I h;refine thn (hi pins s σ H _ I h) λ iv s1 ⟨y,H1,I1,ry,q1⟩=>thn (ho pins s1 σ H1 _ I1 q1) λ u s2 zz9=>?_;obtain⟨x,H2,I2,rx,a,ov,ex,g,q2⟩:=zz9;subst ex;obtain rfl:u=Value.ref a:=rx;exact Zdf hu I2 g ry λ s3 I3=>⟨.bl (!ov.isSome),H2,I3,rfl,q2⟩
theorem Xp (hu:X.A.units+1<cLine)(ho:PE X o td)(hi:PE X i ty)(hv:PE X value tv)(hs:swapsWith value (some (.Subscript o i pos')) pos.line X.env=pure false) :
    PS X (.Assign [.Subscript o i pos'] value pos) (sDPut td ty tv):=by
  refine⟨?_⟩;intro pins s σ H D I h;refine wpAny_Assign_Subscript (thn (hv pins s σ H _ I h) λ r s1 ⟨v,H1,I1,rv,q1⟩=>thn (ho pins s1 σ H1 _ I1 q1) λ u s2 ⟨x,H2,I2,rx,q2⟩=>thn (hi pins s2 σ H2 _ I2 q2) λ iv s3 zz9=>?_) hs;obtain⟨y,H3,I3,ry,a,H4,ex,g,q3⟩:=zz9;subst ex;obtain rfl:u=Value.ref a:=rx;exact ZbI hu I3 g ry rv λ s4 I4=>⟨σ,H4,I4,q3⟩
theorem ZcR (ho:PE X o td)(hi:PE X i ty):PS X (.Delete [.Subscript o i tpos] pos) (sDDel td ty):=by
 refine⟨?_⟩;intro pins s σ H D I h;refine wpAny_Delete (wpAny_deleteEach_cons (wpAny_delete_Subscript (thn (ho pins s σ H _ I h) λ u s1 ⟨x,H1,I1,rx,q1⟩=>thn (hi pins s1 σ H1 _ I1 q1) λ iv s2 zz9=>?_)));obtain⟨y,H2,I2,ry,a,kvs,k,ex,e,ey,l,q2⟩:=zz9;subst ex ey;obtain rfl:u=Value.ref a:=rx;exact ZbK I2 e ry l λ s3 I3=>wpAny_deleteEach_nil ⟨σ,_,I3,q2⟩
end
theorem Zay {P:Program}{w:World}{H:Hp}(h:Heap)(hb:sysModules<h.objs.size):ZI P w H (h.push { cls:=.type "dict",data:=.dict #[] }) h.objs.size (.dK []):=
 ⟨zero_le _,beq_eq_false_iff_ne.mpr (Ne.symm (ne_of_lt hb)),[], .nil,Heap.DictOf.new h⟩
noncomputable def tDNewK:TE:=λ _ H Q=>∀ p,H p=none->Q (.ref p) (upd H p (.dK []))
section
variable {X:Cx}{pos:Pos}
theorem Ji:PE X (.Dict [] [] pos) tDNewK:=⟨λ pins s σ H Q I h=>
 wpAny_Dict_empty ⟨.ref s.heap.objs.size,_,I.laid (a:=s.heap.objs.size) (o:=.dK []) (t':=s.toks) (λ _ _ q=>Heap.get?_push_of_some _ q) (le_refl _) (Zay s.heap I.big),rfl,h _ (I.hok.fresh (le_refl _))⟩⟩
end
structure M2 (X:Cx)(o:Expr)(m:Str)(apos:Pos)(e f:Expr)(cpos:Pos):Prop where
  base:attributeBase o m X.env (eval o X.env)=eval o X.env
  few:((backTo cpos (starEach [e,f] X.env)).all (λ x => !x.1) && (backToKw cpos (keywordEach [] X.env)).all (λ x=>x.1.isSome)
    && decide (([e,f]:List Expr).length+([]:List Keyword).length+(if ([]:List Keyword).isEmpty then 0 else 1)<30))=true
  line:(apos.endLine == cpos.line)=true
  trees:backTo cpos (starEach [e,f] X.env)=[(false,eval e X.env),(false,eval f X.env)]
noncomputable def IsD (H:Hp)(a:Addr):Prop:=(∃ kvs,Rd H a (.dK kvs))\/∃ kvs,Rd H a (.dT kvs)
theorem isD_at {X:Cx}{pins:List (Addr×Obj)}{σ:St}{H:Hp}{s:Shared}{a:Addr}(I:Inv X pins σ H s)(d:IsD H a) :
    s.TypeIs (.ref a) "dict"/\(∀ b,Value.ref a = .ref b->∃ ob,s.heap.get? b=some ob/\ob.dict=none)/\(a == sysModules)=false:=by
  rcases d with ⟨kvs,e⟩|⟨kvs,e⟩
  . obtain⟨_,hd,vs,_,dd⟩:=XS I.hok e;refine⟨dd.typeIs,λ b q=>?_,hd⟩;cases q;obtain⟨ob,_,_,h1,h2,_⟩:=dd;exact⟨ob,h1,h2.2.1⟩
  . obtain⟨_,hd,xs,_,dd⟩:=JN I.hok e;refine⟨dd.typeIs,λ b q=>?_,hd⟩;cases q;obtain⟨ob,_,_,h1,h2,_⟩:=dd;exact⟨ob,h1,h2.2.1⟩
section
variable {X:Cx}{pins:List (Addr×Obj)}{σ:St}{H:Hp}{s:Shared}{a:Addr}{y d:V}{u r:Value}{o:Option V}{A:Around}{E:Value->Shared->Prop}
theorem d_get2 {Q:Value->Shared->Prop}(hu:A.units+1<cLine)(I:Inv X pins σ H s)(g:Z5 H a y o)(ry:Zq y u)(rd:Zq d r)(h:∀ w' s',Inv X pins σ H s'->Zq (o.getD d) w'->Q w' s') :
    wpAny (model X.prog X.w) A (call (.builtin "dict.get") [.ref a,u,r]) Q E s:=by
  rcases g with ⟨kvs,k,e,ey,l⟩|⟨kvs,k,b,e,ey,eb,l⟩
  . subst ey;obtain⟨z,hd,vs,rel,dd⟩:=XS I.hok e;refine call_meetsIn slot_dict_get dd.typeIs PySem.F.entry_dict_get (PySem.F.args_dict_get_3 _ _ _) (meets_dict_get_default (ZB X.prog X.w) a (Jq ry) hd r) ⟨_,dd.mapOf,h _ _ (I.tok _) ?_⟩;rw[l];exact(rel.val k).getD rd
  . subst ey;cases (show u=Value.ref b from ry);obtain⟨z,hd,xs,rel,dd⟩:=JN I.hok e;refine call_meetsIn slot_dict_get dd.typeIs PySem.F.entry_dict_get (PySem.F.args_dict_get_3 _ _ _) (meetsH_dict_get_default (tupleKind (ZB X.prog X.w)) a b hd r) ⟨tupleKind_room_in1 hu,k,xs,Jp I.hok eb,dd,h _ _ (I.tok _) ?_⟩;rw[l];exact(rel.val k).getD rd
end
noncomputable def tDGet2 (td ty tx:TE):TE:=λ σ H Q=>td σ H λ x H1=>∃ a,x = .ref a/\IsD H1 a/\ty σ H1 λ y H2=>tx σ H2 λ z H3=>∃ o,Z5 H3 a y o/\Q (o.getD z) H3
section
variable {X:Cx}{o e f:Expr}{apos cpos:Pos}{td ty tx:TE}
theorem Zan (hu:X.A.units+1<cLine)(ho:PE X o td)(he:PE X e ty)(hf:PE X f tx)(m:M2 X o "get" apos e f cpos):PE X (.Call (.Attribute o "get" apos) [e,f] [] cpos) (tDGet2 td ty tx):=by
  refine⟨?_⟩;intro pins s σ H Q I h;refine wpAny_Call_method m.base m.few m.line PySem.F.plainAttrs_dict slot_dict_get PySem.F.type_dict_get (thn (ho pins s σ H _ I h) λ u s1 zz9=>?_);obtain⟨x,H1,I1,rx,a,ex,d,q1⟩:=zz9;subst ex;obtain rfl:u=Value.ref a:=rx;obtain⟨t1,t2,_⟩:=isD_at I1 d;refine⟨t1,t2,?_⟩;rw[m.trees];refine Calls.callWith_builtin rfl (Calls.evalArgs_plain (Calls.spliced_cons (thn (he pins s1 σ H1 _ I1 q1) λ iv s2 ⟨y,H2,I2,ry,q2⟩=>
    Calls.spliced_cons (thn (hf pins s2 σ H2 _ I2 q2) λ fv s3 ⟨z,H3,I3,rz,ov,g,q3⟩=>Calls.spliced_nil ?_))))
  exact d_get2 hu I3 g ry rz λ w' s4 I4 rw'=>⟨_,H3,I4,rw',q3⟩
end
section
variable {X:Cx}{pins:List (Addr×Obj)}{σ:St}{H:Hp}{s:Shared}{a:Addr}{kvs:List (Key×V)}{A:Around}{E:Value->Shared->Prop}
theorem ZcA {Q:Value->Shared->Prop}(I:Inv X pins σ H s)(e:Rd H a (.dK kvs))(h:∀ p s',H p=none->Inv X pins σ (upd H p (.dK kvs)) s'->Q (.ref p) s'):wpAny (model X.prog X.w) A (call (.type "dict") [.ref a]) Q E s:=by
 obtain⟨z,hd,vs,rel,dd⟩:=XS I.hok e;refine kt_call_dict hd dd (by rw[<- rel.length];exact z) λ h' dd' hs=>?_;refine h _ _ (I.hok.fresh (le_refl _)) (I.laid (a:=s.heap.objs.size) (o:=.dK kvs) (t':=s.toks) (λ b q hq=>?_) (le_refl _) (Zab z (beq_eq_false_iff_ne.mpr (Ne.symm (ne_of_lt I.big))) rel dd'));exact(hs.2 b (ne_of_lt (Heap.lt_size hq))).trans (Heap.get?_push_of_some _ hq)
end
section
variable {X:Cx}{pins:List (Addr×Obj)}{σ:St}{H:Hp}{s:Shared}{a:Addr}{y:V}{u:Value}{A:Around}{E:Value->Shared->Prop}
end
end L2
namespace HT
open PySem PyProof.Rows
section
open PySem.SeqAt
open PySem.AutoSeq1 (wpAny_loadPart')
open PySem.MeetsSeq PySem.MeetsSeq2 PySem.MeetsSeq3
end
section
variable {prog:Program}{w:World}{A:Around}{E:Value->Shared->Prop}{s:Shared}
end
end HT
namespace L2
open PySem PySem.Spec PyProof.Rows
noncomputable abbrev TO:=St->Hp->(Option Int->Hp->Prop)->Prop
noncomputable abbrev POb (X:Cx)(e:Option Expr)(t:TO):Prop:=
  ∀(pins:List (Addr×Obj))(s:Shared)(σ:St)(H:Hp)(Q:Option Int->Hp->Prop),Inv X pins σ H s->t σ H Q ->
    wpAny (model X.prog X.w) X.A (evalPart e X.env) (λ u s'=>∃ o H',Inv X pins σ H' s'/\IsPart u o/\Q o H') X.xe s
structure PO (X:Cx)(e:Option Expr)(t:TO):Prop where
  go:POb X e t
instance {X:Cx}{e:Option Expr}{t:TO}:CoeFun (PO X e t) λ _=>POb X e t:=⟨PO.go⟩
noncomputable def ZaY:TO:=λ _ H Q=>Q none H
noncomputable def tPart (t:TE):TO:=λ σ H Q=>t σ H λ x H1=>∃ i,x = .int i/\Q (some i) H1
section
variable {X:Cx}{e:Expr}{te:TE}{lo hi:Option Expr}{tl th:TO}{pos p2:Pos}
theorem ZcT:PO X none ZaY:=by
 refine⟨?_⟩;intro pins s σ H Q I h;rw[evalPart_none];exact wpAny_pure ⟨none,H,I, .none,h⟩
theorem ZcS (h:PE X e te):PO X (some e) (tPart te):=by
 refine⟨?_⟩;intro pins s σ H Q I hw;rw[evalPart_some];refine thn (h pins s σ H _ I hw) λ u s1 zz9=>?_;obtain⟨x,H1,I1,r1,q1⟩:=zz9;obtain⟨i,rfl,q⟩:=q1;obtain⟨t,rfl⟩:=r1;exact⟨some i,H1,I1, .int i t,q⟩
noncomputable def SlR (X:Cx)(r:V->Option Int->Option Int->Hp->VK->Prop):Prop:=
  ∀(pins:List (Addr×Obj))(s:Shared)(σ:St)(H:Hp)(x:V)(v vl vu:Value)(lo hi:Option Int)(sl:Addr)(Q:VK),Inv X pins σ H s->Zq x v->s.heap.IsSliceOf sl vl vu .none->IsPart vl lo->IsPart vu hi->r x lo hi H Q ->
    ∃ T id,typeLookup (.type T) "__getitem__"=pure (some (.builtin id))/\s.TypeIs v T/\wpAny (model X.prog X.w) X.A (getItem v (.ref sl)) (EP X pins σ Q) X.xe s
noncomputable def tSl (r:V->Option Int->Option Int->Hp->VK->Prop)(te:TE)(tl th:TO):TE:=λ σ H Q=>te σ H λ x H1=>tl σ H1 λ l H2=>th σ H2 λ u H3=>r x l u H3 Q
theorem Zb2 {r:V->Option Int->Option Int->Hp->VK->Prop}(hr:SlR X r)(he:PE X e te)(hl:PO X lo tl)(hu:PO X hi th):PE X (.Subscript e (.Slice lo hi none p2) pos) (tSl r te tl th):=by
 refine⟨?_⟩;intro pins s σ H Q I h;refine Subscript_ (thn (he pins s σ H _ I h) λ v s1 zz9=>?_);obtain⟨x,H1,I1,r1,q1⟩:=zz9;refine wpAny_Slice (thn (hl pins s1 σ H1 _ I1 q1) λ vl s2 ⟨l,H2,I2,pl,q2⟩=>thn (hu pins s2 σ H2 _ I2 q2) λ vu s3 zz9=>?_);obtain⟨u,H3,I3,pu,q3⟩:=zz9;rw[evalPart_none];refine wpAny_pure ?_;have I4:Inv X pins σ H3 { s3 with heap:=s3.heap.push { cls:=.type "slice",data:=.fields #[vl,vu, .none] } }:=I3.kept (t':=s3.toks) λ b ob q=>Heap.get?_push_of_some _ q;obtain⟨T,id,hT,ht,hg⟩:=hr pins { s3 with heap:=s3.heap.push { cls:=.type "slice",data:=.fields #[vl,vu, .none] } } σ H3 x v vl vu l u s3.heap.objs.size Q I4 r1 (Heap.IsSliceOf.new ..) pl pu q3;show wpAny (model X.prog X.w) X.A (subscriptTail e (.Slice lo hi none p2) v (.ref s3.heap.objs.size)) (EP X pins σ Q) X.xe { s3 with heap:=s3.heap.push { cls:=.type "slice",data:=.fields #[vl,vu, .none] } };exact tail_any (ops:=[.ref s3.heap.objs.size,v]) ht hT hg (by with_unfolding_all rfl)
end
open PySem PySem.Spec PyProof.Rows
noncomputable def ixN (n:Nat)(i:Int):Option Nat:=if 0<=i then (if i<n then some i.toNat else none) else if -(n:Int)<=i then some (i+n).toNat else none
noncomputable def atI {α:Type}(xs:List α)(i:Int):Option α:=(ixN xs.length i).bind λ j=>xs[j]?
theorem Zdb {n:Nat}{i:Int}{j:Nat}(h:ixN n i=some j):seqIndex? i n=some j/\j<n /\ -(n:Int)<=i/\i<n:=by
  unfold ixN at h
  by_cases h0:0<=i
  . rw[if_pos h0]at h
    by_cases h1:i<n
    . rw[if_pos h1]at h;have e:i.toNat=j:=Option.some.inj h;exact⟨by rw[seqIndex_of h0 h1,e],by omega,by omega,h1⟩
    . rw[if_neg h1]at h;cases h
  . rw[if_neg h0]at h
    by_cases h1 : -(n:Int)<=i
    . rw[if_pos h1]at h;have e:(i+n).toNat=j:=Option.some.inj h;exact⟨by rw[seqIndex_neg (by omega) h1,e],by omega,h1,by omega⟩
    . rw[if_neg h1]at h;cases h
theorem Zad {α:Type}{xs:List α}{i:Int}{v:α}(h:atI xs i=some v):∃ j,seqIndex? i xs.length=some j/\xs[j]? = some v/\j<xs.length /\ -(xs.length:Int)<=i/\i<xs.length:=by
  unfold atI at h;cases e:ixN xs.length i with
  |none=>rw[e]at h;cases h
  |some j=>
    rw[e]at h;obtain⟨h1,h2,h3,h4⟩:=Zdb e;exact⟨j,h1,h,h2,h3,h4⟩
theorem X1 {α:Type}{xs:List α}{j:Nat}{v:α}(h:xs[j]? = some v):atI xs (j:Int)=some v:=by
  have hj:j<xs.length:=(List.getElem?_eq_some_iff.mp h).1;have e:ixN xs.length (j:Int)=some j:=by
    unfold ixN;rw[if_pos (by omega),if_pos (by omega)];simp
  unfold atI;rw[e];exact h
noncomputable def Zdi (b:Expr):Prop:=∀ o i,subscripted b false o i=operate [o,i] (getItem o i)
noncomputable def IxR (X:Cx)(r:R2):Prop:=
  ∀(value slice:Expr)(pins:List (Addr×Obj))(s:Shared)(σ:St)(H:Hp)(x y:V)(v u:Value)(Q:VK),Inv X pins σ H s->Zq x v->Zq y u->r x y H Q ->
    subscripted slice false v u=operate [v,u] (getItem v u)->wpAny (model X.prog X.w) X.A (subscriptTail value slice v u) (EP X pins σ Q) X.xe s
noncomputable def MtR (X:Cx)(id:String)(r:V->List V->Hp->VK->Prop):Prop:=
  ∀(pins:List (Addr×Obj))(s:Shared)(σ:St)(H:Hp)(x:V)(xs:List V)(v:Value)(us:List Value)(Q:VK),Inv X pins σ H s->Zq x v->ZJ xs us->r x xs H Q ->
    wpAny (model X.prog X.w) X.A (call (.builtin id) (v::us)) (EP X pins σ Q) X.xe s
section
variable {X:Cx}{a b:Expr}{ta tb:TE}{pos:Pos}
theorem Zo {r:R2}(hr:IxR X r)(ha:PE X a ta)(hb:PE X b tb)(hs:Zdi b):PE X (.Subscript a b pos) (tOp r ta tb):=by
 refine⟨?_⟩;intro pins s σ H Q I h;exact Subscript_ (binT ha hb I h λ v u s2 x y H2 I2 rx ry q=>hr a b pins s2 σ H2 x y v u Q I2 rx ry q (hs _ _))
noncomputable def rIxL (K:Frag):R2:=λ x y H Q=>∃ p xs i v,x = .ref p/\y = .int i/\SqL K H p xs/\atI xs i=some v/\Q v H
noncomputable def rIxT (K:Frag):R2:=λ x y H Q=>∃ p xs i v,x = .ref p/\y = .int i/\SqT K H p xs/\atI xs i=some v/\Q v H
noncomputable def rIxS:R2:=λ x y H Q=>∃ z i c,x = .str z/\y = .int i/\z.length<=sizeLine/\atI z.cps.toList i=some c/\Q (.str ⟨#[c]⟩) H
theorem X0:IxR X (rIxL X.K):=by
  intro value slice pins s σ H x y v u Q I rx ry h hs;obtain⟨p,xs,i,z,rfl,rfl,hq,he,q⟩:=h;cases rx;obtain⟨t,rfl⟩:=ry;obtain⟨its,r,pl,hz⟩:=I.list hq;obtain⟨j,h1,h2,h3,h4,h5⟩:=Zad he;obtain⟨w,ew,rw'⟩:=r.get h2;have hl:=r.length;have hn:=J7;have fin:EP X pins σ Q w s:=⟨z,H,I,rw',q⟩
  by_cases h0:0<=i
  . have hj:i.toNat=j:=by
      rw[seqIndex_of h0 h5]at h1;exact Option.some.inj h1
    exact item_listR pl.isList h0 (by omega) (by rw[hj];simpa using ew) fin hs
  . have hj:(i+(its.toArray.size:Int)).toNat=j:=by
      rw[seqIndex_neg (by omega) h4]at h1;rw[size_toArray,<- hl];exact Option.some.inj h1
    exact subscriptTail_builtinR (x:=w) pl.isList.typeIs slot_list_getitem.lookup
      (wpAny_getItem_list_neg (Q:=λ r s'=>r=w/\EP X pins σ Q r s') pl.isList (by omega) (by rw[size_toArray] <;> omega) (by omega) (by rw[hj];simpa using ew) ⟨rfl,fin⟩) hs
theorem Zl:IxR X (rIxT X.K):=by
  intro value slice pins s σ H x y v u Q I rx ry h hs;obtain⟨p,xs,i,z,rfl,rfl,hq,he,q⟩:=h;cases rx;obtain⟨t,rfl⟩:=ry;obtain⟨its,r,pl,hz⟩:=I.tuple hq;obtain⟨j,h1,h2,h3,h4,h5⟩:=Zad he;obtain⟨w,ew,rw'⟩:=r.get h2;have hl:=r.length;have hn:=J7;have fin:EP X pins σ Q w s:=⟨z,H,I,rw',q⟩;exact subscriptTail_builtinR (x:=w) pl.typeIs slot_tuple_getitem.lookup
    (getItem_tuple (j:=j) (Q:=λ r s'=>r=w/\EP X pins σ Q r s') pl (by omega) (by omega) (by rw[size_toArray,<- hl];exact h1) (by simpa using ew) ⟨rfl,fin⟩) hs
theorem ix_str:IxR X rIxS:=by
  intro value slice pins s σ H x y v u Q I rx ry h hs;obtain⟨z,i,c,rfl,rfl,hz,he,q⟩:=h;obtain⟨t,rfl⟩:=rx;obtain⟨t',rfl⟩:=ry;obtain⟨j,h1,h2,h3,h4,h5⟩:=Zad he;have hl:z.cps.toList.length=z.length:=by simp[Str.length]
  rw[hl]at h1 h4 h5;have hn:=J7;exact tail_any (typeIs_str s z t) slot_str_getitem.lookup (getItem_str (c:=c) (by
    have e1:decide (i < -(2 ^ 63:Int))=false:=decide_eq_false (by omega);have e2:decide (i>=2 ^ 63)=false:=decide_eq_false (by omega);rw[e1,e2,Bool.or_false]) (by rw[h1];simpa using h2) ⟨.str ⟨#[c]⟩,H,I.tok _,⟨_,rfl⟩,q⟩) hs
theorem Zac:YD X (.type "list") (λ xs H Q=>∃ p ys,xs=[.ref p]/\(SqL X.K H p ys\/SqT X.K H p ys)/\∀ l,H l=none->Q (.ref l) (upd H l (.lst ys))):=by
  intro pins s σ H xs us Q I r h;obtain⟨p,ys,rfl,hq,q⟩:=h;obtain⟨u,rfl,rx⟩:=Zag r;cases rx;have fin:∀(its:List Value),ZJ ys its->ys.length<=sizeLine->∀(h':Heap)(c':Nat),(∀ b o',s.heap.get? b=some o'->h'.get? b=some o') ->
      h'.get? s.heap.objs.size=some { cls:=.type "list",dict:=none,data:=.seq its.toArray c',slots := #[] }->EP X pins σ Q (.ref s.heap.objs.size) { s with heap:=h' }:=λ its r' hz h' c' kp e=>
    ⟨.ref s.heap.objs.size,_,I.laid (t':=s.toks) kp (le_refl _) (show ZI X.prog X.w _ h' _ (.lst ys) from⟨hz,its,c',r',e⟩),rfl,q _ (I.hok.fresh (le_refl _))⟩
  rcases hq with hq|hq
  . obtain⟨its,r',pl,hz⟩:=I.list hq;have hlen:=r'.length;obtain⟨o,ho,hc,n,hd⟩:=pl.isList;exact call_list_seq p (.inl rfl) ho hc hd (λ h' c' kp e=>fin its r' hz h' c' kp e) (by simp only[size_toArray] <;> omega)
  . obtain⟨its,r',pl,hz⟩:=I.tuple hq;have hlen:=r'.length;obtain⟨o,ho,hc,n,hd⟩:=pl;exact call_list_seq p (.inr rfl) ho hc hd (λ h' c' kp e=>fin its r' hz h' c' kp e) (by simp only[size_toArray] <;> omega)
noncomputable def tyV (K:Frag)(T:String)(x:V)(H:Hp):Prop:=match x with
  |.str _=>T="str"
  |.int _=>T="int"
  | .ref p=>(T="list"/\∃ xs,SqL K H p xs)\/(T="tuple"/\∃ o,K.lookup p=some o/\o.cls = .type "tuple"/\o.dict=none) \/
      (T="dict"/\((∃ kvs,H p=some (.dK kvs))\/∃ kvs,H p=some (.dT kvs)))\/(T="set"/\∃ S n,H p=some (.set S n))
  |_=>False
theorem tyV_is {pins:List (Addr×Obj)}{σ:St}{H:Hp}{s:Shared}{T:String}{x:V}{v:Value}(I:Inv X pins σ H s)(r:Zq x v)(ty:tyV X.K T x H) :
    s.TypeIs v T/\∀ a,v = .ref a->∃ ob,s.heap.get? a=some ob/\ob.dict=none:=by
  cases x with
  |str z=>
    obtain⟨t,rfl⟩:=r;cases (show T="str" from ty);exact⟨typeIs_str s z t,λ _ e=>nomatch e⟩
  |int i=>
    obtain⟨t,rfl⟩:=r;cases (show T="int" from ty);exact⟨typeIs_int s i t,λ _ e=>nomatch e⟩
  |ref p=>
    cases r;rcases ty with ⟨rfl,xs,hq⟩|⟨rfl,o,hk,hc,hd⟩|⟨rfl,hk⟩|⟨rfl,S,n,hk⟩
    . obtain⟨its,_,pl,_⟩:=I.list hq;refine⟨pl.isList.typeIs,λ a e=>?_⟩;cases e;obtain⟨o,n,e,c,hd,_⟩:=pl;exact⟨o,e,hd⟩
    . refine⟨⟨o,I.kIn p o hk,hc⟩,λ a e=>?_⟩;cases e;exact⟨o,I.kIn _ o hk,hd⟩
    . have z:∃ o,s.heap.get? p=some o/\o.ExactDict:=by
        rcases hk with ⟨kvs,hk⟩|⟨kvs,hk⟩
        . obtain⟨_,_,_,_,o,_,_,e,ex,_⟩:=I.hok p _ hk;exact⟨o,e,ex⟩
        . obtain⟨_,_,_,_,o,_,_,e,ex,_⟩:=I.hok p _ hk;exact⟨o,e,ex⟩
      obtain⟨o,e,ex⟩:=z;refine⟨⟨o,e,ex.1⟩,λ a e2=>?_⟩;cases e2;exact⟨o,e,ex.2.1⟩
    . obtain⟨o,_,_,_,e,ex,_⟩:=I.hok p _ hk;refine⟨⟨o,e,ex.1⟩,λ a e2=>?_⟩;cases e2;exact⟨o,e,ex.2.1⟩
  |_=>exact False.elim ty
noncomputable def tBM (K:Frag)(T:String)(r:V->List V->Hp->VK->Prop)(to:TE)(t:TA):TE:=λ σ H Q=>to σ H λ x H1=>tyV K T x H1/\t σ H1 λ xs H2=>r x xs H2 Q
variable {o e:Expr}{es:List Expr}{to:TE}{t:TA}{name:Str}{apos cpos:Pos}{T id:String}{r:V->List V->Hp->VK->Prop}
theorem Zb5 (pa:PlainAttrs T)(slot:Slot T name id)(hty:typeOf (.builtin id)=pure (.type "method_descriptor"))(hm:MtR X id r)(ho:PE X o to)(ha:PA X (e::es) t)(hbase:attributeBase o name X.env (eval o X.env)=eval o X.env:=by rfl)(hfew:((backTo cpos (starEach (e::es) X.env)).all (λ x => !x.1) && (backToKw cpos (keywordEach [] X.env)).all (λ x=>x.1.isSome)
      && decide ((e::es).length+([]:List Keyword).length+(if ([]:List Keyword).isEmpty then 0 else 1)<30))=true:=by rfl)(hline:(apos.endLine == cpos.line)=true:=by rfl)(hs:starEach (e::es) X.env=(false,eval e X.env)::starEach es X.env:=by rfl)(hplain:(backTo cpos (starEach es X.env)).any (·.1)=false:=by rfl) :
    PE X (.Call (.Attribute o name apos) (e::es) [] cpos) (tBM X.K T r to t):=by
  refine⟨?_⟩;intro pins s σ H Q I h;refine wpAny_Call_method_late hbase hfew hline rfl (thn (ho pins s σ H _ I h) λ v s1 zz9=>?_);obtain⟨x,H1,I1,r1,ty,q1⟩:=zz9;obtain⟨h1,h2⟩:=tyV_is I1 r1 ty;refine⟨T,id,pa,slot,hty,h1,h2,?_⟩;have hA:=ha cpos pins s1 σ H1 _ I1 q1;rw[hs]at hA ⊢;refine Calls.callWith_builtin (by show(false || (backTo cpos (starEach es X.env)).any (·.1))=false;rw[hplain] <;> rfl) (Calls.evalArgs_plain ?_);exact thn hA λ us s2 ⟨vs,H2,I2,r2,q2⟩=>hm pins s2 σ H2 x vs v us Q I2 r1 r2 q2
/- xs.append(e),list.index on a module's tuple .. are MtR facts of 06m -/
end
open PySem PySem.Spec PyProof.Rows
noncomputable def MtM (X:Cx)(id:String)(r:V->List V->Hp->VK->Prop):Prop:=
  ∀(pins:List (Addr×Obj))(s:Shared)(σ:St)(H:Hp)(x:V)(xs:List V)(v:Value)(us:List Value)(Q:VK),Inv X pins σ H s->Zq x v->ZJ xs us->r x xs H Q ->
    wpAny (model X.prog X.w) X.A (call (.builtin id) (v::us)) (EP X pins σ Q) X.xe s
theorem ZJ.one:∀ {x:V} {us:List Value},ZJ [x] us->∃ u,us=[u]/\Zq x u
  |_,_, .cons r .nil=>⟨_,rfl,r⟩
section
variable {X:Cx}{pins:List (Addr×Obj)}{σ:St}{H:Hp}{s:Shared}{l b:Addr}{xs ys zs:List V}
theorem Inv.lset {its its':List Value}{n:Nat}{f:Array Value->Array Value}{t':Nat}(I:Inv X pins σ H s)(hH:H l=some (.lst xs))(e:s.heap.get? l=some { cls:=.type "list",data:=.seq its.toArray n })(hf:f its.toArray=its'.toArray)(hv:ZJ ys its')(hz:ys.length<=sizeLine) :
    Inv X pins σ (upd H l (.lst ys)) { s with heap:=s.heap.update l (Obj.mapSeq f),toks:=t' }:=by
  have q:=PySem.IsL.update e f;rw[hf]at q;refine I.write (x:=l) (e:=l) (by rw[hH];exact trivial) (.inl rfl) (λ b' u hb hu=>(Heap.get?_update_other s.heap (Obj.mapSeq f) (Ne.symm hb)).trans hu) ⟨_,q⟩ ?_;exact⟨hz,its',_,hv,q⟩
theorem Inv.lnew {its:List Value}{t':Nat}(I:Inv X pins σ H s)(hv:ZJ ys its)(hz:ys.length<=sizeLine) :
    Inv X pins σ (upd H s.heap.objs.size (.lst ys)) { s with heap:=s.heap.push { cls:=.type "list",data:=.seq its.toArray },toks:=t' }:=
  I.laid (λ _ _ q=>Heap.get?_push_of_some _ q) (le_refl _) ⟨hz,its,0,hv,Heap.get?_push_size _ rfl⟩
theorem Inv.fresh (I:Inv X pins σ H s):H s.heap.objs.size=none:=I.hok.fresh (le_refl _)
theorem Inv.lstM (I:Inv X pins σ H s)(hH:H l=some (.lst xs)):xs.length<=sizeLine/\∃(its:List Value)(n:Nat),ZJ xs its/\xs.length=its.length/\s.heap.get? l=some { cls:=.type "list",data:=.seq its.toArray n }:=by
 obtain⟨z,its,n,r,e⟩:=I.hok l _ hH;exact⟨z,its,n,r,r.length,e⟩
end
section
variable {X:Cx}
noncomputable def ZcM:V->List V->Hp->VK->Prop:=λ x vs H Q=>∃ l xs y,x = .ref l/\vs=[y]/\H l=some (.lst xs)/\xs.length<sizeLine/\Q .non (upd H l (.lst (xs++[y])))
theorem Y5:MtM X "list.append" ZcM:=by
 intro pins s σ H x vs v us Q I rx rv h;obtain⟨l,xs,y,rfl,rfl,hH,hz,q⟩:=h;cases rx;obtain⟨u,rfl,ru⟩:=rv.one;obtain⟨z,its,n,r,hl,e⟩:=I.lstM hH;refine call_meets F.slot_list_append ⟨_,e,rfl⟩ F.entry_list_append (F.args_list_append_2 _ _) (PySem.list_append l its.toArray n u (by rw[size_toArray];omega)) ⟨e,?_⟩;refine⟨.non,_,I.lset (its':=its++[u]) hH e (by simp) (r.append (.cons ru .nil)) ?_,rfl,q⟩;rw[length_append,List.length_singleton];omega
noncomputable def rCat:R2:=λ x y H Q=>∃ l b xs zs,x = .ref l/\y = .ref b/\H l=some (.lst xs)/\H b=some (.lst zs)/\xs.length+zs.length<=sizeLine/\∀ p,H p=none->Q (.ref p) (upd H p (.lst (xs++zs)))
theorem op_cat:OpR X (binaryOp .Add) rCat:=by
 intro pins s σ H x y v u Q I rx ry h;obtain⟨l,b,xs,zs,rfl,rfl,hH,hB,hz,q⟩:=h;cases rx;cases ry;obtain⟨z,its,n,r,hl,e⟩:=I.lstM hH;obtain⟨z2,its2,n2,r2,hl2,e2⟩:=I.lstM hB;refine PySem.P.add_list e e2 ?_ (by rw[size_toArray,size_toArray];omega);have ea:its.toArray++its2.toArray=(its++its2).toArray:=by simp
 rw[ea];exact⟨.ref _,_,I.lnew (t':=s.toks) (r.append r2) (by rw[length_append];omega),rfl,q _ I.fresh⟩
end
section
variable {prog:Program}{w:World}{A:Around}{E:Value->Shared->Prop}{s:Shared}
end
section
variable {X:Cx}
end
end L2
namespace Att
open PySem PySem.W PySem.Calls PyProof.Rows
theorem XX {P:Params}{h:Heap}:∀(ns:List Int)(vs:List Value),WellAll P h vs (ns.map WData.int)->IntsAre vs ns:=by
  intro ns
  induction ns with
  |nil=>
    intro vs w;rw[map_nil]at w;cases w;exact .nil
  |cons n ns ih=>
    intro vs w;rw[map_cons]at w;cases w with
    |cons a b=>
      cases a;exact .cons _ _ (ih _ b)
theorem Zbo {l:OpenLaw}{n:Nat}(hn:l.most=some n){P:Params}{h:Heap}{args:List WData}{vals:List Value}(hpre:l.row.toRowW.claim.pre args=true)(hwl:WellAll P h vals args) :
    ∃ a vs ns,vals=[Value.ref a]/\args=[WData.list (ns.map WData.int)]/\h.get? a=some { cls:=.type "list",data:=.seq vs.toArray }/\IntsAre vs ns/\ns.length<=n:=by
  have hsh:WShape.hasAll [] args [.list .int]=true:=(pre_splitW hpre).1;have hc:l.pre.holds [] { args:=args }=true:=(pre_splitW hpre).2;obtain⟨d,r,rfl,h1,h2⟩:=hasAllW_cons hsh;obtain rfl:=hasAllW_nil h2;obtain⟨xs,rfl,h3⟩:=hasW_list h1;obtain⟨ns,rfl⟩:=items_int h3;have hlen:ns.length<=n:=by
    unfold OpenLaw.pre at hc;have h4:(WTm.not (.lt (.lit (.int (n:Int))) (.len (.arg 0)))).holds [] { args:=[.list (ns.map .int)] }=true:=by
      have h4:=(holds_andW hc).1;rw[hn]at h4;exact h4
    have h5:=condW_of h4 (w_not (w_lt w_lit (w_len_list (w_arg rfl))));rw[length_map]at h5;refine Nat.le_of_not_lt λ q=>?_;have q':(n:Int)<((ns.length:Nat):Int):=by omega
    first
      | (rw[decide_eq_true q']at h5;exact absurd h5 (by decide))
      | (simp at h5;omega)
  cases hwl with
  |cons w1 w2=>
    cases w2;cases w1 with
    |list ho hall=>exact⟨_,_,ns,rfl,rfl,ho,XX ns _ hall,hlen⟩
theorem Zbq (l:OpenLaw)(args:List WData):l.row.toRowW.claim.post args (.bool true) args=true:=
  postW_of (r:=l.row.toRowW) (X:=(true == true))
    (show WShape.has [] (.bool true) .bool=true by first|rfl|decide|simp[WShape.has,WShape.arms,WShape.armsAll])
    (show(WTm.eq .res (.lit (.bool true))).value [] { args:=args,res:=some (.bool true),after:=args }=some (.bool (true == true)) from w_eq_bool (w_res rfl) w_lit) rfl
theorem attach_call {l:OpenLaw}{n:Nat}{q:Program}{loose:List Str}{XP:(Str->Option Value)->Heap->Prop}{YP:World->Heap->Prop}{d:DefRec}(hn:l.most=some n)(hdf:d.params.defaults=[])(call:∀(w:World)(s₀ s₁:Shared)(mg mb:Str->Option Value)(fa:Addr)(o:Obj)(pm cd doc:Value)(a:Addr)(vs:List Value)(ns:List Int),
      Ground q loose [] XP w s₀ mg mb s₁.heap->YP w s₁.heap ->
      s₁.heap.get? fa=some o->o.data = .func (docDef d.name d.params d.body d.scope pm cd doc)->s₁.heap.CodeRec cd d.name->mg d.name=some (.ref fa) ->
      s₁.heap.get? a=some { cls:=.type "list",data:=.seq vs.toArray }->IntsAre vs ns->ns.length<=n->s₁.gens = #[] ->
      codeAny (model l.prog w) callerA (.call (.ref fa) ⟨[.ref a],[]⟩) (λ r s'=>r = .ok (.ret (.bool true))/\OldK s₁.heap s'.heap/\s'.os=s₁.os/\AllBare s'.gens) s₁) :
    WalkO q loose XP YP l.row.toRowW d [] (λ f vs=>PySem.call f vs):=by
  intro w s₀ s₁ mg mb G Y fa o pm cd doc dV kV ho hd hcd hD hmg hg args vals as hpre hlay hrd hwl hlo;obtain rfl:dV = .none:=Dflts.none hD hdf;obtain rfl:kV = .none:=Dflts.noKw hD;obtain⟨a,vs,ns,rfl,rfl,hobj,hints,hlen⟩:=Zbo hn hpre hwl;refine enter_call (codeAny_mono (call w s₀ s₁ mg mb fa o pm cd doc a vs ns G Y ho (fd_plain hd) hcd hmg hobj hints hlen hg) λ r s' hq=>?_);obtain⟨rfl,h2,h3,h4⟩:=hq;exact⟨.inl ⟨.bool true, .bool true,[],rfl,λ _=>rfl, .bool true,Zbq l _,λ _=>⟨List.Pairwise.nil,λ _ hm=>(nomatch hm)⟩⟩,h2,h3,h4⟩
section
variable {prog:Program}{w:World}{A:Around}{E:Value->Shared->Prop}{s:Shared}{K:Frag}
noncomputable def ledger (h:Heap)(L d:Addr):List (Addr×Obj):=(List.range h.objs.size).filterMap λ a=>if a=L\/a=d then none else (h.get? a).map λ o=>(a,o)
end
end Att
namespace L2
open PySem PySem.Spec PyProof.Rows
theorem Jz:∀ {vs:List Value} {ns:List Int},IntsAre vs ns->ZJ (ns.map V.int) vs
  |_,_, .nil => .nil
  |_,_, .cons n t h => .cons ⟨t,rfl⟩ (Jz h)
noncomputable def Only (H:Hp):Prop:=∀ b,H b=none\/∃ o xs,H b=some (.frz o (.lst xs))
theorem Zcm {P:Program}{w:World}{K:Frag}{mg mb:Str->Option Value}{CX:CXT}{k:Nat}{fa a:Addr}{fd:FuncData}{x:Str}{sp:Sp}{s₁:Shared}{vs:List Value}{ns:List Int}(KX:K.In s₁.heap)(hns:s₁.heap.Ns mainGlobals mg)(hb:s₁.heap.Ns builtinsNs mb)(hbb:∀ x:Str,x≠"__name__"->mb x=bootBuiltins x)(hlim:s₁.heap.NoLimit)(hg:s₁.gens = #[])(ha:s₁.heap.get? a=some { cls:=.type "list",data:=.seq vs.toArray })(hi:IntsAre vs ns)(hl:ns.length<=sizeLine)(hr:Room k callerA)(F:∀ base:Heap,K.In base->base.Ns mainGlobals mg->FnOk P w K mg base CX k fa fd [x] sp)(hbind:∀(s:Shared)(u:Value),BindsTo s fd ⟨[u],[]⟩ [(x,u)])(hsp:∀ H:Hp,Only H->SqL K H a (ns.map V.int)->sp [.ref a] H (λ v _=>v = .bl true) λ _ _ _=>False)(hCX:∀ H e s',CX [] H s₁ (λ _ _ _=>False) e s'->False) :
    codeAny (model P w) callerA (.call (.ref fa) ⟨[.ref a],[]⟩) (λ r s'=>r = .ok (.ret (.bool true))/\OldK s₁.heap s'.heap/\s'.os=s₁.os/\AllBare s'.gens) s₁:=by
  have rv:=Jz hi;have lenV:=hi.length;have core:∀ H:Hp,Only H->SqL K H a (ns.map V.int)->HOk P w H s₁.heap->(∀ b,H b≠none->b=a)->(H a≠none->K.lookup a=none) ->
      codeAny (model P w) callerA (.call (.ref fa) ⟨[.ref a],[]⟩) (λ r s'=>r = .ok (.ret (.bool true))/\OldK s₁.heap s'.heap/\s'.os=s₁.os/\AllBare s'.gens) s₁:=by
    intro H hO hS hok hA hK;have base_of:∀ {b:Addr} {o:Obj},s₁.heap.get? b=some o->H b=none->(J8 s₁.heap H).get? b=some o:=λ e n=>Zcr e n;have noA:∀ {b:Addr} {o:Obj} {es:Array DictEntry} {ep:Nat},s₁.heap.get? b=some o->o.data = .dict es ep->H b=none:=λ {b o es ep} e d=>by
      cases q:H b with
      |none=>rfl
      |some u=>
        have e':b=a:=hA b (by rw[q];simp);subst e';rw[ha]at e;cases e;have d':Data.seq vs.toArray _=Data.dict es ep:=d;cases d'
    have nsK:∀ {b:Addr} {m:Str->Option Value},s₁.heap.Ns b m->(J8 s₁.heap H).Ns b m:=λ {b m} ⟨o,es,ep,e,d,r⟩=>⟨o,es,ep,base_of e (noA e d),d,r⟩;have hKb:K.In (J8 s₁.heap H):=λ b o e=>base_of (KX b o e) (by
      cases q:H b with
      |none=>rfl
      |some u=>
        have e':b=a:=hA b (by rw[q];simp);subst e';rw[hK (by rw[q];simp)]at e;cases e)
    have hM:Mod K mg (J8 s₁.heap H):=⟨hKb,nsK hns,⟨mb,nsK hb,hbb⟩,let ⟨mc,h1,h2⟩:=hlim;⟨mc,nsK h1,h2⟩⟩;have e0:Env0 P w K mg (J8 s₁.heap H) callerA [] s₁ H:=⟨rfl,hM,λ b o e=>Zc0 e,Nat.le_of_eq (ZbH _ _),trivial,λ b hb=>absurd (show b∈([]:List Addr) from hb) (by simp),hok, .of_eq hg⟩;refine codeAny_mono ((F _ hKb (nsK hns)).run callerA [] s₁ H ⟨[.ref a],[]⟩ [.ref a] [.ref a] _ _ hr e0 (hbind s₁ (.ref a)) (.cons rfl .nil) (hsp H hO hS)) λ r s' h=>?_;cases r with
    |error e=>exact(hCX H e s' h).elim
    |ok fl=>
      cases fl with
      |next=>exact False.elim h
      |brk=>exact False.elim h
      |cont=>exact False.elim h
      |ret u=>
        obtain⟨v,H',os,bare,un,hok',r',q⟩:=h;have q':v = .bl true:=q;subst q';obtain rfl:u=Value.bool true:=r';refine⟨rfl,OldK.of_keep λ b o e=>?_,os,bare⟩;cases q:H b with
        |none=>exact un.keep b o e q (by intro z;exact absurd (show b∈([]:List Addr) from z) (by simp)) (by simp)
        |some u=>
          rcases hO b with z|⟨ob,xs,z⟩
          . rw[q]at z;cases z
          . have z2:=un.frzs b ob _ z;obtain⟨e1,_⟩:=hok b _ z;obtain⟨e2,_⟩:=hok' b _ z2;rw[e]at e1;cases e1;exact e2
  cases hk:K.lookup a with
  |some o=>
    have e:=KX a o hk;rw[ha]at e;cases e;refine core (λ _=>none) (λ _ => .inl rfl) (.inr ⟨_,vs.toArray,_,hk,rfl,rfl,rfl,by rw[size_toArray,lenV];exact hl,by simpa using rv⟩) (λ b u z=>by have z':(none:Option HO)=some u:=z;cases z') (λ b z=>absurd rfl z) λ z=>absurd rfl z
  |none=>
    refine core (λ b=>if b=a then some (.frz { cls:=.type "list",data:=.seq vs.toArray } (.lst (ns.map V.int))) else none) (λ b=>?_) (.inl (.inr ⟨{ cls:=.type "list",data:=.seq vs.toArray },if_pos rfl⟩)) (λ b u z=>?_) (λ b z=>?_) λ _=>hk
    . by_cases hb:b=a
      . exact .inr ⟨_,_,if_pos hb⟩
      . exact .inl (if_neg hb)
    . by_cases hb:b=a
      . have z':=(if_pos hb).symm.trans z;cases z';subst hb;exact⟨ha,by rw[length_map];exact hl,vs,_,rv,ha⟩
      . have z':=(if_neg hb).symm.trans z;cases z'
    . by_cases hb:b=a
      . exact hb
      . exact absurd (if_neg hb) z
open PySem PySem.Spec PyProof.Rows
theorem walk_of {l:PySem.W.OpenLaw}{n k:Nat}{q:Program}{loose:List Str}{XP:(Str->Option Value)->Heap->Prop}{YP:World->Heap->Prop}{d:DefRec}{K:Params->Frag}{CX:World->CXT}{sp:World->Sp}{x:Str}(hn:l.most=some n)(hn2:n<=sizeLine)(hdf:d.params.defaults=[])(hr:Room k callerA)(hY:∀(w:World)(h:Heap),YP w h->(K w.params).In h)(F:∀(w:World)(mg:Str->Option Value)(fa:Addr)(h:Heap),(K w.params).In h->h.Ns mainGlobals mg->mg d.name=some (.ref fa) ->
      ∃ fd:FuncData,(∀(s:Shared)(u:Value),BindsTo s fd ⟨[u],[]⟩ [(x,u)]) /\
        ∀ base:Heap,(K w.params).In base->base.Ns mainGlobals mg->FnOk l.prog w (K w.params) mg base (CX w) k fa fd [x] (sp w))(hsp:∀(w:World)(H:Hp)(a:Addr)(ns:List Int),ns.length<=n->Only H->SqL (K w.params) H a (ns.map V.int)->sp w [.ref a] H (λ v _=>v = .bl true) λ _ _ _=>False)(hCX:∀(w:World)(H:Hp)(s:Shared)(e:Value)(s':Shared),CX w [] H s (λ _ _ _=>False) e s'->False) :
    PySem.W.WalkO q loose XP YP l.row.toRowW d [] (λ f vs=>PySem.call f vs):=by
  refine Att.attach_call hn hdf λ w s₀ s₁ mg mb fa o pm cd doc a vs ns G Y ho hd hcd hmg hobj hints hlen hg=>?_;have KX:=hY w _ Y;obtain⟨fd,hb,hF⟩:=F w mg fa _ KX G.T.g hmg;exact Zcm KX G.T.g G.T.b G.T.builtins G.T.nolimit hg hobj hints (le_trans hlen hn2) hr hF hb (λ H hO hS=>hsp w H a ns hlen hO hS) λ H e s'=>hCX w H s₁ e s'
open PySem PySem.Spec PyProof.Rows
noncomputable def Ya (s:Stmt):Arguments:=match s with
  |.FunctionDef _ a _ _ _ _ _ _ _ _=>a
  |_=>{ posonlyargs:=[],args:=[],vararg:=none,kwonlyargs:=[],kw_defaults:=[],kwarg:=none,defaults:=[] }
noncomputable def Z3 (s:Stmt):List Stmt:=match s with
  |.FunctionDef _ _ b _ _ _ _ _ _ _=>b
  |_=>[]
noncomputable def Zi (s:Stmt):Scope:=match s with
  |.FunctionDef _ _ _ _ _ _ sc _ _ _=>sc
  |_=>{ kind:=.function,names:=[],isGenerator:=false,isCoroutine:=false }
noncomputable abbrev CX0:CXT:=λ _ _ _ _ _ _=>False
noncomputable abbrev E0:XK:=λ _ _ _=>False
theorem pass0 {X:Cx}:ZaV CX0 X E0:=λ _ _ _ _ _ _ _ h=>h.elim
structure Fun (K:Frag)(x qual:Str)(st:Stmt)(f:Addr)(fd:FuncData):Prop where
  ex:∃(oc:Value)(od:Option Addr)(kV doc pm:Value)(an:Option Addr)(cdv ct:Value)(osl:Array (Option Value)),
    fd=fnOf x qual (Ya st) (Z3 st) (Zi st) .none kV doc pm an cdv ct/\K.lookup f=some ⟨oc,od, .func fd,osl⟩/\codeIn K cdv qual=true
  kp:keepIn K (.ref f)=true
section
variable {P:Program}{w:World}{K:Frag}{mg:Str->Option Value}{base:Heap}
theorem Fun.ok {x qual:Str}{st:Stmt}{f:Addr}{fd:FuncData}{N ps:List Str}{k:Nat}{sp:Sp}(F:Fun K x qual st f fd)(S:FnScope N ps (Zi st))(len:∀ vs H Q E,sp vs H Q E->vs.length=ps.length)(hbody:∀(cdv:Value)(A:Around)(outer:List Env)(s:Shared)(H:Hp)(vs:List V)(Q:VK)(E:XK),Room k (A.deeper (envOfC qual (Zi st) s.heap.objs.size f cdv))->sp vs H Q E ->
      ∃ t,PSs (ZaS CX0 P w K mg base N qual (Zi st) f cdv A outer s H E).nox (Z3 st) t/\t { nx:=λ _ H'=>Q .non H',rt:=Q } (XN N vs) H):FnOk P w K mg base CX0 (k+1) f fd ps sp:=by
  obtain⟨oc,od,kV,doc,pm,an,cdv,ct,osl,rfl,lk,hcd⟩:=F.ex;refine fn_of lk hcd S len λ A outer s H vs Q E hr hsp=>?_;obtain⟨t,h,q⟩:=hbody cdv A outer s H vs Q E hr hsp;exact⟨t,h.nox,q⟩
theorem Fun.binds {x qual:Str}{st:Stmt}{f:Addr}{fd:FuncData}{ps:List Str}(F:Fun K x qual st f fd)(h:∀(kV doc pm:Value)(an:Option Addr)(cdv ct:Value)(us:List Value),us.length=ps.length->bindArgs (fnOf x qual (Ya st) (Z3 st) (Zi st) .none kV doc pm an cdv ct) ⟨us,[]⟩=pure (ps.zip us)):JV K fd ps []:=by
 obtain⟨oc,od,kV,doc,pm,an,cdv,ct,osl,rfl,lk,hcd⟩:=F.ex;exact .all (h kV doc pm an cdv ct)
theorem Zct {x qual:Str}{st:Stmt}{f:Addr}{oc:Value}{od an:Option Addr}{osl:Array (Option Value)}{kV doc pm cdv ct:Value}(l:K.lookup f=some ⟨oc,od, .func (fnOf x qual (Ya st) (Z3 st) (Zi st) .none kV doc pm an cdv ct),osl⟩)(c:codeIn K cdv qual=true)(k:keepIn K (.ref f)=true):Fun K x qual st f (fnOf x qual (Ya st) (Z3 st) (Zi st) .none kV doc pm an cdv ct):=⟨⟨oc,od,kV,doc,pm,an,cdv,ct,osl,rfl,l,c⟩,k⟩
end
theorem Z4 {A:Around}{k:Nat}(hr:Room k A):A.units+1<cLine:=Nat.lt_of_le_of_lt (Nat.add_le_add_left (by decide:1<=64) _) hr.units
theorem Zp {n:Nat}(h:n<=1000):n<sizeLine:=Nat.lt_of_le_of_lt h (by decide)
section
variable {X:Cx}
theorem pv (i:Nat){x:Str}{pos:Pos}(hN:X.N[i]? = some x:=by rfl)(hv:Vis X.env.scope x:=by first|exact Or.inl rfl|exact Or.inr (Or.inl rfl)|exact Or.inr (Or.inr rfl))(hd:(x == ("__debug__":Str))=false:=by decide)(hcd:(x == ("__classdict__":Str))=false:=by decide):PE X (.Name x pos) (tVar i):=pe_var hN hv hd hcd
end
section
variable {X:Cx}
end
theorem Y6 {A B:Prop}(h:B):if false=true then A else B:=by
 rw[if_neg Bool.false_ne_true];exact h
theorem iteT {A B:Prop}(h:A):if true=true then A else B:=by
 rw[if_pos rfl];exact h
theorem Ym {c A B:Prop}[Decidable c](h1:c->A)(h2:¬ c->B):if c then A else B:=by
  by_cases h:c
  . rw[if_pos h];exact h1 h
  . rw[if_neg h];exact h2 h
noncomputable def Zx (H H':Hp):Prop:=∀ b o,H b=some o->H' b=some o
theorem Zx.refl (H:Hp):Zx H H:=λ _ _ h=>h
theorem Zx.trans {H H1 H2:Hp}(a:Zx H H1)(b:Zx H1 H2):Zx H H2:=λ c o h=>b c o (a c o h)
theorem Zx.free {H H':Hp}(e:Zx H H'){l:Addr}(h:H' l=Option.none):H l=Option.none:=by
  cases q:H l with
  |none=>rfl
  |some o=>
    rw[e l o q]at h;cases h
theorem Zx.seq {K:Frag}{H H':Hp}{a:Addr}{xs:List V}(e:Zx H H')(h:SqL K H a xs):SqL K H' a xs:=by
  rcases h with (h|⟨o,h⟩)|h
  . exact .inl (.inl (e _ _ h))
  . exact .inl (.inr ⟨o,e _ _ h⟩)
  . exact .inr h
section
variable {κ:Type}[DecidableEq κ]
end
open PySem PySem.Spec PyProof.Rows
structure Dn (P:Program)(w:World)(K:Frag)(mg:Str->Option Value)(base:Heap)(k:Nat)(x:Str)(ps:List Str)(sp:Sp):Prop where
  ex:∃ f fd,FnOk P w K mg base CX0 k f fd ps sp/\mg x=some (.ref f)/\keepIn K (.ref f)=true/\JV K fd ps []
noncomputable def tFn (sp:Sp)(t:TA):TE:=λ σ H Q=>t σ H λ vs H1=>sp vs H1 Q E0
section
variable {X:Cx}{k:Nat}{ps:List Str}{sp:Sp}{x:Str}{p pos:Pos}{e:Expr}{es:List Expr}{t:TA}
theorem Zu (D:Dn X.prog X.w X.K X.mg X.base k x ps sp)(hr:Room k X.A)(ha:PA X (e::es) t)(hg:Gl X x:=by rfl)(hdb:(x == ("__debug__":Str))=false:=by decide)(he:starEach (e::es) X.env=(false,eval e X.env)::starEach es X.env:=by rfl)(hpl:(backTo pos (starEach es X.env)).any (·.1)=false:=by rfl) :
    PE X (.Call (.Name x p) (e::es) [] pos) (tFn sp t):=by
  obtain⟨f,fd,F,hm,hk,hb⟩:=D.ex;have q:=ZcY (p:=p) (pos:=pos) F hr hg hm hk hb .nil pass0 ha hdb he hpl;have e:tCall sp [] E0 t=tFn sp t:=by
    funext σ H Q;show t σ H (λ vs H1=>sp (vs++[]) H1 Q E0)=t σ H λ vs H1=>sp vs H1 Q E0;simp only[append_nil]
  rw[<- e];exact q
theorem Zbg {k:Int}{m:Nat}(h:k.natAbs<2 ^ m):Builtin.Int.intBits k<=m:=by
  unfold Builtin.Int.intBits;split
  . exact zero_le _
  . have:k.natAbs.log2<m:=by
      rcases Nat.eq_zero_or_pos k.natAbs with h0|hp
      . exfalso;rename_i hz;apply hz;have:k=0:=by omega
        rw[this];rfl
      . exact(Nat.log2_lt (Nat.ne_of_gt hp)).mpr h
    omega
noncomputable def BIG:Nat:=2 ^ 4000
theorem lt_big {x:Nat}{m:Nat}(h:x<2 ^ m)(hm:m<=4000):x<BIG:=lt_of_lt_of_le h (Nat.pow_le_pow_right (by decide) hm)
noncomputable def CMulL (i j:Int):Prop:=i.natAbs<BIG/\j.natAbs<BIG
theorem Z1:OpR X (binaryOp .Mult) (rI CMulL λ i j => .int (i * j)):=opI λ _ _ _ _ _ _ _ hc q=>
 mul_int q (PySem.IntMulOk.of_le (Zbg hc.1) (Zbg hc.2) (by decide))
noncomputable def CDivL (_ j:Int):Prop:=0<j/\j.natAbs<BIG
theorem Xq:OpR X (binaryOp .FloorDiv) (rI CDivL λ i j => .int (i / j)):=opI λ i j _ _ _ _ _ hc q=>by
  have h1:(0:Int)<j:=hc.1;refine floordiv_int (by omega) ?_ (.inl (PyProof.noPylong_of_log2 ?_))
  . rw[Int.fdiv_eq_ediv_of_nonneg i (Int.le_of_lt h1)];exact q
  . have:j.natAbs.log2<4000:=(Nat.log2_lt (by omega)).mpr hc.2;omega
theorem Yq:YD X (.builtin "isinstance") (λ xs H Q=>∃ x n t b,xs=[x,V.ty n]/\TyOf X.K H x t/\PySem.W.kitOne X.K t (.type n)=some b/\Q (.bl b) H):=by
  intro pins s σ H xs us Q I r h;obtain⟨x,n,t,b,rfl,ty,e,q⟩:=h;cases r with
  |cons r1 r2=>
    cases r2 with
    |cons r3 r4=>
      cases r4;cases (show _=Value.type n from r3);exact ZbF I r1 ty e λ tk=>⟨.bl b,H,I.tok _,rfl,q⟩
end
theorem kit_ii {K:Frag}:PySem.W.kitOne K (.type "int") (.type "int")=some true:=by rfl
theorem kit_ib {K:Frag}:PySem.W.kitOne K (.type "int") (.type "bool")=some false:=by rfl
theorem Zco {K:Frag}:PySem.W.kitOne K (.type "tuple") (.type "tuple")=some true:=by rfl
theorem Zg {H:Hp}{p:Addr}(h:H p=none)(o:HO):Zx H (upd H p o):=λ b u q=>by rw[Zh (Zj q h)];exact q
theorem Zx.tupq {K:Frag}{H H':Hp}{a:Addr}{xs:List V}(e:Zx H H')(h:SqT K H a xs):SqT K H' a xs:=by
  rcases h with (h|⟨o,h⟩)|h
  . exact .inl (.inl (e _ _ h))
  . exact .inl (.inr ⟨o,e _ _ h⟩)
  . exact .inr h
theorem Z2 {x y:Int}{m n:Nat}(hx:0<=x)(hx':x<2 ^ m)(hy:0<=y)(hy':y<2 ^ n):0<=x * y/\x * y<2 ^ (m+n):=by
  refine⟨Int.mul_nonneg hx hy,?_⟩;have p:(0:Int)<2 ^ n:=by omega
  rcases(by omega:x=0\/0<x) with e|e
  . rw[e,Int.zero_mul];have:(0:Int)<2 ^ (m+n):=Int.pow_pos (by decide);exact this
  . have h1:x * y<x * 2 ^ n:=Int.mul_lt_mul_of_pos_left hy' e;have h2:x * 2 ^ n<=2 ^ m * 2 ^ n:=Int.mul_le_mul_of_nonneg_right (Int.le_of_lt hx') (Int.le_of_lt p);rw[Int.pow_add];omega
theorem Yh {x:Int}{m:Nat}(hx:0<=x)(h:x<2 ^ m)(hm:m<=4000):x.natAbs<BIG:=by
  refine lt_big (m:=m) ?_ hm;have:((x.natAbs:Nat):Int)<((2 ^ m:Nat):Int):=by
    rw[Int.natCast_pow];have:((x.natAbs:Nat):Int)=x:=by omega
    rw[this];exact h
  omega
open PySem PySem.Spec PyProof.Rows
noncomputable abbrev Cx.comp (X:Cx)(scope:Scope)(cl:List (Str×Addr))(C:Addr)(N':List Str)(s₀:Shared)(H₀:Hp)(fp:List Addr)(pins:List (Addr×Obj)):Cx:=
  { X with N:=N',s₀:=s₀,H₀:=H₀,env:=compEnvC scope cl C X.env,outer:=X.stack,stack:=X.stack,ex:=fp,fn:=λ _=>false,pn:=X.pn++pins,xe:=λ _ _=>False }
noncomputable abbrev PIfsb (X:Cx)(ifs:List Expr)(t:TT):Prop:=
  ∀(pins:List (Addr×Obj))(s:Shared)(σ:St)(H:Hp)(Q:Bool->Hp->Prop),Inv X pins σ H s->t σ H Q ->
    wpAny (model X.prog X.w) X.A (forIn ifs true λ c r=>if r=true then do let ok <- isTrue c X.env (eval c X.env);pure (ForInStep.yield ok) else pure (ForInStep.yield r)) (TP X pins σ Q) X.xe s
structure PIfs (X:Cx)(ifs:List Expr)(t:TT):Prop where
  go:PIfsb X ifs t
instance {X:Cx}{ifs:List Expr}{t:TT}:CoeFun (PIfs X ifs t) λ _=>PIfsb X ifs t:=⟨PIfs.go⟩
noncomputable def tAll:TT:=λ _ H Q=>Q true H
theorem Zam {X:Cx}:PIfs X [] tAll:=⟨λ _ _ _ H _ I h=>wpAny_tests_nil ⟨H,I,h⟩⟩
theorem Zb1 {X:Cx}{c:Expr}{t:TT}(h:PT X c t):PIfs X [c] t:=⟨λ pins s σ H Q I q=>wpAny_tests_one (h pins s σ H Q I q)⟩
noncomputable def ZY (caps:List (Str×Nat))(σ:St):St:=caps.map λ p=>(σ[p.2]?).join
noncomputable def tLC (caps:List (Str×Nat))(wi:TI)(tt:TT)(te:TE):TE:=λ σ H Q=>wi σ H λ J H1=>∀ D,H1 D=none ->
  ∃ W:Nat->Nat->Hp->Prop,(∃ m,W 0 m (upd H1 D (.lst [])))/\∀ i m H2,W i m H2 ->
    (J.stop i H2/\Q (.ref D) H2)\/(J.go i H2/\∀ x H',J.yld i H2 x H'->tt (some x::ZY caps σ) H' λ b H3=>
      if b=true then te (some x::ZY caps σ) H3 λ v H4=>∃ ys m',H4 D=some (.lst ys)/\ys.length<sizeLine/\m'<m/\W (i+1) m' (upd H4 D (.lst (ys++[v])))
      else ∃ m',m'<m/\W (i+1) m' H3)
section
variable {X:Cx}
theorem Zbe {scope:Scope}{cl:List (Str×Addr)}{N':List Str}{fp:List Addr}{pins:List (Addr×Obj)}{σ:St}{H:Hp}{s:Shared}(I:Inv X pins σ H s)(hf:∀ b∈fp,Y8 X pins H b)(hin:∀ b∈fp,b<s.heap.objs.size)(hkind:scope.kind = .function)(hcl:∀ x c,cl.lookup x=some c->X.env.cells.lookup x=some c)(hhas:∀ x,((relabel scope X.env).names.lookup x=some .cell\/(relabel scope X.env).names.lookup x=some .free)->∃ c,cl.lookup x=some c) :
    (X.comp scope cl s.heap.objs.size N' s H fp pins).Ok where
  mod:=I.ok.mod
  kind:=by show(relabel scope X.env).kind=_;exact hkind
  glob:=I.ok.glob
  blt:=I.ok.blt
  above:=le_refl _
  inj:=λ x y c h1 h2=>I.ok.inj x y c (hcl x c h1) (hcl y c h2)
  has:=hhas
  cab:=λ x c h _=>by cases h
  hd:=I.ok.hd
  frames:=I.ok.frames
  stk:=.inl rfl
  exf:=λ b hb=>⟨ne_of_lt (hin b hb),λ x c e=>(hf b hb).2.2.2.2.1 x c (hcl x c e)⟩
  bs:=I.bs
  bsz:=le_trans I.ok.bsz I.sz
  noex:=λ b o e hb=>by
    rcases(hf b hb).2.2.2.1 with z|z
    . exact I.ok.noex b o e z
    . exact absurd (lt_of_lt_of_le (Heap.lt_size (I.ok.bs b o e).1) z) (lt_irrefl _)
  exfs:=λ b hb z=>by
    rcases List.mem_cons.mp (I.stkSub b z) with e|e
    . exact(hf b hb).2.1 e
    . exact(hf b hb).2.2.1 e
  funs:=I.stack
  frf:=I.stkFree
theorem ZcB {scope:Scope}{cl:List (Str×Addr)}{x:Str}{caps:List (Str×Nat)}{fp:List Addr}{pins:List (Addr×Obj)}{σ:St}{H:Hp}{s:Shared}{h1:Heap}{t':Nat}{m:Str->Option Value}(I:Inv X pins σ H s)(hf:∀ b∈fp,Y8 X pins H b)(hin:∀ b∈fp,b<s.heap.objs.size)(hkind:scope.kind = .function)(hcl:∀ x c,cl.lookup x=some c->X.env.cells.lookup x=some c)(hhas:∀ x,((relabel scope X.env).names.lookup x=some .cell\/(relabel scope X.env).names.lookup x=some .free)->∃ c,cl.lookup x=some c)(hcap:∀ p∈caps,X.N[p.2]? = some p.1/\X.env.scope.names.lookup p.1=some .cell/\((relabel scope X.env).names.lookup p.1=some .cell\/(relabel scope X.env).names.lookup p.1=some .free))(hn:h1.Ns s.heap.objs.size m)(hk:∀ b o,s.heap.get? b=some o->h1.get? b=some o) :
    Inv (X.comp scope cl s.heap.objs.size (x::caps.map (·.1)) s H fp pins) [] (none::ZY caps σ) H { s with heap:=h1,toks:=t' }:=by
  refine⟨Zbe I hf hin hkind hcl hhas,rfl,I.bare,Un.kept hk,⟨m,hn,λ i y v e1 e2 e3=>?_⟩,λ y c e=>?_,I.hok.fresh (le_refl _),λ y c e=>I.freeC y c (hcl y c e),λ p hp=>?_,I.hok.kept hk,?_⟩
  . cases i with
    |zero=>cases e2
    |succ i=>
      have e1':(caps.map (·.1))[i]? = some y:=e1;have e2':(caps.map λ p=>(σ[p.2]?).join)[i]? = some (some v):=e2;rw[getElem?_map]at e1' e2';cases q:caps[i]? with
      |none=>rw[q]at e1';cases e1'
      |some p=>
        rw[q]at e1' e2';have hy:p.1=y:=Option.some.inj e1';have hv:(σ[p.2]?).join=some v:=Option.some.inj e2';obtain⟨c1,c2,c3⟩:=hcap p (mem_of_getElem? q);have hv':σ[p.2]? = some (some v):=by
          cases z:σ[p.2]? with
          |none=>rw[z]at hv;cases hv
          |some w=>rw[z]at hv;rw[<- hv];rfl
        obtain⟨m0,_,hl0⟩:=I.loc;obtain⟨u,ru,lk⟩:=hl0 p.2 p.1 v c1 hv' (.inr (.inl c2));subst hy;refine⟨u,ru, .inr ⟨c3,?_⟩⟩;obtain⟨c,hc⟩:=hhas p.1 c3;rcases lk with ⟨k,_⟩|⟨_,c',hc',z⟩
        . have k':X.env.scope.names.lookup p.1=some .local:=k;rw[c2]at k';cases k'
        . have:c=c':=Option.some.inj ((hcl p.1 c hc).symm.trans hc');subst this;obtain⟨o,ho,hd⟩:=z;exact⟨c,hc,o,hk _ _ ho,hd⟩
  . obtain⟨v,o,ho,hd⟩:=I.cell y c (hcl y c e);exact⟨v,o,hk _ _ ho,hd⟩
  . have hp':p∈X.pn++pins:=by simpa using hp
    obtain⟨a1,a2,a3,a4,a5⟩:=I.pin p hp';refine⟨hk _ _ a1,a2,ne_of_lt (Heap.lt_size a1),λ z=>?_,a5⟩;rcases List.mem_cons.mp (I.stkSub p.1 z) with e|e
    . exact a3 e
    . exact a4 e
  . show(none::ZY caps σ).length=(x::caps.map (·.1)).length;simp[ZY]
theorem Zc9 {elt iter:Expr}{x:Str}{px:Pos}{ifs:List Expr}{scope:Scope}{cl:List (Str×Addr)}{pos:Pos}{caps:List (Str×Nat)}{wi:TI}{tt:TT}{te:TE}(hc:X.calm=true)(hi:PI X (.Name x px) iter wi)(ht:∀ C s₀ H₀ fp pins,PIfs (X.comp scope cl C (x::caps.map (·.1)) s₀ H₀ fp pins) ifs tt)(he:∀ C s₀ H₀ fp pins,PE (X.comp scope cl C (x::caps.map (·.1)) s₀ H₀ fp pins) elt te)(hclos:closureFor scope X.env=pure cl)(hcell:∀ y∈scope.names,y.2 ≠ .cell)(hkind:scope.kind = .function)(hnames:∀ y∈scope.names,y.2 = .local->scope.names.lookup y.1=some .local)(hx:scope.names.lookup x=some .local)(hcl:∀ x c,cl.lookup x=some c->X.env.cells.lookup x=some c)(hhas:∀ x,((relabel scope X.env).names.lookup x=some .cell\/(relabel scope X.env).names.lookup x=some .free)->∃ c,cl.lookup x=some c)(hcap:∀ p∈caps,X.N[p.2]? = some p.1/\X.env.scope.names.lookup p.1=some .cell/\((relabel scope X.env).names.lookup p.1=some .cell\/(relabel scope X.env).names.lookup p.1=some .free))(hnd:(x::caps.map (·.1)).Nodup)(hs:∀ x,foldedSetIterable iter X.env x=pure x){pins:List (Addr×Obj)}{s:Shared}{σ:St}{H:Hp}{Q:VK}{use:Option (Value->Sem Unit)}{QQ:Value->Shared->Prop}{pos2:Pos}(I:Inv X pins σ H s)(h:tLC caps wi tt te σ H Q)(fin:∀ D C H5 s6 r,Y8 X pins H5 C->(∃ m,s6.heap.Ns C m)->Inv X pins σ H5 s6->Q (.ref D) H5->compPost (model X.prog X.w) X.A X.xe use QQ (.ref D) C (.ok r) s6) :
    wpAny (model X.prog X.w) X.A (comprehension (.ListComp elt [⟨.Name x px,iter,ifs,0⟩] scope pos) scope X.env pos2 (newList []) false (eval iter X.env) use) QQ X.xe s:=by
  refine wpAny_comprehension_free (use:=use) rfl hs hclos hkind hnames (thn (hi pins s σ H _ I h) λ v s1 h1=>thn h1 λ itv s2 h2=>?_);obtain⟨it,fp,tn,J,H2,e,I2,T,st2,f2,q2⟩:=h2;subst e;refine wpAny_newObj_type ?_ (by show 0<=sizeLine;exact zero_le _);have fD:H2 s2.heap.objs.size=none:=I2.fresh;obtain⟨W,⟨m0,w0⟩,turn⟩:=q2 s2.heap.objs.size fD;have I3:=I2.lnew (its:=[]) (ys:=[]) (t':=s2.toks) .nil (zero_le _);have lt2:∀ b∈fp,b<s2.heap.objs.size:=λ b hb=>by
    obtain⟨o,ho,_⟩:=T.obj 0 _ st2 b hb;exact Heap.lt_size ho
  have neD:∀ b∈fp,b≠s2.heap.objs.size:=λ b hb=>ne_of_lt (lt2 b hb);have st3:tn 0 (s2.heap.push { cls:=.type "list",data:=.seq ([]:List Value).toArray }):=T.keep 0 _ _ st2 λ b _ o e=>Heap.get?_push_of_some _ e;have f3:∀ b∈fp,Y8 X pins (upd H2 s2.heap.objs.size (.lst [])) b:=λ b hb=>⟨by rw[Zh (neD b hb)];exact(f2 b hb).1,(f2 b hb).2⟩;generalize hs3:({ s2 with heap:=s2.heap.push { cls:=.type "list",data:=.seq ([]:List Value).toArray },toks:=s2.toks }:Shared)=s3 at I3;generalize hD:s2.heap.objs.size=D at *;have hs3h:s3.heap=s2.heap.push { cls:=.type "list",data:=.seq ([]:List Value).toArray }:=by rw[<- hs3]
  have goal3:wpAny (model X.prog X.w) X.A (newFunctionEnv scope X.env.globals cl [] X.env.qual none .none (some X.env)) (λ cenv s₄=>
      codeAny (model X.prog X.w) X.A (.compStart (.ListComp elt [⟨.Name x px,iter,ifs,0⟩] scope pos) 0 (.ref it) (.ref D) { cenv with scope:=relabel scope X.env })
        (compPost (model X.prog X.w) X.A X.xe use QQ (.ref D) cenv.locals) s₄) X.xe s3:=by
    have lt3:∀ b∈fp,b<s3.heap.objs.size:=λ b hb=>by
      rw[hs3h,Heap.size_push,hD];exact lt_succ_of_lt (lt2 b hb)
    refine wpAny_newFunctionEnv hcell (by intro y hy;simp at hy) (λ h₁ hns₁ hsb₁=>?_) hkind;have old:∀ b o,s3.heap.get? b=some o->h₁.get? b=some o:=λ b o e=>hsb₁.extBut b o (ne_of_lt (Heap.lt_size e)) (Heap.get?_push_of_some _ e);have I4:Inv (X.comp scope cl s3.heap.objs.size (x::caps.map (·.1)) s3 (upd H2 D (.lst [])) fp pins) [] (none::ZY caps σ) (upd H2 D (.lst [])) { s3 with heap:=h₁,toks:=s3.toks+0 }:=
      ZcB I3 f3 lt3 hkind hcl hhas hcap hns₁ old
    have st4:tn 0 h₁:=T.keep 0 _ _ (by rw[<- hs3h]at st3;exact st3) λ b hb o e=>old b o e;have stat:∀ {H':Hp},(∀ b∈fp,H' b=none)->∀ b∈fp,Y8 (X.comp scope cl s3.heap.objs.size (x::caps.map (·.1)) s3 (upd H2 D (.lst [])) fp pins) [] H' b:=λ hn b hb=>
      ⟨hn b hb,ne_of_lt (lt3 b hb),I4.ok.exfs b hb, .inl hb,λ y c e=>(f3 b hb).2.2.2.2.1 y c (hcl y c e),λ p hp=>(f3 b hb).2.2.2.2.2 p (by simpa using hp)⟩
    have loop:codeAny (model X.prog X.w) X.A (.compLoop (.ListComp elt [⟨.Name x px,iter,ifs,0⟩] scope pos) 0 (.ref it) (.ref D) (compEnvC scope cl s3.heap.objs.size X.env))
        (compPost (model X.prog X.w) X.A X.xe use QQ (.ref D) s3.heap.objs.size) { s3 with heap:=h₁,toks:=s3.toks+0 }:=by
      refine codeAny_compLoop_tests (λ n s'=>∃ i v H',Inv (X.comp scope cl s3.heap.objs.size (x::caps.map (·.1)) s3 (upd H2 D (.lst [])) fp pins) [] (v::ZY caps σ) H' s'/\tn i s'.heap/\(∀ b∈fp,H' b=none)/\W i n H') ?_ m0 ⟨0,none,_,I4,st4,λ b hb=>(f3 b hb).1,w0⟩;rintro n s5 ⟨i,v5,H5,I5,st5,fr5,w5⟩;rcases turn i n H5 w5 with ⟨stop,qn⟩|⟨go,step⟩
      . refine wpAny_noRaise (thn (T.done (X.comp scope cl s3.heap.objs.size (x::caps.map (·.1)) s3 (upd H2 D (.lst [])) fp pins) rfl rfl rfl hc i [] s5 _ H5 (λ _ _=>False) I5 (stat fr5) st5 stop) λ r s6 zz9=>?_);obtain⟨hr,I6⟩:=zz9;subst hr;obtain⟨m6,hn6,_⟩:=I6.loc;have fC:H5 s3.heap.objs.size=none:=I6.free;have u6:Un (frs X.stack) fp (upd H2 D (.lst [])) H5 s3.heap s6.heap:=I6.base;exact fin _ _ _ _ _ (I3.fpOk (le_refl _) fC) ⟨m6,hn6⟩ (I3.call' (ch:=fp) I6.os u6 I6.hok I6.bare λ b hb=>⟨(f3 b hb).2.2.2.1,(f3 b hb).2.1,(f3 b hb).2.2.2.2.1,(f3 b hb).2.2.2.2.2⟩) qn
      . refine wpAny_noRaise (thn (T.item (X.comp scope cl s3.heap.objs.size (x::caps.map (·.1)) s3 (upd H2 D (.lst [])) fp pins) rfl rfl rfl hc i [] s5 _ H5 (λ _ _=>False) I5 (stat fr5) st5 go) λ r s6 zz9=>?_);obtain⟨u,hr,h6⟩:=zz9;subst hr;show wpAny _ _ (letOwnedTupleGo (.Name x px) (.ref it) u >>= λ _=>assign (.Name x px) (compEnvC scope cl s3.heap.objs.size X.env) u) _ _ _;refine wpAny_bind (wpAny_noRaise (thn h6 λ _ s6 zz9=>?_));obtain⟨y,H6,I6,r6,y6,st6,fr6⟩:=zz9;have I6':=I6.pinned (stat fr6) (T.obj _ _ st6);refine wpAny_assign_Name (wpAny_noRaise (YH (i:=0) I6' hnd rfl (.inl (lookup_relabel_local hx)) r6 (λ s7 I7=>?_) (.inr (lookup_relabel_local hx))));have again:∀ {v8:Option V} {H8:Hp} {s8:Shared} {m':Nat},Inv (X.comp scope cl s3.heap.objs.size (x::caps.map (·.1)) s3 (upd H2 D (.lst [])) fp pins) ([]++XD fp s6.heap) (v8::ZY caps σ) H8 s8->W (i+1) m' H8 ->
            ∃ i v H',Inv (X.comp scope cl s3.heap.objs.size (x::caps.map (·.1)) s3 (upd H2 D (.lst [])) fp pins) [] (v::ZY caps σ) H' s8/\tn i s8.heap/\(∀ b∈fp,H' b=none)/\W i m' H':=λ {v8 H8 s8 m'} I8 w8=>by
          refine⟨i+1,v8,H8,I8.unpinned,T.keep _ _ _ st6 λ b hb o e=>(I8.pin (b,o) (mem_append_right _ (mem_append_right _ (ZZ hb e)))).1,λ b hb=>?_,w8⟩;obtain⟨o,e,d⟩:=T.obj _ _ st6 b hb;exact(I8.pin (b,o) (mem_append_right _ (mem_append_right _ (ZZ hb e)))).2.1
        refine wpAny_noRaise (thn (ht _ _ _ _ _ _ s7 _ H6 _ I7 (step y H6 y6)) λ ok s8 zz9=>?_);obtain⟨H8,I8,q8⟩:=zz9;cases ok with
        |false=>
          rw[if_neg Bool.false_ne_true]at q8 ⊢;obtain⟨m',hm',w8⟩:=q8;exact⟨m',hm',again I8 w8⟩
        |true=>
          rw[if_pos rfl]at q8 ⊢;refine wpAny_noRaise (thn (he _ _ _ _ _ _ s8 _ H8 _ I8 q8) λ z s9 zz9=>?_);obtain⟨v9,H9,I9,r9,ys,m',hD9,hz9,hm9,w9⟩:=zz9;refine wpAny_noRaise (thn (Y5 _ s9 _ H9 (.ref D) [v9] (.ref D) [z] (λ v H'=>v = .non/\H'=upd H9 D (.lst (ys++[v9]))) I9 rfl (.cons r9 .nil) ⟨D,ys,v9,rfl,rfl,hD9,hz9,rfl,rfl⟩) λ _ s10 zz9=>?_);obtain⟨v10,H10,I10,_,_,eH⟩:=zz9;subst eH;exact⟨m',hm9,again I10 w9⟩
    exact codeAny_compStart_list loop (T.self _ 0 _ _ _ st4 loop)
  subst hs3;subst hD;exact goal3
theorem Zb4 {elt iter:Expr}{x:Str}{px:Pos}{ifs:List Expr}{scope:Scope}{cl:List (Str×Addr)}{pos:Pos}{caps:List (Str×Nat)}{wi:TI}{tt:TT}{te:TE}(hc:X.calm=true)(hi:PI X (.Name x px) iter wi)(ht:∀ C s₀ H₀ fp pins,PIfs (X.comp scope cl C (x::caps.map (·.1)) s₀ H₀ fp pins) ifs tt)(he:∀ C s₀ H₀ fp pins,PE (X.comp scope cl C (x::caps.map (·.1)) s₀ H₀ fp pins) elt te)(hclos:closureFor scope X.env=pure cl)(hcell:∀ y∈scope.names,y.2 ≠ .cell)(hkind:scope.kind = .function)(hnames:∀ y∈scope.names,y.2 = .local->scope.names.lookup y.1=some .local)(hx:scope.names.lookup x=some .local)(hcl:∀ x c,cl.lookup x=some c->X.env.cells.lookup x=some c)(hhas:∀ x,((relabel scope X.env).names.lookup x=some .cell\/(relabel scope X.env).names.lookup x=some .free)->∃ c,cl.lookup x=some c)(hcap:∀ p∈caps,X.N[p.2]? = some p.1/\X.env.scope.names.lookup p.1=some .cell/\((relabel scope X.env).names.lookup p.1=some .cell\/(relabel scope X.env).names.lookup p.1=some .free))(hnd:(x::caps.map (·.1)).Nodup)(hs:∀ x,foldedSetIterable iter X.env x=pure x:=by intro _;rfl) :
    PE X (.ListComp elt [⟨.Name x px,iter,ifs,0⟩] scope pos) (tLC caps wi tt te):=by
  refine⟨?_⟩;intro pins s σ H Q I h;rw[eval_ListComp];refine Zc9 hc hi ht he hclos hcell hkind hnames hx hcl hhas hcap hnd hs I h ?_;intro D C H5 s6 r fC ⟨m6,hn6⟩ I6 q;exact⟨m6,hn6,λ h' hs'=>⟨.ref D,H5,I6.turned (λ b o n e=>(hs'.2 b n).trans e) fC.1 fC.2.1 fC.2.2.2.1 fC.2.2.2.2.1 fC.2.2.2.2.2,rfl,q⟩⟩
end
open PySem PySem.Spec PyProof.Rows
noncomputable def Fly (base:Heap)(l:List Env)(a T:Addr)(C:Value)(h:Heap):Prop:=
 base.StaysIn h/\base.get? a=none/\h.FunFrames base l/\∃ a0 oe vs oT ts,h.get? a=some oe/\(oe.cls=C/\vs[0]? = some a0)/\oe.data = .fields vs/\vs[1]? = some (.ref T)/\base.get? T=none/\T≠a/\h.get? T=some oT/\oT.data = .fields ts/\ts[3]? = some .none
section
variable {X:Cx}{pins:List (Addr×Obj)}{σ:St}{H:Hp}{s:Shared}
end
section
variable {P:Program}{w:World}{K:Frag}{mg:Str->Option Value}{base:Heap}{N:List Str}{qual:Str}{scope:Scope}{f:Addr}{cd:Value}{A:Around}{outer:List Env}{s0:Shared}{H0:Hp}{E:XK}
end
open PySem PySem.Spec PyProof.Rows
noncomputable def XP (X:Cx)(pins:List (Addr×Obj))(σ:St)(R:Value->Hp->Prop)(e:Value)(s':Shared):Prop:=∃(a T:Addr)(C:Value)(H':Hp),e = .ref a/\Inv X pins σ H' s'/\Fly X.base X.stack a T C s'.heap/\H' a=none/\H' T=none /\
 X.s₀.heap.get? a=none/\X.s₀.heap.get? T=none/\(∀ p∈X.pn++pins,p.1≠a/\p.1≠T)/\a≠X.env.locals/\R C H'
section
variable {X:Cx}{k:Nat}{ps:List Str}{sp:Sp}{x:Str}{p pos:Pos}{e:Expr}{es:List Expr}{t:TA}
end
section
variable {X:Cx}{pins:List (Addr×Obj)}{σ:St}{H:Hp}{s:Shared}
end
open PySem PySem.Spec PyProof.Rows PySem.W
section
variable {prog:Program}{w:World}{A:Around}{E:Value->Shared->Prop}{h:Heap}{g:Array GenState}{d:Drawn}{t:Nat}{os:OsState}{a C:Addr}{oe:Obj}{K:Frag}{vs:Array Value}
end
open PySem PySem.Spec PyProof.Rows PySem.W
section
variable {X:Cx}{pins:List (Addr×Obj)}{σ:St}{H:Hp}{s:Shared}
end
open PySem PySem.Spec PyProof.Rows
mutual
inductive Rds (K:Frag)(H:Hp):V->PyData->Prop
  | non:Rds K H .non .none
  | bl (b:Bool):Rds K H (.bl b) (.bool b)
  | int (i:Int):Rds K H (.int i) (.int i)
  | str (x:Str):Rds K H (.str x) (.str x)
  | list {a:Addr} {xs:List V} {ds:List PyData}:SqL K H a xs->RdsAll K H xs ds->Rds K H (.ref a) (.list ds)
  | tuple {a:Addr} {xs:List V} {ds:List PyData}:SqT K H a xs->RdsAll K H xs ds->Rds K H (.ref a) (.tuple ds)
inductive RdsAll (K:Frag)(H:Hp):List V->List PyData->Prop
  | nil:RdsAll K H [] []
  | cons {x:V} {xs:List V} {d:PyData} {ds:List PyData}:Rds K H x d->RdsAll K H xs ds->RdsAll K H (x::xs) (d::ds)
end
section
variable {X:Cx}{pins:List (Addr×Obj)}{σ:St}{H:Hp}{s:Shared}
mutual
theorem Rds.reads (I:Inv X pins σ H s):∀ {x:V} {d:PyData} {u:Value},Rds X.K H x d->Zq x u->∃ as,Reads s.heap u d as
  | _,_,_, .non,r=>by
    cases r;exact⟨[], .none⟩
  | _,_,_, .bl b,r=>by
    cases r;exact⟨[], .bool b⟩
  | _,_,_, .int i,r=>by
    obtain⟨t,rfl⟩:=r;exact⟨[], .int i t⟩
  | _,_,_, .str i,r=>by
    obtain⟨t,rfl⟩:=r;exact⟨[], .str i t⟩
  | _,_,_, .list (a:=a) h q,r=>by
    cases r;obtain⟨its,r',pl,_⟩:=I.list h;obtain⟨o,ho,hc,n,hd⟩:=pl.isList;obtain⟨as,z⟩:=RdsAll.reads I q r';exact⟨a::as, .list ho hc hd z⟩
  | _,_,_, .tuple (a:=a) h q,r=>by
    cases r;obtain⟨its,r',pl,_⟩:=I.tuple h;obtain⟨o,ho,hc,n,hd⟩:=pl;obtain⟨as,z⟩:=RdsAll.reads I q r';exact⟨as, .tuple ho hc hd z⟩
theorem RdsAll.reads (I:Inv X pins σ H s):∀ {xs:List V} {ds:List PyData} {us:List Value},RdsAll X.K H xs ds->ZJ xs us->∃ as,ReadsAll s.heap us ds as
  |_,_,_, .nil, .nil=>⟨[], .nil⟩
  | _,_,_, .cons h t, .cons r rs=>by
    obtain⟨as,z⟩:=Rds.reads I h r;obtain⟨bs,y⟩:=RdsAll.reads I t rs;exact⟨as++bs, .cons z y⟩
end
noncomputable def rEqD (K:Frag)(ng:Bool):R2:=λ x y H Q=>∃ da db,Rds K H x da/\Rds K H y db/\SeqAt.shaped da=true/\SeqAt.shaped db=true/\Q (.bl (if ng then !PyData.eqv da db else PyData.eqv da db)) H
theorem Zb8 {X:Cx}(hu:X.A.units+64<cLine):OpR X (compareOp .Eq) (rEqD X.K false):=by
 intro pins s σ H x y v u Q I rx ry h;obtain⟨da,db,ha,hb,sa,sb,q⟩:=h;obtain⟨as,z⟩:=ha.reads I rx;obtain⟨bs,z'⟩:=hb.reads I ry;exact SeqAt.compareEq_shaped z z' sa sb hu ⟨.bl _,H,I,rfl,q⟩
theorem Jj {X:Cx}(hu:X.A.units+64<cLine):OpR X (compareOp .NotEq) (rEqD X.K true):=by
 intro pins s σ H x y v u Q I rx ry h;obtain⟨da,db,ha,hb,sa,sb,q⟩:=h;obtain⟨as,z⟩:=ha.reads I rx;obtain⟨bs,z'⟩:=hb.reads I ry;exact SeqAt.compareNe_shaped z z' sa sb hu ⟨.bl _,H,I,rfl,q⟩
theorem ZaG {ss:List Str}{us:List Value}(h1:us.length=ss.length)(h2:∀(j:Nat)(u:Value),us[j]? = some u->∃ x t,ss[j]? = some x/\u = .str x t):StrsAre us ss:=by
  induction us generalizing ss with
  |nil=>
    cases ss with
    |nil=>exact .nil
    |cons _ _=>simp at h1
  |cons u us ih=>
    cases ss with
    |nil=>simp at h1
    |cons x ss=>
      obtain⟨y,t,e,rfl⟩:=h2 0 u rfl;cases e;exact .cons _ _ (ih (by simpa using h1) λ j u e=>h2 (j+1) u (by simpa using e))
theorem Zbi {us:List Value}{ss:List Str}(h:StrsAre us ss):ZJ (ss.map V.str) us:=by
  induction h with
  |nil=>exact .nil
  |cons y t _ ih=>exact .cons ⟨t,rfl⟩ ih
theorem Zcn:∀ {kvs:List (Key×V)} {vs:List (Key×Value)} {i:Nat} {k:Key} {x:Value},KV kvs vs->vs[i]? = some (k,x)->∃ y,kvs[i]? = some (k,y)
  |_,_,_,_,_, .nil,e=>by simp at e
  | _,_,0,_,_, .cons (a:=p) r _,e=>by
    obtain⟨e1,_⟩:=r;simp only[List.getElem?_cons_zero,Option.some.injEq]at e ⊢;subst e;exact⟨p.2,Prod.ext e1 rfl⟩
  | _,_,i+1,_,_, .cons _ t,e=>by
    simp only[List.getElem?_cons_succ]at e ⊢;exact Zcn t e
end
end L2
namespace L2
open PySem PySem.Spec PyProof.Rows
section
variable {X:Cx}{pins:List (Addr×Obj)}{σ:List (Option V)}{H H':Hp}{s:Shared}{h':Heap}
theorem Inv.turnedL {t':Nat}{ch:List Addr}(I:Inv X pins σ H s)(k:∀ b o,b∉ch->s.heap.get? b=some o->h'.get? b=some o)(f:∀ b∈ch,Y8 X pins H b):Inv X pins σ H { s with heap:=h',toks:=t' }:=by
  have nit:∀ b u,H b=some u->b∉ch:=λ b u e z=>by rw[(f b z).1]at e;cases e
  refine I.step (g':=s.gens) (d':=s.drawn) (ch:=ch) (λ b hb=>⟨(f b hb).2.2.2.1,(f b hb).2.1,(f b hb).2.2.2.2.1,(f b hb).2.2.2.2.2⟩) (λ b o _ _ hc e _=>k b o hc e) (λ b o _ _ hc e _=>⟨o.slots,k b o hc e⟩) (λ _ _ _ _ n=>n)
    (λ b o hc e=>⟨o,k b o hc e⟩) (λ _ _ e=>e) (λ _ _ _ e=>e) (λ b ps e=>⟨#[],by rw[e];simp⟩) (λ m hm=>?_) (λ b u e=>?_) I.bare
  . obtain⟨o,es,ep,ho,r⟩:=hm;exact⟨o,es,ep,k _ o (λ z=>(f _ z).2.1 rfl) ho,r⟩
  . refine(I.hok b u e).stay (λ c v hc q=>k c v ?_ q) (λ _ q=>q) λ _ _ q=>q;rcases hc with z|z
    . rw[z];exact nit b u e
    . exact nit c _ z
end
noncomputable def Ite (K:Frag)(a:Addr):It:=
 ⟨λ i H=>∃ xs x,SqL K H a xs/\xs[i]? = some x,λ i H v H'=>∃ T x,H T=none/\v = .ref T/\(∀ xs,SqL K H a xs->xs[i]? = some x)/\H'=upd H T (.tup [.int i,x]),λ i H=>∃ xs,SqL K H a xs/\xs.length<=i⟩
theorem Zbk {P:Program}{w:World}{K:Frag}{elts:List Expr}{k:Nat}{pos:Pos}(a e it:Addr)(hne:e≠it):Turn P w K (.Tuple elts k pos) (Ite K a) [e,it] e (λ i h=>(∃ old,IsEnum h e it i old)/\h.IsListIter it a i) where
  mem:=by simp
  obj:=λ i h st b hb=>by
    obtain⟨⟨old,s1⟩,o,e2,c,d⟩:=st;rcases List.mem_cons.mp hb with rfl|hb
    . exact⟨_,s1,λ v z=>by
        have z':Data.fields _=Data.cell v:=z;cases z'⟩
    . have q:b=it:=by simpa using hb
      subst q;exact⟨o,e2,λ v z=>by rw[d]at z;cases z⟩
  keep:=λ i h h' st k=>by
    obtain⟨⟨old,s1⟩,s2⟩:=st;exact⟨⟨old,k e (by simp) _ s1⟩,s2.at λ o q=>k it (by simp) o q⟩
  item:=by
    intro X hP hw hK hc i pins s σ H E I hf st hg;subst hP hw hK;obtain⟨xs,x,hq,hx⟩:=hg;obtain⟨its,rv,p,hz⟩:=I.list hq;obtain⟨u,hu,ru⟩:=rv.get hx;obtain⟨⟨old,s1⟩,s2⟩:=st;have e1:e<s.heap.objs.size:=Heap.lt_size s1;have e2:it<s.heap.objs.size:=by obtain⟨_,y,_⟩:=s2;exact Heap.lt_size y
    refine wpAny_pyNext_enum_item s1 s2 p.isList (x:=u) (by simpa using hu) hne λ h' ho hit hT hsz kk=>⟨_,rfl,?_⟩;refine wpAny_letOwnedTupleGo_enum ho λ h2 he hs=>?_;have fr:H s.heap.objs.size=none:=I.fresh;have I1:Inv X pins σ (upd H s.heap.objs.size (.tup [.int i,x])) { s with heap:=s.heap.push { cls:=.type "tuple",data:=.seq #[.int i s.toks,u] } }:=
      I.laid (t':=s.toks) (λ b o q=>Heap.get?_push_of_some _ q) (le_refl _) (show ZI X.prog X.w _ _ _ (.tup [.int i,x]) from⟨by show 2<=sizeLine;decide,[.int i s.toks,u], .cons ⟨_,rfl⟩ (.cons ru .nil),IsTup.new _ _⟩)
    have ff:∀ b∈[e,it],Y8 X pins (upd H s.heap.objs.size (.tup [.int i,x])) b:=λ b hb=>by
      refine⟨?_,(hf b hb).2⟩;rw[Zh]
      . exact(hf b hb).1
      . rcases List.mem_cons.mp hb with rfl|hb
        . exact ne_of_lt e1
        . rw[List.mem_singleton.mp hb];exact ne_of_lt e2
    have I2:Inv X pins σ (upd H s.heap.objs.size (.tup [.int i,x])) { s with heap:=h2,toks:=s.toks+1 }:=by
      have z:=Inv.turnedL (s:={ s with heap:=s.heap.push { cls:=.type "tuple",data:=.seq #[.int i s.toks,u] } }) (h':=h2) (t':=s.toks+1) (ch:=[e,it]) I1 (λ b o hb q=>?_) ff;exact z;have n1:b≠e:=λ z=>hb (by simp[z]);have n2:b≠it:=λ z=>hb (by simp[z]);refine(hs.2 b n1).trans ?_
      by_cases z:b=s.heap.objs.size
      . subst z;have q':(s.heap.push { cls:=.type "tuple",data:=.seq #[.int i s.toks,u] }).get? s.heap.objs.size=some o:=q;rw[Heap.get?_push_size _ rfl]at q';cases q';exact hT
      . have q':(s.heap.push { cls:=.type "tuple",data:=.seq #[.int i s.toks,u] }).get? b=some o:=q;rw[Heap.get?_push_ne _ _ _ z]at q';exact kk b o n1 n2 q'
    refine⟨.ref s.heap.objs.size,_,I2,rfl,⟨s.heap.objs.size,x,fr,rfl,λ ys hy=>by rw[I.list_inj hy hq];exact hx,rfl⟩,⟨⟨u,?_⟩,hit.at λ o q=>(hs.2 it (Ne.symm hne)).trans q⟩,λ b hb=>(ff b hb).1⟩;exact he
  done:=by
    intro X hP hw hK hc i pins s σ H E I hf st hg;subst hP hw hK;obtain⟨xs,hq,hx⟩:=hg;obtain⟨its,rv,p,hz⟩:=I.list hq;obtain⟨⟨old,s1⟩,s2⟩:=st;have hl:=rv.length;obtain⟨f0,f1,f2,f3,f4,f5⟩:=hf it (by simp);exact wpAny_pyNext_enum_end (I.ok.hd hc) s1 s2 p.isList (by simp;omega) λ h' eb=>⟨rfl,I.turned (t':=s.toks) (λ b o hb e=>eb b o hb e) f0 f1 f3 f4 f5⟩
  self:=λ _ _ _ _ _ st h=>by
    obtain⟨⟨old,s1⟩,_⟩:=st;exact wpAny_pyIter_enum s1 h
section
variable {X:Cx}
noncomputable def iEnum (K:Frag)(ta:TA):TI:=λ σ H R=>ta σ H λ vs H1=>∃ a,vs=[.ref a]/\(∃ xs,SqL K H1 a xs)/\R (Ite K a) H1
theorem ZcU {a:Expr}{ta:TA}{p pos:Pos}{elts:List Expr}{k:Nat}{tp:Pos}(hg:Gl X "enumerate")(hm:X.mg "enumerate"=none)(ha:PA X [a] ta)(hs:starEach [a] X.env=[(false,eval a X.env)]:=by rfl) :
    PI X (.Tuple elts k tp) (.Call (.Name "enumerate" p) [a] [] pos) (iEnum X.K ta):=by
  refine⟨?_⟩;intro pins s σ H R I h;refine Call_ (Jo I hg hm boot_enumerate (PyProof.Rows.callWith_type1 (thn (ha pos pins s σ H _ I h) λ us s1 zz9=>?_) hs rfl));obtain⟨vs,H1,I1,r1,q1⟩:=zz9;obtain⟨b,e,⟨xs,hq⟩,q⟩:=q1;subst e;obtain⟨u,rfl,rx⟩:=Zag r1;cases rx;obtain⟨its,rv,pl,hz⟩:=I1.list hq;refine call_enumerate_list pl.isList λ h' he hit hsz kk=>?_;refine wpAny_pyIter_enum he ?_;refine⟨s1.heap.objs.size+1,[s1.heap.objs.size+1,s1.heap.objs.size],_,_,H1,rfl,I1.kept (t':=s1.toks) kk,Zbk b _ _ (Nat.succ_ne_self _),⟨⟨_,he⟩,hit⟩,λ c hc=>?_,q⟩;rcases List.mem_cons.mp hc with rfl|hc
  . exact I1.fpOk (Nat.le_succ _) (I1.hok.fresh (Nat.le_succ _))
  . rw[List.mem_singleton.mp hc];exact I1.fpOk (le_refl _) (I1.hok.fresh (le_refl _))
end
end L2
namespace L2
open PySem PySem.Spec PyProof.Rows
theorem loopD {prog:Program}{w:World}{A:Around}{R:Result->Shared->Prop}{s:Shared}{kx vx tg iter:Expr}{scope:Scope}{pos:Pos}{it:Value}{D:Addr}{env:Env}(J:Nat->Shared->Prop)(turn:∀ n s,J n s->wpAny (model prog w) A (pyNext it) (λ r s1=>match r with
      |none=>R (.ok .next) s1
      |some v=>wpAny (model prog w) A (letOwnedTupleGo tg it v) (λ _ s2=>wpAny (model prog w) A (assign tg env v) (λ _ s3=>wpAny (model prog w) A (eval kx env) (λ kv s4=>wpAny (model prog w) A (eval vx env) (λ vv s5=>
          wpAny (model prog w) A (dictSet D kv vv) (λ _ s6=>∃ m,m<n/\J m s6) (λ _ _=>False) s5) (λ _ _=>False) s4) (λ _ _=>False) s3) (λ _ _=>False) s2) (λ _ _=>False) s1) (λ _ _=>False) s)(n:Nat)(h:J n s):codeAny (model prog w) A (.compLoop (.DictComp kx vx [⟨tg,iter,[],0⟩] scope pos) 0 it (.ref D) env) R s:=by
  refine codeAny_loop rfl J (λ n s hJ=>?_) n h;show wpAny _ A ((compTurn (.DictComp kx vx [⟨tg,iter,[],0⟩] scope pos) 0 it (.ref D) env).onRaise (λ x=>do noteFrame x env;theTreesLotGoes x)) _ _ s;refine wpAny_noted (wpAny_noRaise ?_);rw[compTurn_dict];refine wpAny_bind (wpAny_standAt (wpAny_bind (thn (turn n s hJ) λ r s1 h1=>?_)));cases r with
  |none=>exact wpAny_pure h1
  |some v=>
    refine wpAny_bind (thn h1 λ _ s2 h2=>wpAny_bind (thn h2 λ _ s3 h3=>wpAny_bind (wpAny_tests_nil ?_)));exact wpAny_bind (wpAny_bind (thn h3 λ kv s4 h4=>wpAny_bind (wpAny_holding (thn h4 λ vv s5 h5=>wpAny_bind (wpAny_standAt (wpAny_holding (thn h5 λ _ s6 h6=>wpAny_pure ⟨rfl,h6⟩)))))))
noncomputable def tDC (n:Nat)(caps:List (Str×Nat))(wi:TI)(g:TG)(tk tv:TE):TE:=λ σ H Q=>wi σ H λ J H1=>∀ D,H1 D=none ->
  ∃ W:Nat->Nat->Hp->Prop,(∃ m,W 0 m (upd H1 D (.dK [])))/\∀ i m H2,W i m H2 ->
    (J.stop i H2/\Q (.ref D) H2)\/(J.go i H2/\∀ x H',J.yld i H2 x H'->∀ vals:St,vals.length=n->g x (vals++ZY caps σ) H' λ σ2 H3=>∃ vals':St,vals'.length=n/\σ2=vals'++ZY caps σ /\
      tk σ2 H3 λ k H4=>tv σ2 H4 λ v H5=>∃(kvs:List (Key×V))(k':Key)(m':Nat),k=kV k'/\H5 D=some (.dK kvs)/\kvs.length<sizeLine/\m'<m/\W (i+1) m' (upd H5 D (.dK (Yj kvs k' v))))
section
variable {X:Cx}
theorem ZbL {scope:Scope}{cl:List (Str×Addr)}{xs:List Str}{caps:List (Str×Nat)}{fp:List Addr}{pins:List (Addr×Obj)}{σ:St}{H:Hp}{s:Shared}{h1:Heap}{t':Nat}{m:Str->Option Value}(I:Inv X pins σ H s)(hf:∀ b∈fp,Y8 X pins H b)(hin:∀ b∈fp,b<s.heap.objs.size)(hkind:scope.kind = .function)(hcl:∀ x c,cl.lookup x=some c->X.env.cells.lookup x=some c)(hhas:∀ x,((relabel scope X.env).names.lookup x=some .cell\/(relabel scope X.env).names.lookup x=some .free)->∃ c,cl.lookup x=some c)(hcap:∀ p∈caps,X.N[p.2]? = some p.1/\X.env.scope.names.lookup p.1=some .cell/\((relabel scope X.env).names.lookup p.1=some .cell\/(relabel scope X.env).names.lookup p.1=some .free))(hn:h1.Ns s.heap.objs.size m)(hk:∀ b o,s.heap.get? b=some o->h1.get? b=some o) :
    Inv (X.comp scope cl s.heap.objs.size (xs++caps.map (·.1)) s H fp pins) [] (List.replicate xs.length none++ZY caps σ) H { s with heap:=h1,toks:=t' }:=by
  refine⟨Zbe I hf hin hkind hcl hhas,rfl,I.bare,Un.kept hk,⟨m,hn,λ i y v e1 e2 e3=>?_⟩,λ y c e=>?_,I.hok.fresh (le_refl _),λ y c e=>I.freeC y c (hcl y c e),λ p hp=>?_,I.hok.kept hk,?_⟩
  . have e1':(xs++caps.map (·.1))[i]? = some y:=e1
    by_cases hi:i<xs.length
    . rw[List.getElem?_append_left (by simpa using hi),List.getElem?_replicate,if_pos hi]at e2;cases e2
    . rw[List.getElem?_append_right (by simpa using hi),List.length_replicate]at e2;rw[List.getElem?_append_right (by simpa using hi)]at e1';generalize i - xs.length=j at e1' e2;have e2':(caps.map λ p=>(σ[p.2]?).join)[j]? = some (some v):=e2;rw[getElem?_map]at e1' e2';cases q:caps[j]? with
      |none=>rw[q]at e1';cases e1'
      |some p=>
        rw[q]at e1' e2';have hy:p.1=y:=Option.some.inj e1';have hv:(σ[p.2]?).join=some v:=Option.some.inj e2';obtain⟨c1,c2,c3⟩:=hcap p (mem_of_getElem? q);have hv':σ[p.2]? = some (some v):=by
          cases z:σ[p.2]? with
          |none=>rw[z]at hv;cases hv
          |some w=>rw[z]at hv;rw[<- hv];rfl
        obtain⟨m0,_,hl0⟩:=I.loc;obtain⟨u,ru,lk⟩:=hl0 p.2 p.1 v c1 hv' (.inr (.inl c2));subst hy;refine⟨u,ru, .inr ⟨c3,?_⟩⟩;obtain⟨c,hc⟩:=hhas p.1 c3;rcases lk with ⟨k,_⟩|⟨_,c',hc',z⟩
        . have k':X.env.scope.names.lookup p.1=some .local:=k;rw[c2]at k';cases k'
        . have:c=c':=Option.some.inj ((hcl p.1 c hc).symm.trans hc');subst this;obtain⟨o,ho,hd⟩:=z;exact⟨c,hc,o,hk _ _ ho,hd⟩
  . obtain⟨v,o,ho,hd⟩:=I.cell y c (hcl y c e);exact⟨v,o,hk _ _ ho,hd⟩
  . have hp':p∈X.pn++pins:=by simpa using hp
    obtain⟨a1,a2,a3,a4,a5⟩:=I.pin p hp';refine⟨hk _ _ a1,a2,ne_of_lt (Heap.lt_size a1),λ z=>?_,a5⟩;rcases List.mem_cons.mp (I.stkSub p.1 z) with e|e
    . exact a3 e
    . exact a4 e
  . show(List.replicate xs.length none++ZY caps σ).length=(xs++caps.map (·.1)).length;simp[ZY]
theorem d_set {pins:List (Addr×Obj)}{σ:St}{H H':Hp}{s:Shared}{a:Addr}{y v:V}{u r:Value}{kvs:List (Key×V)}{A:Around}{E:Value->Shared->Prop}{Q:Unit->Shared->Prop}(I:Inv X pins σ H s)(hd:H a=some (.dK kvs))(g:XY H a y v H')(ry:Zq y u)(rv:Zq v r)(h:∀ s',Inv X pins σ H' s'->Q () s') :
    wpAny (model X.prog X.w) A (dictSet a u r) Q E s:=by
  rcases g with ⟨kvs',k,e,ey,l,eH⟩|⟨kvs',k,b,e,ey,eb,l,eH⟩
  . subst ey eH;obtain⟨z,hd,vs,rel,dd⟩:=Za9 I.hok e;have hz:vs.length<=sizeLine:=by rw[<- rel.length];exact z
    have hl:(Yj kvs' k v).length<=sizeLine:=by have:=YU kvs' k v;omega
    refine wpAny_dictSet_pairs (hsz:=hz) (Jq ry) dd λ h' dd' hs=>h _ ?_;have he:∃ q,h'.get? a=some q:=let ⟨q,_,_,hq,_⟩:=dd';⟨q,hq⟩;exact Xs I (by rw[e];exact True.intro) hs he (Zab hl hd (rel.put k rv) dd')
  . rw[hd]at e;cases e
theorem pe_dc {kx vx iter tg:Expr}{xs:List Str}{scope:Scope}{cl:List (Str×Addr)}{pos:Pos}{caps:List (Str×Nat)}{wi:TI}{g:TG}{tk tv:TE}(hc:X.calm=true)(hi:PI X tg iter wi)(hg:∀ C s₀ H₀ fp pins,PG (X.comp scope cl C (xs++caps.map (·.1)) s₀ H₀ fp pins) tg g)(hkx:∀ C s₀ H₀ fp pins,PE (X.comp scope cl C (xs++caps.map (·.1)) s₀ H₀ fp pins) kx tk)(hvx:∀ C s₀ H₀ fp pins,PE (X.comp scope cl C (xs++caps.map (·.1)) s₀ H₀ fp pins) vx tv)(hclos:closureFor scope X.env=pure cl)(hcell:∀ y∈scope.names,y.2 ≠ .cell)(hkind:scope.kind = .function)(hnames:∀ y∈scope.names,y.2 = .local->scope.names.lookup y.1=some .local)(hcl:∀ x c,cl.lookup x=some c->X.env.cells.lookup x=some c)(hhas:∀ x,((relabel scope X.env).names.lookup x=some .cell\/(relabel scope X.env).names.lookup x=some .free)->∃ c,cl.lookup x=some c)(hcap:∀ p∈caps,X.N[p.2]? = some p.1/\X.env.scope.names.lookup p.1=some .cell/\((relabel scope X.env).names.lookup p.1=some .cell\/(relabel scope X.env).names.lookup p.1=some .free))(hs:∀ x,foldedSetIterable iter X.env x=pure x:=by intro _;rfl) :
    PE X (.DictComp kx vx [⟨tg,iter,[],0⟩] scope pos) (tDC xs.length caps wi g tk tv):=by
  refine⟨?_⟩;intro pins s σ H Q I h;rw[arm_eval_DictComp];refine wpAny_comprehension_free (use:=none) rfl hs hclos hkind hnames (thn (hi pins s σ H _ I h) λ v s1 h1=>thn h1 λ itv s2 h2=>?_);obtain⟨it,fp,tn,J,H2,e,I2,T,st2,f2,q2⟩:=h2;subst e;refine wpAny_newObj_type ?_;have fD:H2 s2.heap.objs.size=none:=I2.fresh;obtain⟨W,⟨m0,w0⟩,turn⟩:=q2 s2.heap.objs.size fD;have I3:=I2.laid (a:=s2.heap.objs.size) (o:=.dK []) (h':=s2.heap.push { cls:=.type "dict",data:=.dict #[] }) (t':=s2.toks) (λ _ _ q=>Heap.get?_push_of_some _ q) (le_refl _) (Zay s2.heap I2.big);have lt2:∀ b∈fp,b<s2.heap.objs.size:=λ b hb=>by
    obtain⟨o,ho,_⟩:=T.obj 0 _ st2 b hb;exact Heap.lt_size ho
  have neD:∀ b∈fp,b≠s2.heap.objs.size:=λ b hb=>ne_of_lt (lt2 b hb);have st3:tn 0 (s2.heap.push { cls:=.type "dict",data:=.dict #[] }):=T.keep 0 _ _ st2 λ b _ o e=>Heap.get?_push_of_some _ e;have f3:∀ b∈fp,Y8 X pins (upd H2 s2.heap.objs.size (.dK [])) b:=λ b hb=>⟨by rw[Zh (neD b hb)];exact(f2 b hb).1,(f2 b hb).2⟩;generalize hs3:({ s2 with heap:=s2.heap.push { cls:=.type "dict",data:=.dict #[] },toks:=s2.toks }:Shared)=s3 at I3;generalize hD:s2.heap.objs.size=D at *;have hs3h:s3.heap=s2.heap.push { cls:=.type "dict",data:=.dict #[] }:=by rw[<- hs3]
  have goal3:wpAny (model X.prog X.w) X.A (newFunctionEnv scope X.env.globals cl [] X.env.qual none .none (some X.env)) (λ cenv s₄=>
      codeAny (model X.prog X.w) X.A (.compStart (.DictComp kx vx [⟨tg,iter,[],0⟩] scope pos) 0 (.ref it) (.ref D) { cenv with scope:=relabel scope X.env })
        (compPost (model X.prog X.w) X.A X.xe none (EP X pins σ Q) (.ref D) cenv.locals) s₄) X.xe s3:=by
    have lt3:∀ b∈fp,b<s3.heap.objs.size:=λ b hb=>by
      rw[hs3h,Heap.size_push,hD];exact lt_succ_of_lt (lt2 b hb)
    refine wpAny_newFunctionEnv hcell (by intro y hy;simp at hy) (λ h₁ hns₁ hsb₁=>?_) hkind;have old:∀ b o,s3.heap.get? b=some o->h₁.get? b=some o:=λ b o e=>hsb₁.extBut b o (ne_of_lt (Heap.lt_size e)) (Heap.get?_push_of_some _ e);have I4:Inv (X.comp scope cl s3.heap.objs.size (xs++caps.map (·.1)) s3 (upd H2 D (.dK [])) fp pins) [] (List.replicate xs.length none++ZY caps σ) (upd H2 D (.dK [])) { s3 with heap:=h₁,toks:=s3.toks+0 }:=
      ZbL I3 f3 lt3 hkind hcl hhas hcap hns₁ old
    have st4:tn 0 h₁:=T.keep 0 _ _ (by rw[<- hs3h]at st3;exact st3) λ b hb o e=>old b o e;have stat:∀ {H':Hp},(∀ b∈fp,H' b=none)->∀ b∈fp,Y8 (X.comp scope cl s3.heap.objs.size (xs++caps.map (·.1)) s3 (upd H2 D (.dK [])) fp pins) [] H' b:=λ hn b hb=>
      ⟨hn b hb,ne_of_lt (lt3 b hb),I4.ok.exfs b hb, .inl hb,λ y c e=>(f3 b hb).2.2.2.2.1 y c (hcl y c e),λ p hp=>(f3 b hb).2.2.2.2.2 p (by simpa using hp)⟩
    have loop:codeAny (model X.prog X.w) X.A (.compLoop (.DictComp kx vx [⟨tg,iter,[],0⟩] scope pos) 0 (.ref it) (.ref D) (compEnvC scope cl s3.heap.objs.size X.env))
        (compPost (model X.prog X.w) X.A X.xe none (EP X pins σ Q) (.ref D) s3.heap.objs.size) { s3 with heap:=h₁,toks:=s3.toks+0 }:=by
      refine loopD (λ n s'=>∃ i vals H',vals.length=xs.length/\Inv (X.comp scope cl s3.heap.objs.size (xs++caps.map (·.1)) s3 (upd H2 D (.dK [])) fp pins) [] (vals++ZY caps σ) H' s'/\tn i s'.heap/\(∀ b∈fp,H' b=none)/\W i n H') ?_ m0 ⟨0,List.replicate xs.length none,_,by simp,I4,st4,λ b hb=>(f3 b hb).1,w0⟩;rintro n s5 ⟨i,vals,H5,hv5,I5,st5,fr5,w5⟩;rcases turn i n H5 w5 with ⟨stop,qn⟩|⟨go,step⟩
      . refine wpAny_noRaise (thn (T.done (X.comp scope cl s3.heap.objs.size (xs++caps.map (·.1)) s3 (upd H2 D (.dK [])) fp pins) rfl rfl rfl hc i [] s5 _ H5 (λ _ _=>False) I5 (stat fr5) st5 stop) λ r s6 zz9=>?_);obtain⟨hr,I6⟩:=zz9;subst hr;obtain⟨m6,hn6,_⟩:=I6.loc;have fC:H5 s3.heap.objs.size=none:=I6.free;have u6:Un (frs X.stack) fp (upd H2 D (.dK [])) H5 s3.heap s6.heap:=I6.base;have ff:=I3.fpOk (le_refl _) fC;have I7:Inv X pins σ H5 s6:=I3.call' (ch:=fp) I6.os u6 I6.hok I6.bare λ b hb=>⟨(f3 b hb).2.2.2.1,(f3 b hb).2.1,(f3 b hb).2.2.2.2.1,(f3 b hb).2.2.2.2.2⟩;exact⟨m6,hn6,λ h' hs'=>⟨.ref D,H5,I7.turned (λ b o n e=>(hs'.2 b n).trans e) ff.1 ff.2.1 ff.2.2.2.1 ff.2.2.2.2.1 ff.2.2.2.2.2,rfl,qn⟩⟩
      . refine wpAny_noRaise (thn (T.item (X.comp scope cl s3.heap.objs.size (xs++caps.map (·.1)) s3 (upd H2 D (.dK [])) fp pins) rfl rfl rfl hc i [] s5 _ H5 (λ _ _=>False) I5 (stat fr5) st5 go) λ r s6 zz9=>?_);obtain⟨u,hr,h6⟩:=zz9;subst hr;refine wpAny_noRaise (thn h6 λ _ s6 zz9=>?_);obtain⟨y,H6,I6,r6,y6,st6,fr6⟩:=zz9;have I6':=I6.pinned (stat fr6) (T.obj _ _ st6);have again:∀ {v8:St} {H8:Hp} {s8:Shared} {m':Nat},v8.length=xs.length->Inv (X.comp scope cl s3.heap.objs.size (xs++caps.map (·.1)) s3 (upd H2 D (.dK [])) fp pins) ([]++XD fp s6.heap) (v8++ZY caps σ) H8 s8->W (i+1) m' H8 ->
            ∃ i vals H',vals.length=xs.length/\Inv (X.comp scope cl s3.heap.objs.size (xs++caps.map (·.1)) s3 (upd H2 D (.dK [])) fp pins) [] (vals++ZY caps σ) H' s8/\tn i s8.heap/\(∀ b∈fp,H' b=none)/\W i m' H':=λ {v8 H8 s8 m'} hv8 I8 w8=>by
          refine⟨i+1,v8,H8,hv8,I8.unpinned,T.keep _ _ _ st6 λ b hb o e=>(I8.pin (b,o) (mem_append_right _ (mem_append_right _ (ZZ hb e)))).1,λ b hb=>?_,w8⟩;obtain⟨o,e,d⟩:=T.obj _ _ st6 b hb;exact(I8.pin (b,o) (mem_append_right _ (mem_append_right _ (ZZ hb e)))).2.1
        refine wpAny_noRaise (thn (hg _ _ _ _ _ _ s6 _ H6 _ _ _ I6' r6 (step y H6 y6 vals hv5)) λ _ s7 zz9=>?_);obtain⟨σ7,H7,I7,vals7,hv7,es7,q7⟩:=zz9;subst es7;refine wpAny_noRaise (thn (hkx _ _ _ _ _ _ s7 _ H7 _ I7 q7) λ ku s8 zz9=>?_);obtain⟨k8,H8,I8,r8,q8⟩:=zz9;refine wpAny_noRaise (thn (hvx _ _ _ _ _ _ s8 _ H8 _ I8 q8) λ vu s9 zz9=>?_);obtain⟨v9,H9,I9,r9,kvs9,k',m',ek9,hd9,hl9,hm9,w9⟩:=zz9;subst ek9;exact d_set (X:=X.comp scope cl s3.heap.objs.size (xs++caps.map (·.1)) s3 (upd H2 D (.dK [])) fp pins) I9 hd9 (XY.k hd9 hl9) r8 r9 λ s10 I10=>⟨m',hm9,again hv7 I10 w9⟩
    exact codeAny_compStart_dict loop (T.self _ 0 _ _ _ st4 loop)
  subst hs3;subst hD;exact goal3
end
end L2
namespace L2
open PySem PySem.Spec PyProof.Rows
theorem kit_ll {K:Frag}:PySem.W.kitOne K (.type "list") (.type "list")=some true:=by rfl
theorem kit_ss {K:Frag}:PySem.W.kitOne K (.type "str") (.type "str")=some true:=by rfl
section
variable {X:Cx}
theorem Zbt:OpR X (compareOp .LtE) (λ x y H Q=>∃ i j,x = .str i/\y = .str j/\Q (.bl (!decide (j.cps.toList<i.cps.toList))) H):=by
 intro pins s σ H x y v u Q I rx ry h;obtain⟨i,j,rfl,rfl,q⟩:=h;obtain⟨t,rfl⟩:=rx;obtain⟨t',rfl⟩:=ry;exact PySem.P.le_str (Zs I q rfl)
theorem sl_str:SlR X (λ x lo hi H Q=>∃ z,x = .str z/\z.length<=sizeLine/\Q (.str (Txt.slice z lo hi)) H):=by
  intro pins s σ H x v vl vu lo hi sl Q I rx hs pl pu h;obtain⟨z,rfl,hz,q⟩:=h;obtain⟨t,rfl⟩:=rx;refine⟨"str",_,F.slot_str_getitem.lookup,typeIs_str _ _ _,?_⟩;cases pl with
  |none=>
    cases pu with
    |none=>exact wpAny_getItem_str_slice (l:=none) (u:=none) (st:=none) hs rfl (post_val_or_str ⟨le_trans (Txt.slice_le z _ _) hz,λ t' k=>⟨.str _,H,I.tok _,⟨t',rfl⟩,q⟩⟩)
    |int j uj=>exact wpAny_getItem_str_slice (l:=none) (u:=some (j,uj)) (st:=none) hs rfl (post_val_or_str ⟨le_trans (Txt.slice_le z _ _) hz,λ t' k=>⟨.str _,H,I.tok _,⟨t',rfl⟩,q⟩⟩)
  |int i ui=>
    cases pu with
    |none=>exact wpAny_getItem_str_slice (l:=some (i,ui)) (u:=none) (st:=none) hs rfl (post_val_or_str ⟨le_trans (Txt.slice_le z _ _) hz,λ t' k=>⟨.str _,H,I.tok _,⟨t',rfl⟩,q⟩⟩)
    |int j uj=>exact wpAny_getItem_str_slice (l:=some (i,ui)) (u:=some (j,uj)) (st:=none) hs rfl (post_val_or_str ⟨le_trans (Txt.slice_le z _ _) hz,λ t' k=>⟨.str _,H,I.tok _,⟨t',rfl⟩,q⟩⟩)
end
end L2
namespace Sh
noncomputable def G (a b:Int):Int:=(Nat.gcd a.toNat b.toNat:Int)
theorem G_zero {a b:Int}(ha:0<=a)(hb:0<=b)(h:¬ 0<b):a=G a b:=by
 have:b=0:=by omega
 subst this;unfold G;simp;omega
theorem G_step {a b:Int}(ha:0<=a)(hb:0<b):G b (a % b)=G a b:=by
  unfold G;have e:(a % b).toNat=a.toNat % b.toNat:=by
    have h1:a=(a.toNat:Int):=by omega
    have h2:b=(b.toNat:Int):=by omega
    rw[h1,h2];exact toNat_natCast _
  rw[e,Nat.gcd_comm a.toNat b.toNat,Nat.gcd_rec b.toNat a.toNat,Nat.gcd_comm]
structure Low (n d q r:Int):Prop where
  q0:0<=q
  r0:0<r
  g:G q r=1
  eq:q * d=n * r
theorem G_pos {a b:Int}(hb:0<b):0<G a b:=by
 unfold G;have:=Nat.gcd_pos_of_pos_right a.toNat (show 0<b.toNat by omega);omega
theorem G_le {a b:Int}(hb:0<b):G a b<=b:=by
 unfold G;have:=Nat.le_of_dvd (show 0<b.toNat by omega) (Nat.gcd_dvd_right a.toNat b.toNat);omega
theorem low {n d:Int}(hn:0<=n)(hd:0<d):Low n d (n / G n d) (d / G n d):=by
  have g0:=G_pos (a:=n) hd;have e1:n / G n d=((n.toNat / Nat.gcd n.toNat d.toNat:Nat):Int):=by
    conv=>lhs;rw[show n=(n.toNat:Int) by omega]
    unfold G;rw[toNat_natCast];rfl
  have e2:d / G n d=((d.toNat / Nat.gcd n.toNat d.toNat:Nat):Int):=by
    conv=>lhs;lhs;rw[show d=(d.toNat:Int) by omega]
    unfold G;rfl
  have p:0<Nat.gcd n.toNat d.toNat:=Nat.gcd_pos_of_pos_right n.toNat (show 0<d.toNat by omega);have dv1:=Nat.gcd_dvd_left n.toNat d.toNat;have dv2:=Nat.gcd_dvd_right n.toNat d.toNat;rw[e1,e2];refine⟨Int.natCast_nonneg _,?_,?_,?_⟩
  . have:=Nat.div_pos (Nat.le_of_dvd (show 0<d.toNat by omega) dv2) p;omega
  . unfold G;rw[toNat_natCast,toNat_natCast,Nat.gcd_div dv1 dv2,Nat.div_self p];rfl
  . have:n.toNat / Nat.gcd n.toNat d.toNat * d.toNat=n.toNat * (d.toNat / Nat.gcd n.toNat d.toNat):=by
      obtain⟨x,hx⟩:=dv1;obtain⟨y,hy⟩:=dv2;have x1:n.toNat / Nat.gcd n.toNat d.toNat=x:=by
        conv=>lhs;lhs;rw[hx]
        exact Nat.mul_div_cancel_left x p
      have y1:d.toNat / Nat.gcd n.toNat d.toNat=y:=by
        conv=>lhs;lhs;rw[hy]
        exact Nat.mul_div_cancel_left y p
      rw[x1,y1]
      conv=>lhs;rw[hy]
      conv=>rhs;rw[hx]
      rw[Nat.mul_left_comm,Nat.mul_assoc]
    have h:=congrArg (λ z:Nat=>(z:Int)) this;have h1:(n.toNat:Int)=n:=by omega
    have h2:(d.toNat:Int)=d:=by omega
    simp only[Int.natCast_mul,h1,h2]at h;exact h
theorem div_le {x g:Int}(hx:0<=x)(hg:0<g):x / g<=x:=Int.ediv_le_self g hx
end Sh
namespace Sh
theorem G_mul {k a b:Int}(hk:0<k)(ha:0<=a)(hb:0<=b):G (k * a) (k * b)=k * G a b:=by
  unfold G;have e1:(k * a).toNat=k.toNat * a.toNat:=by
    conv=>lhs;rw[show k=(k.toNat:Int) by omega,show a=(a.toNat:Int) by omega]
    exact toNat_natCast (k.toNat * a.toNat)
  have e2:(k * b).toNat=k.toNat * b.toNat:=by
    conv=>lhs;rw[show k=(k.toNat:Int) by omega,show b=(b.toNat:Int) by omega]
    exact toNat_natCast (k.toNat * b.toNat)
  rw[e1,e2,Nat.gcd_mul_left,Int.natCast_mul,show((k.toNat:Nat):Int)=k by omega]
theorem lq_mul {k a b:Int}(hk:0<k)(ha:0<=a)(hb:0<b):k * a / G (k * a) (k * b)=a / G a b/\k * b / G (k * a) (k * b)=b / G a b:=by
 rw[G_mul hk ha (Int.le_of_lt hb)];exact⟨Int.mul_ediv_mul_of_pos _ _ hk,Int.mul_ediv_mul_of_pos _ _ hk⟩
theorem G_zero1 {d:Int}(hd:0<d)(h:G 0 d=1):d=1:=by
 unfold G at h;simp at h;omega
end Sh
namespace L2
open PySem PySem.Spec PyProof.Rows
noncomputable def ltS (a b:Str):Prop:=a.cps.toList<b.cps.toList
instance (a b:Str):Decidable (ltS a b):=inferInstanceAs (Decidable (a.cps.toList<b.cps.toList))
theorem Z0 (a:Str):¬ ltS a a:=List.lt_irrefl _
theorem Zby {a b c:Str}(h:ltS a b)(h':ltS b c):ltS a c:=List.lt_trans h h'
theorem ZcH {a b:Str}(h:a.cps.toList=b.cps.toList):a=b:=by
 cases a;cases b;simp at h;rw[h]
theorem ZbB {a b c:Str}(h:¬ ltS b a)(h':¬ ltS c b):¬ ltS c a:=by
 have q:a.cps.toList<=b.cps.toList:=h;have q':b.cps.toList<=c.cps.toList:=h';exact List.le_trans q q'
theorem ltS_of {a b:Str}(h:¬ ltS b a)(hne:a≠b):ltS a b:=by
  by_cases z:ltS a b
  . exact z
  . have q:a.cps.toList<=b.cps.toList:=h;have q':b.cps.toList<=a.cps.toList:=z;exact absurd (ZcH (List.le_antisymm q q')) hne
theorem rise {p:Str}{l:List Str}(h:risingS p l=true):(p::l).Pairwise (λ a b=>¬ ltS b a):=by
  induction l generalizing p with
  |nil=>simp
  |cons x r ih=>
    have h':(!ltCps x.cps.toList p.cps.toList && risingS x r)=true:=h;rw[Bool.and_eq_true]at h';have h1:¬ ltS x p:=by
      have:=h'.1;rw[ltCps_eq]at this;simpa [ltS] using this
    have q:=ih h'.2;refine List.pairwise_cons.mpr ⟨λ y hy=>?_,q⟩;rcases List.mem_cons.mp hy with rfl|hy
    . exact h1
    . exact ZbB h1 ((List.pairwise_cons.mp q).1 y hy)
theorem ZbW {l:List Str}(h:sortedS l=true)(nd:l.Nodup):l.Pairwise ltS:=by
  have q:l.Pairwise (λ a b=>¬ ltS b a):=by
    cases l with
    |nil=>exact .nil
    |cons x r=>exact rise h
  exact(q.and nd).imp λ z=>ltS_of z.1 z.2
noncomputable abbrev En:=Str×Int×Int
noncomputable abbrev Ws:=List (En×Addr)
noncomputable def YX (e:En):Prop:=0<=e.2.1/\0<e.2.2/\Sh.G e.2.1 e.2.2=1
noncomputable def Zr (es:List En):List Str:=es.map (·.1)
noncomputable def LedW (H:Hp)(l:Addr)(ws:Ws):Prop:=H l=some (.lst (ws.map λ w=>V.ref w.2))/\∀ w∈ws,H w.2=some (.tup [.str w.1.1, .int w.1.2.1, .int w.1.2.2])
noncomputable def Led (H:Hp)(l:Addr)(es:List En):Prop:=∃ ws:Ws,ws.map (·.1)=es/\LedW H l ws
noncomputable def Xx (K:Frag)(H:Hp)(d:Addr)(ws:Ws):Prop:=H d=some (.dK (ws.map λ w=>((Sum.inr w.1.1:Key),V.ref w.2)))/\∀ w∈ws,SqT K H w.2 [.int w.1.2.1, .int w.1.2.2]
noncomputable def Dic (K:Frag)(H:Hp)(d:Addr)(es:List En):Prop:=∃ ws:Ws,ws.map (·.1)=es/\Xx K H d ws
theorem Led.same {H H':Hp}{l:Addr}{es:List En}(h:Led H l es)(e:Zx H H'):Led H' l es:=by
 obtain⟨ws,h1,h2,h3⟩:=h;exact⟨ws,h1,e _ _ h2,λ w hw=>e _ _ (h3 w hw)⟩
theorem Dic.same {K:Frag}{H H':Hp}{l:Addr}{es:List En}(h:Dic K H l es)(e:Zx H H'):Dic K H' l es:=by
 obtain⟨ws,h1,h2,h3⟩:=h;exact⟨ws,h1,e _ _ h2,λ w hw=>e.tupq (h3 w hw)⟩
theorem Led.at1 {H:Hp}{l f:Addr}{es:List En}{o u:HO}(h:Led H l es)(hf:H f=some o)(hn:l≠f)(ho:∀ xs,o ≠ .tup xs):Led (upd H f u) l es:=by
 obtain⟨ws,h1,h2,h3⟩:=h;refine⟨ws,h1,by rw[Zh hn];exact h2,λ w hw=>?_⟩;rw[Zh (Yk (h3 w hw) hf (λ z=>ho _ z.symm))];exact h3 w hw
theorem Zai {K:Frag}{H:Hp}{p f:Addr}{xs:List V}{kvs:List (Key×V)}{u:HO}(h:SqT K H p xs)(hf:H f=some (.dK kvs)):SqT K (upd H f u) p xs:=by
  rcases h with (h|⟨o,h⟩)|h
  . exact .inl (.inl (by rw[Zh (Yk h hf (by intro z;cases z))];exact h))
  . exact .inl (.inr ⟨o,by rw[Zh (Yk h hf (by intro z;cases z))];exact h⟩)
  . exact .inr h
noncomputable def fnd (es:List En)(k:Str):Option En:=es.find? λ e=>decide (e.1=k)
noncomputable def look (es:List En)(k:Str):Int×Int:=match fnd es k with|some e=>e.2|none=>(0,1)
noncomputable def Ye (es:List En)(k:Str)(n d:Int):List En:=if (es.any λ e=>decide (e.1=k))=true then es.map (λ e=>if e.1=k then (k,n,d) else e) else es++[(k,n,d)]
noncomputable def ZaL (ws:Ws)(k:Str)(w':En×Addr):Ws:=if (ws.any λ w=>decide (w.1.1=k))=true then ws.map (λ w=>if w.1.1=k then w' else w) else ws++[w']
theorem val_ws (ws:Ws)(k:Str):YG (ws.map λ w=>((Sum.inr w.1.1:Key),V.ref w.2)) (Sum.inr k)=(ws.find? λ w=>decide (w.1.1=k)).map λ w=>V.ref w.2:=by
  induction ws with
  |nil=>rfl
  |cons w r ih=>
    by_cases h:w.1.1=k
    . rw[map_cons,YE (by rw[h]),find?_cons,decide_eq_true h];rfl
    . rw[map_cons,YF (λ z=>h (Sum.inr.inj z)),ih,find?_cons,decide_eq_false h]
theorem fnd_ws (ws:Ws)(k:Str):fnd (ws.map (·.1)) k=(ws.find? λ w=>decide (w.1.1=k)).map (·.1):=by
 unfold fnd;rw[List.find?_map];rfl
theorem put_ws (ws:Ws)(k:Str)(n d:Int)(q:Addr):Yj (ws.map λ w=>((Sum.inr w.1.1:Key),V.ref w.2)) (Sum.inr k) (V.ref q)=(ZaL ws k ((k,n,d),q)).map λ w=>((Sum.inr w.1.1:Key),V.ref w.2):=by
  unfold Yj ZaL;have e:((ws.map λ w=>((Sum.inr w.1.1:Key),V.ref w.2)).any λ kv=>decide (kv.1=Sum.inr k))=ws.any λ w=>decide (w.1.1=k):=by
    rw[List.any_map];congr 1;funext w;simp
  rw[e];split
  . rw[map_map,map_map];refine map_congr_left λ w _=>?_
    by_cases h:w.1.1=k
    . simp[h]
    . simp[h]
  . rw[map_append];rfl
theorem ZcN (ws:Ws)(k:Str)(n d:Int)(q:Addr):(ZaL ws k ((k,n,d),q)).map (·.1)=Ye (ws.map (·.1)) k n d:=by
  unfold Ye ZaL;rw[List.any_map];show _=if (ws.any λ w=>decide (w.1.1=k))=true then _ else _
  split
  . rw[map_map,map_map];refine map_congr_left λ w _=>?_
    by_cases h:w.1.1=k
    . simp[h]
    . simp[h]
  . rw[map_append];rfl
theorem Zcg {ws:Ws}{k:Str}{w' w:En×Addr}(h:w∈ZaL ws k w'):w=w'\/w∈ws:=by
  unfold ZaL at h;split at h
  . obtain⟨x,hx,e⟩:=List.mem_map.mp h
    by_cases z:x.1.1=k
    . rw[if_pos z]at e;exact .inl e.symm
    . rw[if_neg z]at e;exact .inr (e▸hx)
  . rcases List.mem_append.mp h with h|h
    . exact .inr h
    . exact .inl (List.mem_singleton.mp h)
theorem Dic.put {K:Frag}{H:Hp}{d q:Addr}{ws:Ws}{es:List En}{k:Str}{n m:Int}(e:ws.map (·.1)=es)(h:Xx K H d ws)(hq:SqT K H q [.int n, .int m]) :
    Dic K (upd H d (.dK (Yj (ws.map λ w=>((Sum.inr w.1.1:Key),V.ref w.2)) (Sum.inr k) (V.ref q)))) d (Ye es k n m):=by
  subst e;refine⟨ZaL ws k ((k,n,m),q),ZcN ws k n m q,by rw[Zd,put_ws ws k n m q],λ w hw=>?_⟩;refine Zai ?_ h.1;rcases Zcg hw with rfl|hw
  . exact hq
  . exact h.2 w hw
theorem Dic.get {K:Frag}{H:Hp}{d:Addr}{ws:Ws}{es:List En}{k:Str}(e:ws.map (·.1)=es)(h:Xx K H d ws) :
    (∃ p,YG (ws.map λ w=>((Sum.inr w.1.1:Key),V.ref w.2)) (Sum.inr k)=some (V.ref p)/\SqT K H p [.int (look es k).1, .int (look es k).2]/\k∈Zr es) \/
    (YG (ws.map λ w=>((Sum.inr w.1.1:Key),V.ref w.2)) (Sum.inr k)=none/\look es k=(0,1)/\k∉Zr es):=by
  subst e;rw[val_ws];have q:=fnd_ws ws k;unfold look;rw[q];cases z:ws.find? λ w=>decide (w.1.1=k) with
  |none=>
    refine .inr ⟨rfl,rfl,λ hk=>?_⟩;obtain⟨x,hx,ex⟩:=List.mem_map.mp hk;obtain⟨w,hw,ew⟩:=List.mem_map.mp hx;have:=List.find?_eq_none.mp z w hw;subst ew;simp[ex]at this
  |some w=>
    have hw:=List.mem_of_find?_eq_some z;have hk:w.1.1=k:=by simpa using List.find?_some z
    exact .inl ⟨w.2,rfl,h.2 w hw,List.mem_map.mpr ⟨w.1,List.mem_map.mpr ⟨w,hw,rfl⟩,hk⟩⟩
theorem ZbC (es:List En)(k:Str)(n d:Int):Zr (Ye es k n d)=if (es.any λ e=>decide (e.1=k))=true then Zr es else Zr es++[k]:=by
  unfold Ye Zr;split
  . rw[map_map];refine map_congr_left λ w _=>?_
    by_cases h:w.1=k
    . simp[h]
    . simp[h]
  . rw[map_append];rfl
theorem Zbh {es:List En}{k:Str}:(es.any λ e=>decide (e.1=k))=true↔k∈Zr es:=by
  unfold Zr;rw[List.any_eq_true,mem_map];constructor
  . rintro⟨e,h1,h2⟩;exact⟨e,h1,of_decide_eq_true h2⟩
  . rintro⟨e,h1,h2⟩;exact⟨e,h1,decide_eq_true h2⟩
theorem Za5 {es:List En}{k:Str}{n d:Int}(h:(Zr es).Nodup):(Zr (Ye es k n d)).Nodup:=by
  rw[ZbC];split
  . exact h
  . rename_i z;rw[nodup_append];refine⟨h,by simp,λ a ha b hb=>?_⟩;rw[List.mem_singleton.mp hb];rintro rfl;exact z (Zbh.mpr ha)
theorem Zau {es:List En}{k:Str}{n d:Int}:(Ye es k n d).length<=es.length+1:=by
  unfold Ye;split
  . simp
  . simp
theorem Jn {es:List En}{k:Str}{n d:Int}{e:En}(h:e∈Ye es k n d):e=(k,n,d)\/e∈es:=by
  unfold Ye at h;split at h
  . obtain⟨x,hx,e'⟩:=List.mem_map.mp h
    by_cases z:x.1=k
    . rw[if_pos z]at e';exact .inl e'.symm
    . rw[if_neg z]at e';exact .inr (e'▸hx)
  . rcases List.mem_append.mp h with h|h
    . exact .inr h
    . exact .inl (List.mem_singleton.mp h)
theorem Yl {es:List En}{k:Str}(h:k∈Zr es):(k,look es k)∈es:=by
  unfold look fnd;cases z:es.find? λ e=>decide (e.1=k) with
  |none=>
    obtain⟨x,hx,ex⟩:=List.mem_map.mp h;have:=List.find?_eq_none.mp z x hx;simp[ex]at this
  |some w=>
    have hw:=List.mem_of_find?_eq_some z;have hk:w.1=k:=by simpa using List.find?_some z
    subst hk;exact hw
theorem Zc4 {es:List En}(nd:(Zr es).Nodup){e:En}(h:e∈es):look es e.1=e.2:=by
  induction es with
  |nil=>cases h
  |cons x r ih=>
    have nd':x.1∉Zr r/\(Zr r).Nodup:=by simpa [Zr] using nd
    rcases List.mem_cons.mp h with rfl|h
    . simp[look,fnd]
    . have hne:x.1≠e.1:=λ z=>nd'.1 (z▸List.mem_map.mpr ⟨e,h,rfl⟩);have:=ih nd'.2 h;unfold look fnd at this ⊢;rw[find?_cons,decide_eq_false hne];exact this
noncomputable def Can (es es':List En):Prop:=es'.Pairwise (λ a b=>ltS a.1 b.1)/\(∀ e,e∈es'↔e∈es/\e.2.1≠0)/\es'.length<=es.length
theorem ZcJ {l l':List En}(h:l.Pairwise (λ a b=>ltS a.1 b.1))(h':l'.Pairwise (λ a b=>ltS a.1 b.1))(e:∀ x,x∈l↔x∈l'):l=l':=by
  induction l generalizing l' with
  |nil=>
    cases l' with
    |nil=>rfl
    |cons y r=>exact absurd ((e y).mpr (mem_cons_self ..)) (by simp)
  |cons x r ih=>
    cases l' with
    |nil=>exact absurd ((e x).mp (mem_cons_self ..)) (by simp)
    |cons y r'=>
      have p:=List.pairwise_cons.mp h;have p':=List.pairwise_cons.mp h';have hxy:x=y:=by
        rcases List.mem_cons.mp ((e x).mp (mem_cons_self ..)) with z|z
        . exact z
        . rcases List.mem_cons.mp ((e y).mpr (mem_cons_self ..)) with z'|z'
          . exact z'.symm
          . exact absurd (Zby (p.1 y z') (p'.1 x z)) (Z0 _)
      subst hxy;have:r=r':=ih p.2 p'.2 λ z=>by
        have q:=e z;simp only[List.mem_cons]at q;constructor
        . intro hz;rcases q.mp (.inr hz) with w|w
          . subst w;exact absurd (p.1 z hz) (Z0 _)
          . exact w
        . intro hz;rcases q.mpr (.inr hz) with w|w
          . subst w;exact absurd (p'.1 z hz) (Z0 _)
          . exact w
      rw[this]
theorem Can.uniq {es a b:List En}(h:Can es a)(h':Can es b):a=b:=ZcJ h.1 h'.1 λ x=>(h.2.1 x).trans (h'.2.1 x).symm
noncomputable def Jh (es:List En)(ss:List Str):List En:=(ss.filter λ s=>decide ((look es s).1≠0)).map λ s=>(s,look es s)
theorem ZaD {es:List En}{ss:List Str}(nd:(Zr es).Nodup)(hp:ss.Perm (Zr es))(hs:sortedS ss=true):Can es (Jh es ss):=by
  have r:=ZbW hs (hp.nodup_iff.mpr nd);refine⟨List.pairwise_map.mpr ((r.sublist List.filter_sublist).imp λ z=>z),λ e=>?_,?_⟩
  rotate_left
  . unfold Jh;rw[length_map];refine le_trans (length_filter_le _ _) ?_;rw[hp.length_eq];unfold Zr;rw[length_map];exact le_refl _
  unfold Jh;rw[mem_map];constructor
  . rintro⟨s,h1,rfl⟩;obtain⟨h2,h3⟩:=List.mem_filter.mp h1;exact⟨Yl (hp.mem_iff.mp h2),of_decide_eq_true h3⟩
  . rintro⟨h1,h2⟩;have hk:e.1∈ss:=hp.mem_iff.mpr (List.mem_map.mpr ⟨e,h1,rfl⟩);have he:=Zc4 nd h1;refine⟨e.1,List.mem_filter.mpr ⟨hk,decide_eq_true (by rw[he];exact h2)⟩,by rw[he]⟩
theorem Can.keys_nd {es es':List En}(h:Can es es'):(Zr es').Nodup:=by
 unfold Zr;rw[List.nodup_iff_pairwise_ne,List.pairwise_map];exact h.1.imp λ z e=>by rw[e]at z;exact Z0 _ z
noncomputable def enD (e:En):PyData:=.tuple [.str e.1, .int e.2.1, .int e.2.2]
noncomputable def Zav (es:List En):PyData:=.list (es.map enD)
theorem ZcK {K:Frag}{H:Hp}{ws:Ws}(h:∀ w∈ws,H w.2=some (.tup [.str w.1.1, .int w.1.2.1, .int w.1.2.2])):RdsAll K H (ws.map λ w=>V.ref w.2) ((ws.map (·.1)).map enD):=by
  induction ws with
  |nil=>exact .nil
  |cons w r ih=>exact .cons (.tuple (SqT.of (h w (mem_cons_self ..))) (.cons (.str _) (.cons (.int _) (.cons (.int _) .nil)))) (ih λ x hx=>h x (mem_cons_of_mem _ hx))
theorem Led.rds {K:Frag}{H:Hp}{l:Addr}{es:List En}(h:Led H l es):Rds K H (.ref l) (Zav es):=by
 obtain⟨ws,rfl,h2,h3⟩:=h;exact .list (SqL.of h2) (ZcK h3)
theorem Zda {es:List En}(h:∀ e∈es,PyData.strOk e.1=true):PyData.canLayAll0 (es.map enD)=true/\PyData.depthAll (es.map enD)<=1:=by
  induction es with
  |nil=>exact⟨rfl,by decide⟩
  |cons e r ih=>
    have h1:=h e (mem_cons_self ..);obtain⟨i1,i2⟩:=ih λ x hx=>h x (mem_cons_of_mem _ hx);refine⟨?_,?_⟩
    . simp only[map_cons,PyData.canLayAll0,enD,PyData.canLay0,h1,Bool.and_true,Bool.true_and];exact i1
    . simp only[map_cons,PyData.depthAll,enD,PyData.depth];omega
theorem ZE {es:List En}(h:∀ e∈es,PyData.strOk e.1=true):SeqAt.shaped (Zav es)=true:=by
  obtain⟨h1,h2⟩:=Zda h;unfold SeqAt.shaped;rw[Bool.and_eq_true];refine⟨?_,decide_eq_true ?_⟩
  . show PyData.canLayAll0 (es.map enD)=true;exact h1
  . show PyData.depthAll (es.map enD)+1<=64;omega
theorem Zaa {es:List En}(h:∀ e∈es,PyData.strOk e.1=true):PyData.eqv (Zav es) (Zav es)=true:=SeqAt.eqv_refl _ (SeqAt.canLay_of_shaped (ZE h))
noncomputable def shD (n d:Int):PyData:=.tuple [.int n, .int d]
theorem J0 {K:Frag}{H:Hp}{p:Addr}{n d:Int}(h:SqT K H p [.int n, .int d]):Rds K H (.ref p) (shD n d):=.tuple h (.cons (.int _) (.cons (.int _) .nil))
theorem YY (n d:Int):SeqAt.shaped (shD n d)=true:=rfl
theorem Zcw (a b c d:Int):PyData.eqv (shD a b) (shD c d)=(a == c && (b == d && true)):=rfl
end L2
namespace L2
open PySem PySem.Spec PyProof.Rows
theorem Zcv {K:Frag}{a:Addr}{xs:List V}{g:TG}{tb:TS}{D:Ends}{σ:St}{H:Hp}(Pv:Nat->St->Hp->Prop)(h0:Pv 0 σ H)(hl:∀ i σ H,i<=xs.length->Pv i σ H->SqL K H a xs)(hs:∀ i x σ H T,xs[i]? = some x->Pv i σ H->H T=none->g (.ref T) σ (upd H T (.tup [.int i,x])) λ σ2 H2=>tb { D with nx:=Pv (i+1),ct:=Pv (i+1),bk:=D.nx } σ2 H2)(hd:∀ σ H,Pv xs.length σ H->D.nx σ H) :
    ∃ W:Nat->Nat->St->Hp->Prop,(∃ m,W 0 m σ H)/\∀ i m σ H,W i m σ H ->
      ((Ite K a).stop i H/\D.nx σ H)\/((Ite K a).go i H/\∃ N:St->Hp->Prop,(∀ σ' H',N σ' H'->∃ m',m'<m/\W (i+1) m' σ' H')/\∀ x H',(Ite K a).yld i H x H'->g x σ H' λ σ2 H2=>tb { D with nx:=N,ct:=N,bk:=D.nx } σ2 H2):=by
  refine⟨λ i m σ H=>m=xs.length - i/\i<=xs.length/\Pv i σ H,⟨xs.length,by simp,zero_le _,h0⟩,?_⟩;rintro i m σ H ⟨rfl,hi,p⟩;have q:=hl i σ H hi p
  by_cases hlt:i<xs.length
  . refine .inr ⟨⟨xs,xs[i],q,by simp[hlt]⟩,Pv (i+1),λ σ' H' p'=>⟨xs.length - (i+1),by omega,rfl,hlt,p'⟩,λ x H' y=>?_⟩;obtain⟨T,z,hT,rfl,hz,rfl⟩:=y;exact hs i z σ H T (hz xs q) p hT
  . have e:i=xs.length:=by omega
    subst e;exact .inl ⟨⟨xs,q,le_refl _⟩,hd σ H p⟩
theorem Za2 {es:List En}{k:Str}{n d:Int}(h:k∉Zr es):Ye es k n d=es++[(k,n,d)]:=by
 unfold Ye;rw[if_neg λ z=>h (Zbh.mp z)]
theorem ZU {α:Type}{l:List α}{i:Nat}(hi:i<l.length):l.take i++[l[i]]=l.take (i+1):=by
 rw[List.take_succ,getElem?_eq_getElem hi];rfl
theorem YL {G H:Hp}{p D:Addr}{o u:HO}(sm:Zx G H)(hD:G D=none)(hp:H p=none):Zx G (upd (upd H p o) D u):=λ b x e=>by
 rw[Zh (Zj e hD),Zh (Zj (sm b x e) hp)];exact sm b x e
theorem ZL {G H:Hp}{D:Addr}{u:HO}(sm:Zx G H)(hD:G D=none):Zx G (upd H D u):=λ b x e=>by
 rw[Zh (Zj e hD)];exact sm b x e
theorem Dic.step {K:Frag}{H:Hp}{D p:Addr}{es:List En}{i:Nat}(hD:Dic K H D (es.take i))(hi:i<es.length)(nd:(Zr es).Nodup)(hp:H p=none) :
    ∃ kvs:List (Key×V),kvs.length<=i/\upd H p (.tup [.int es[i].2.1, .int es[i].2.2]) D=some (.dK kvs)/\Dic K (upd (upd H p (.tup [.int es[i].2.1, .int es[i].2.2])) D (.dK (Yj kvs (Sum.inr es[i].1) (V.ref p)))) D (es.take (i+1)):=by
  obtain⟨ws,e,hw⟩:=hD;have dW:Xx K (upd H p (.tup [.int es[i].2.1, .int es[i].2.2])) D ws:=⟨by rw[Zh (Zj hw.1 hp)];exact hw.1,λ w hx=>(Zg hp _).tupq (hw.2 w hx)⟩;have q:=Dic.put (k:=es[i].1) e dW (SqT.of (Zd (H:=H) (a:=p) (o:=.tup [.int es[i].2.1, .int es[i].2.2])));refine⟨_,?_,dW.1,?_⟩
  . rw[length_map,<- length_map (f:=(·.1)) (as:=ws),e,length_take];omega
  . have nk:es[i].1∉Zr (es.take i):=λ z=>by
      unfold Zr at z nd;rw[List.map_take]at z;have hi':i<(es.map (·.1)).length:=by simpa using hi
      have d1:((es.map (·.1)).take i++(es.map (·.1)).drop i).Nodup:=by rw[List.take_append_drop];exact nd
      rw[nodup_append]at d1;refine d1.2.2 _ z _ ?_ rfl;rw[List.drop_eq_getElem_cons hi'];simp
    rw[Za2 nk,ZU hi]at q;exact q
theorem Led.push {H:Hp}{D p:Addr}{es:List En}{e:En}(h:Led H D es)(hp:H p=none) :
    ∃ ys:List V,ys.length=es.length/\upd H p (.tup [.str e.1, .int e.2.1, .int e.2.2]) D=some (.lst ys)/\Led (upd (upd H p (.tup [.str e.1, .int e.2.1, .int e.2.2])) D (.lst (ys++[V.ref p]))) D (es++[e]):=by
  obtain⟨ws,rfl,h1,h2⟩:=h;have e0:D≠p:=Zj h1 hp;refine⟨ws.map λ w=>V.ref w.2,by simp,by rw[Zh e0];exact h1,ws++[(e,p)],by simp,by rw[Zd];simp,λ w hw=>?_⟩;rcases List.mem_append.mp hw with hw|hw
  . have z:=h2 w hw;rw[Zh (Yk z h1 (by intro y;cases y)),Zh (Zj z hp)];exact z
  . rw[List.mem_singleton.mp hw];have n:p≠D:=Ne.symm e0;rw[Zh n,Zd]
theorem YZ {es:List En}{ss:List Str}{i:Nat}(hi:i<ss.length):Jh es (ss.take (i+1))=if (look es ss[i]).1≠0 then Jh es (ss.take i)++[(ss[i],look es ss[i])] else Jh es (ss.take i):=by
  rw[<- ZU hi];unfold Jh;rw[List.filter_append,map_append];split
  . rename_i h;simp[h]
  . rename_i h;simp only[ne_eq,Decidable.not_not]at h;simp[h]
theorem Led.len {H:Hp}{l:Addr}{es:List En}(h:Led H l es):∃ xs,H l=some (.lst xs)/\xs.length=es.length:=by
 obtain⟨ws,rfl,h1,_⟩:=h;exact⟨_,h1,by simp⟩
theorem Led.at {H:Hp}{l:Addr}{es:List En}{xs:List V}{i:Nat}{x:V}(h:Led H l es)(hl:H l=some (.lst xs))(hx:xs[i]? = some x):∃(p:Addr)(e:En),x = .ref p/\es[i]? = some e/\H p=some (.tup [.str e.1, .int e.2.1, .int e.2.2]):=by
  obtain⟨ws,rfl,h1,h2⟩:=h;rw[h1]at hl;cases hl;rw[getElem?_map]at hx;cases z:ws[i]? with
  |none=>rw[z]at hx;cases hx
  |some w=>
    rw[z]at hx;refine⟨w.2,w.1,(Option.some.inj hx).symm,by rw[getElem?_map,z];rfl,h2 w (mem_of_getElem? z)⟩
end L2
namespace L2
open PySem PySem.Spec PyProof.Rows
section
variable {P:Program}{w:World}{K:Frag}{mg:Str->Option Value}{base:Heap}{N:List Str}{qual:Str}{scope:Scope}{f:Addr}{cd:Value}{A:Around}{outer:List Env}{s0:Shared}{H0:Hp}{E:XK}
end
end L2
namespace L2
open PySem PySem.Spec PyProof.Rows
theorem relK {k:Key}{u:Value}(h:XR k u=true):Zq (kV k) u:=by
  rcases ZA h with ⟨i,t,e,rfl⟩|⟨x,t,e,rfl⟩
  . subst e;exact⟨t,rfl⟩
  . subst e;exact⟨t,rfl⟩
theorem Zcu {X:Cx}{pins:List (Addr×Obj)}{σ:St}{H:Hp}{s:Shared}{d:Addr}{o:Obj}{kvs:List (Key×V)}{es:Array DictEntry}{ep:Nat}(I:Inv X pins σ H s)(h:H d=some (.frz o (.dK kvs)))(ho:o.data = .dict es ep) :
    ∃ vs,KV kvs vs/\s.heap.DictAt (ZB X.prog X.w) d vs ep:=by
  obtain⟨g,_,_,vs,rel,dd⟩:=(show ZI X.prog X.w H s.heap d (.frz o (.dK kvs)) from I.hok d _ h);obtain⟨ep',hat⟩:=dd.dictAt;obtain⟨o',es',h1,h2,h3,h4⟩:=id hat;rw[g]at h1;cases h1;rw[ho]at h3;cases h3;exact⟨vs,rel,hat⟩
noncomputable def Itd (d:Addr)(o:Obj)(kvs:List (Key×V)):It:=
 ⟨λ i H=>H d=some (.frz o (.dK kvs))/\i<kvs.length,λ i H x H'=>H'=H/\∃ k v,kvs[i]? = some (k,v)/\x=kV k,λ i H=>H d=some (.frz o (.dK kvs))/\kvs.length<=i⟩
theorem Zbl {P:Program}{w:World}{K:Frag}{tg:Expr}(d it:Addr)(o:Obj)(kvs:List (Key×V))(es:Array DictEntry)(ep:Nat)(ho:o.data = .dict es ep):Turn P w K tg (Itd d o kvs) [it] it (λ i h=>h.IsKeyIter it d i kvs.length ep) where
  mem:=by simp
  obj:=λ i h st b hb=>by
    have e:b=it:=by simpa using hb
    subst e;obtain⟨o,e,c,d⟩:=st;exact⟨o,e,λ v z=>by rw[d]at z;cases z⟩
  keep:=λ i h h' st k=>st.at λ o e=>k it (by simp) o e
  item:=by
    intro X hP hw hK hc i pins s σ H E I hf st hg;subst hP hw hK;obtain⟨hfr,hi⟩:=hg;obtain⟨vs,rel,hat⟩:=Zcu I hfr ho;have hl:kvs.length=vs.length:=rel.length;obtain⟨⟨k,x⟩,hx⟩:∃ p,vs[i]? = some p:=⟨vs[i]'(by omega),getElem?_eq_getElem (by omega)⟩;obtain⟨y,hy⟩:=Zcn rel hx;obtain⟨f0,f1,f2,f3,f4,f5⟩:=hf it (by simp);rw[hl]at st;refine wpAny_pyNext_dict_item st hat hx λ key h' hkey st' sb=>?_;have I1:Inv X pins σ H { s with heap:=h' }:=I.turned (t':=s.toks) (λ b o hb e=>(sb.2 b hb).trans e) f0 f1 f3 f4 f5;rw[<- hl]at st';obtain⟨o2,e,c,d2⟩:=id st';exact⟨key,rfl,Zcs (s:={ s with heap:=h' }) e c d2 (by decide) ⟨kV k,H,I1,relK hkey,⟨rfl,k,y,hy,rfl⟩,st',λ b hb=>(hf b hb).1⟩⟩
  done:=by
    intro X hP hw hK hc i pins s σ H E I hf st hg;subst hP hw hK;obtain⟨hfr,hi⟩:=hg;obtain⟨vs,rel,hat⟩:=Zcu I hfr ho;have hl:kvs.length=vs.length:=rel.length;obtain⟨f0,f1,f2,f3,f4,f5⟩:=hf it (by simp);rw[hl]at st;exact wpAny_pyNext_dict_end (I.ok.hd hc) st hat (by simp;omega) λ h' eb=>⟨rfl,I.turned (t':=s.toks) (λ b o hb e=>eb b o hb e) f0 f1 f3 f4 f5⟩
  self:=λ _ _ _ _ _ st h=>wpAny_pyIter_keyiter st h
noncomputable def iDict (tl:TE):TI:=λ σ H R=>tl σ H λ x H1=>∃ d kvs,x = .ref d/\H1 d=some (.dK kvs)/\∀ o,R (Itd d o kvs) (upd H1 d (.frz o (.dK kvs)))
theorem ZcV {X:Cx}{tg l:Expr}{tl:TE}(hl:PE X l tl):PI X tg l (iDict tl):=by
 refine⟨?_⟩;intro pins s σ H R I h;refine thn (hl pins s σ H _ I h) λ v s1 zz9=>?_;obtain⟨x,H1,I1,r1,q1⟩:=zz9;obtain⟨d,kvs,e,hd,q⟩:=q1;subst e;cases r1;obtain⟨z,lo,vs,rel,dd⟩:=Za9 I1.hok hd;obtain⟨ep,hat⟩:=dd.dictAt;obtain⟨o,es,h1,h2,h3,h4⟩:=id hat;have hl:kvs.length=vs.length:=rel.length;have I2:Inv X pins σ (upd H1 d (.frz o (.dK kvs))) s1:=I1.write (t':=s1.toks) (h':=s1.heap) (x:=d) (e:=d) (by rw[hd];exact True.intro) (.inl rfl) (λ b u _ q=>q) ⟨o,h1⟩ ⟨h1,z,lo,vs,rel,dd⟩;refine wpAny_pyIter_dict lo hat ?_;refine⟨s1.heap.objs.size,[s1.heap.objs.size],_,_,_,rfl,I2.kept (t':=s1.toks) λ b o e=>Heap.get?_push_of_some _ e,Zbl d _ o kvs es ep h3,⟨_,Heap.get?_push_size _ rfl,rfl,by rw[hl];rfl⟩,λ b hb=>?_,q o⟩;have e:b=s1.heap.objs.size:=by simpa using hb
 subst e;exact I2.fpOk (le_refl _) (I2.hok.fresh (le_refl _))
end L2
namespace L2
open PySem PySem.Spec PyProof.Rows
noncomputable def rSortR:List V->Hp->VK->Prop:=λ xs H Q=>∃(d:Addr)(kvs:List (Key×V))(ss:List Str),xs=[.ref d]/\Rd H d (.dK kvs)/\kvs.map (·.1)=ss.map Sum.inr/\kvs.length<64 /\
 ∀(ss':List Str)(l:Addr),ss'.Perm ss->sortedS ss'=true->H l=none->Q (.ref l) (upd H l (.lst (ss'.map V.str)))
theorem Yz {X:Cx}(hc:X.calm=true):YD X (.builtin "sorted") rSortR:=by
  intro pins s σ H xs us Q I r h;obtain⟨d,kvs,ss,rfl,hd,hk,h64,q⟩:=h;obtain⟨u,rfl,rx⟩:=Zag r;cases rx;obtain⟨z,lo,vs,rel,dd⟩:=XS I.hok hd;obtain⟨ep,hat⟩:=dd.dictAt;have hln:kvs.length=vs.length:=rel.length;refine Calls.call_function_entry kind_sorted plain_sorted entry_sorted (args_sorted1 _) ?_;unfold Builtin.«sorted»;refine wpAny_bind (m:=checkCount "sorted" 1 1 _) (wpAny_pure ?_);refine wpAny_bind (PySem.W.kdu_collect (A:=X.A.in1) (PySem.W.kdl_dict (knd:=ZB X.prog X.w) (kvs:=vs) (ep:=ep) lo) (I.ok.hd hc) hat (by omega) λ h' tk acc hkp hacc=>?_);have I1:=I.kept (h':=h') (t':=tk) hkp;have hl:acc.toList.length=vs.length:=by rw[length_toList];exact hacc.1
  refine wpAny_bind (wpAny_newList ?_ (by rw[hl];omega));have hS:StrsAre acc.toList ss:=ZaG (by rw[hl,<- hln,<- length_map (f:=(·.1)) (as:=kvs),hk,length_map]) λ j u e=>by
    obtain⟨k,x,e1,e2⟩:=hacc.2 j u (by rw[<- Array.getElem?_toList];exact e);obtain⟨y,e3⟩:=Zcn rel e1;have e4:(kvs.map (·.1))[j]? = some k:=by rw[getElem?_map,e3];rfl
    rw[hk,getElem?_map]at e4;cases e5:ss[j]? with
    |none=>rw[e5]at e4;cases e4
    |some x'=>
      rw[e5]at e4;have e6:Sum.inr x'=k:=Option.some.inj e4;subst e6;rcases ZA (show XR (Sum.inr x') u=true from e2) with ⟨i,t,e7,rfl⟩|⟨y',t,e7,rfl⟩
      . cases e7
      . cases e7;exact⟨_,t,rfl,rfl⟩
  have hoL:(h'.push { cls:=.type "list",data:=.seq acc.toList.toArray }).get? h'.objs.size=some (seqObj "list" acc.toList.toArray 0):=Heap.get?_push_size _ rfl;refine wpAny_bind (wpAny_holding (wpAny_call_entry slot_list_sort ⟨_,hoL,rfl⟩ entry_list_sort (list_sort_treeK strKind_oneLt hoL hS.keysOf (λ v₁ v₂ Jd e=>keyKind_strs (by rw[<- e];exact hS)) (by rw[hl,<- hln];exact h64) λ st' a1 a2=>⟨_,rfl,?_⟩) (args_list_sort _)));obtain⟨ss',b1,b2,b3⟩:=sorted_out_str hS a1 a2;refine wpAny_pure ⟨_,rfl,?_⟩;have fr:H h'.objs.size=none:=I1.fresh;refine⟨.ref h'.objs.size,upd H h'.objs.size (.lst (ss'.map V.str)),?_,rfl,q ss' _ b2 b3 fr⟩;obtain⟨en,hen⟩:=sortedHeap_at (a:=h'.objs.size) (vs:=acc.toList) (out:=(arrOf st').map (·.2)) hoL;refine I1.laid (t':=tk) (λ b u e=>?_) (le_refl _) ⟨?_,_,en,Zbi b1,?_⟩
  . have hlt:b<h'.objs.size:=Heap.lt_size e;exact(sortedHeap_old (ne_of_lt hlt) (by rw[Heap.size_push];exact lt_succ_of_lt hlt)).trans (Heap.get?_push_of_some _ e)
  . rw[length_map,b2.length_eq,<- length_map (f:=(Sum.inr:Str->Key)) (as:=ss),<- hk,length_map];exact z
  . rw[Array.toArray_toList];exact hen
noncomputable def Y7 (ns:List Int):Int:=PySem.W.kduTot (ns.map λ n=>(PyData.none,PyData.int n))
theorem JM (n:Int)(r:List Int):Y7 (n::r)=n+Y7 r:=rfl
theorem ZbM {X:Cx}(hc:X.calm=true):YD X (.builtin "sum") (λ xs H Q=>∃(a:Addr)(ns:List Int),xs=[.ref a]/\SqL X.K H a (ns.map V.int)/\Q (.int (Y7 ns)) H):=by
  intro pins s σ H xs us Q I r h;obtain⟨a,ns,rfl,hq,q⟩:=h;obtain⟨u,rfl,rx⟩:=Zag r;cases rx;obtain⟨its,rv,pl,hz⟩:=I.list hq;have hl:=pl.isList;have hlt:a<s.heap.objs.size:=by obtain⟨_,e,_⟩:=hl;exact Heap.lt_size e
  have hln:its.length=ns.length:=by rw[<- rv.length,length_map]
  refine call_sum_walkAnyS ?_;refine wpAny_pyIter_list hl ?_;have W:=(Walks.list (prog:=X.prog) (w:=X.w) (A:=X.A.in1) (I.ok.hd hc) s.heap.objs.size a (ne_of_lt hlt) its.toArray).toS;refine⟨s.heap.objs.size,_,_,_,_,_,_,PySem.W.kduAt (ns.map λ n=>(PyData.none,PyData.int n)),rfl,W,⟨⟨_,Heap.get?_push_size _ rfl,rfl,rfl⟩,hl.push _⟩,λ b hb=>?_,λ i v hv=>?_,λ s' t' hm=>?_⟩
  . rw[Heap.size_push];rcases List.mem_cons.mp hb with e|hb
    . rw[e];exact Nat.lt_succ_self _
    . rw[List.mem_singleton.mp hb];exact lt_succ_of_lt hlt
  . have hv':its[i]? = some v:=by simpa using hv
    have hi:i<ns.length:=by rw[<- hln];exact(List.getElem?_eq_some_iff.mp hv').1
    obtain⟨u,hu,ru⟩:=rv.get (i:=i) (x:=.int ns[i]) (by rw[getElem?_map,getElem?_eq_getElem hi];rfl);rw[hv']at hu;cases hu;obtain⟨t,rfl⟩:=ru;refine⟨t,?_⟩;have e:PySem.W.kduAt (ns.map λ n=>(PyData.none,PyData.int n)) i=ns[i]:=by
      unfold PySem.W.kduAt;rw[getElem?_map,getElem?_eq_getElem hi];rfl
    rw[e]
  . have kp:∀ b o,s.heap.get? b=some o->s'.heap.get? b=some o:=λ b o e=>
      hm.heap b o (λ hI=>absurd (Heap.lt_size e) (by rw[List.mem_singleton.mp hI];exact lt_irrefl _)) (Heap.get?_push_of_some _ e)
    have et:preSum (PySem.W.kduAt (ns.map λ n=>(PyData.none,PyData.int n))) its.toArray.size=Y7 ns:=by
      have z:=PySem.W.kdu_tot (ns.map λ n=>(PyData.none,PyData.int n));rw[length_map]at z;rw[size_toArray,hln];exact z
    rw[Moved.eq_with hm];refine⟨.int (Y7 ns),H,?_,⟨t',by rw[<- et]⟩,q⟩;exact I.kept (h':=s'.heap) (t':=s'.toks) kp
end L2
namespace L2
open PySem PySem.Spec PyProof.Rows
noncomputable def vl (n d:Int):Rat:=(n:Rat) / (d:Rat)
theorem rne {d:Int}(h:0<d):(d:Rat)≠0:=λ z=>by
 have:((d:Int):Rat)=((0:Int):Rat):=z;rw[Rat.intCast_inj]at this;omega
theorem ZbN {n d a b:Int}(hd:0<d)(hb:0<b):vl (n * b+a * d) (d * b)=vl n d+vl a b:=by
 have h1:=rne hd;have h2:=rne hb;unfold vl;rw[Rat.intCast_add,Rat.intCast_mul,Rat.intCast_mul,Rat.intCast_mul]
 grind
theorem vl_mul {n d a b:Int}(hd:0<d)(hb:0<b):vl (n * a) (d * b)=vl n d * vl a b:=by
 have h1:=rne hd;have h2:=rne hb;unfold vl;rw[Rat.intCast_mul,Rat.intCast_mul]
 grind
theorem Zaf {x y x' y':Int}(hy:0<y)(hy':0<y'):vl x y=vl x' y'↔x * y'=x' * y:=by
  have h1:=rne hy;have h2:=rne hy';unfold vl;constructor
  . intro h;have z:(x:Rat) * (y':Rat)=(x':Rat) * (y:Rat):=by grind
    rw[<- Rat.intCast_mul,<- Rat.intCast_mul,Rat.intCast_inj]at z;exact z
  . intro h;have z:(x:Rat) * (y':Rat)=(x':Rat) * (y:Rat):=by rw[<- Rat.intCast_mul,<- Rat.intCast_mul,h]
    grind
theorem Xm (d:Int):vl 0 d=0:=by
 unfold vl;rw[show((0:Int):Rat)=0 from rfl,Rat.div_def,Rat.zero_mul]
noncomputable def ZD:List En->Rat
  |[]=>0
  |e::r=>vl e.2.1 e.2.2+ZD r
theorem JA {l l':List En}(h:l.Perm l'):ZD l=ZD l':=by
  induction h with
  |nil=>rfl
  |cons x _ ih=>show _+_=_+_;rw[ih]
  |swap x y l=>show _+(_+_)=_+(_+_);grind
  |trans _ _ i1 i2=>exact i1.trans i2
theorem ZbU (l l':List En):ZD (l++l')=ZD l+ZD l':=by
  induction l with
  |nil=>show ZD l'=0+ZD l';grind
  |cons e r ih=>show vl _ _+ZD (r++l')=vl _ _+ZD r+ZD l';rw[ih];grind
theorem ZcG (l:List En):ZD (l.filter λ e=>decide (e.2.1≠0))=ZD l:=by
  induction l with
  |nil=>rfl
  |cons e r ih=>
    by_cases h:e.2.1=0
    . rw[List.filter_cons_of_neg (by simp[h]),ih];show ZD r=vl e.2.1 e.2.2+ZD r;rw[h,Xm]
      grind
    . rw[List.filter_cons_of_pos (by simp[h])];show vl _ _+_=vl _ _+_;rw[ih]
theorem nd_es {es:List En}(h:(Zr es).Nodup):es.Nodup:=by
 unfold Zr at h;rw[List.nodup_iff_pairwise_ne,List.pairwise_map]at h;exact h.imp λ z e=>z (by rw[e])
theorem ZbT {es es':List En}(nd:(Zr es).Nodup)(hc:Can es es'):ZD es'=ZD es:=by
 rw[<- ZcG es];refine JA ((List.perm_ext_iff_of_nodup (nd_es hc.keys_nd) ((nd_es nd).filter _)).mpr λ a=>?_);rw[hc.2.1 a,List.mem_filter];simp
theorem ZO (x:En)(r:List En)(k:Str):look (x::r) k=if x.1=k then x.2 else look r k:=by
  unfold look fnd;rw[find?_cons]
  by_cases h:x.1=k
  . rw[decide_eq_true h,if_pos h]
  . rw[decide_eq_false h,if_neg h]
theorem ZcO {x:En}{r:List En}{k:Str}{n d:Int}(h:x.1≠k):Ye (x::r) k n d=x::Ye r k n d:=by
 unfold Ye;rw[any_cons,decide_eq_false h,Bool.false_or,map_cons,if_neg h];split <;> rfl
theorem ZcP {x:En}{r:List En}{k:Str}{n d:Int}(h:x.1=k)(hk:k∉Zr r):Ye (x::r) k n d=(k,n,d)::r:=by
 unfold Ye;rw[any_cons,decide_eq_true h,Bool.true_or,if_pos rfl,map_cons,if_pos h];congr 1
 conv=>rhs;rw[<- List.map_id r]
 refine map_congr_left λ y hy=>?_;have hn:¬ y.1=k:=λ z=>hk (by rw[<- z];exact List.mem_map.mpr ⟨y,hy,rfl⟩);rw[if_neg hn];rfl
theorem ZbS {es:List En}(nd:(Zr es).Nodup)(k:Str)(n d:Int):ZD (Ye es k n d)=ZD es - vl (look es k).1 (look es k).2+vl n d:=by
  induction es with
  |nil=>
    show vl n d+0=0 - vl 0 1+vl n d;rw[Xm]
    grind
  |cons x r ih=>
    have nd':x.1∉Zr r/\(Zr r).Nodup:=by simpa [Zr] using nd
    by_cases hx:x.1=k
    . rw[ZcP hx (hx▸nd'.1),ZO,if_pos hx];show vl n d+ZD r=vl x.2.1 x.2.2+ZD r - vl x.2.1 x.2.2+vl n d
      grind
    . rw[ZcO hx,ZO,if_neg hx];show vl x.2.1 x.2.2+ZD (Ye r k n d)=vl x.2.1 x.2.2+ZD r - _+_;rw[ih nd'.2]
      grind
end L2
namespace L2
open PySem PySem.Spec PyProof.Rows
section
variable {X:Cx}
end
end L2
namespace L2
open PySem PySem.Spec PyProof.Rows PySem.StrLaws
noncomputable def dot:Str:="."
noncomputable def inR (a b c:Nat):Bool:=decide (a<=c) && decide (c<=b)
noncomputable def gw (x:Str):Bool:=decide (1<=x.length) && decide (x.length<=8) && x.cps.toList.all (inR 97 122) && !(decide (x="crown") || decide (x="kids"))
noncomputable def gn (x:Str):Bool:=decide (1<=x.length) && decide (x.length<=2) && x.cps.toList.all (inR 48 57) && !decide (x.cps.toList.head? = some 48)
noncomputable def iv (x:Str):Int:=(PySem.intText? x).getD 0
noncomputable def pcs (x:Str):List Str:=Txt.split x dot
noncomputable def wd (x:Str):Str:=(pcs x).headD ""
noncomputable def nms (x:Str):List Str:=(pcs x).tail
noncomputable def pok (x:Str):Bool:=gw (wd x) && decide ((nms x).length<=5) && (nms x).all gn
noncomputable def up (x:Str):Str:=match Builtin.Str.lastOccurrence x dot 0 x.length with|some i=>Builtin.Str.strSub x 0 i|none=>Str.empty
end L2
namespace L2
open PySem PySem.Spec PyProof.Rows
section
variable {X:Cx}
end
end L2
namespace L2
open PySem PySem.Spec
noncomputable def yrs (bs:List (Str×Int)):List (Key×V):=bs.map λ p=>((Sum.inr p.1:Key),V.int p.2)
noncomputable def yr (bs:List (Str×Int))(n:Str):Option Int:=(bs.find? λ p=>decide (p.1=n)).map (·.2)
noncomputable def has (bs:List (Str×Int))(n:Str):Bool:=(yr bs n).isSome
noncomputable def kid (n:Str)(i:Nat):Str:=n++dot++(toString ((i:Int)+1):Str)
noncomputable def kidV (n:Str)(c:Nat):List V:=(List.range c).map λ i=>V.str (kid n i)
noncomputable def brs (ws:List (Str×Addr×Nat)):List (Key×V):=ws.map λ p=>((Sum.inr p.1:Key),V.ref p.2.1)
structure Book (C:Addr)(H:Hp)(b d1 d2 d3:Addr)(bs ds:List (Str×Int))(ws:List (Str×Addr×Nat)):Prop where
  obj:∃ dx,H b=some (.ins C dx [("births", .ref d1),("deaths", .ref d2),("broods", .ref d3)])
  h1:H d1=some (.dK (yrs bs))
  h2:H d2=some (.dK (yrs ds))
  h3:H d3=some (.dK (brs ws))
  n12:d1≠d2
  n13:d1≠d3
  n23:d2≠d3
  kids:∀ p∈ws,H p.2.1=some (.lst (kidV p.1 p.2.2))
  nod:(ws.map λ p=>p.2.1).Nodup
noncomputable def Keep (xs:List Addr)(H H':Hp):Prop:=(∀ a o,a∉xs->H a=some o->H' a=some o)/\∀ a,H' a=none->H a=none
end L2
namespace L2
open PySem PySem.Spec
end L2
namespace L2
open PySem PySem.Spec
structure Mdl (H:Hp)(m c e1 e2 e3:Addr)(y:Int)(bs ds cs:List (Str×Int)):Prop where
  tup:H m=some (.tup [.ref c, .ref e1, .ref e2, .ref e3])
  clk:H c=some (.lst [.int y])
  h1:H e1=some (.dK (yrs bs))
  h2:H e2=some (.dK (yrs ds))
  h3:H e3=some (.dK (yrs cs))
  n12:e1≠e2
  n13:e1≠e3
  n23:e2≠e3
end L2
namespace L2
open PySem PySem.Spec PyProof.Rows PySem.StrLaws
noncomputable abbrev ts (i:Nat):Str:=(toString ((i:Nat):Int):Str)
noncomputable def dots (x:Str):Nat:=(Builtin.Str.occurrences x dot 0 x.length (x.length+1)).length
end L2
namespace L2
open PySem PySem.Spec PyProof.Rows
theorem Zdd (n:Str):has [] n=false:=rfl
noncomputable def nk (bs:List (Str×Int))(n:Str):Nat:=(List.range 1000).findIdx λ i => !has bs (kid n i)
theorem nk_of {bs:List (Str×Int)}{n:Str}{k:Nat}(hk:k<1000)(h1:∀ i,i<k->has bs (kid n i)=true)(h2:has bs (kid n k)=false):nk bs n=k:=by
  unfold nk;refine(List.findIdx_eq (by rw[List.length_range];exact hk)).mpr ⟨?_,λ j hj=>?_⟩
  . rw[List.getElem_range,h2];rfl
  . rw[List.getElem_range,h1 j hj];rfl
structure Wf (bs ds:List (Str×Int)):Prop where
  nod:(bs.map (·.1)).Nodup
  sub:∀ n,has ds n=true->has bs n=true
  wrt:∀ n,has bs n=true->pok n=true
  par:∀ n i,has bs (kid n i)=true->has bs n=true
  cnt:∀ n i,i<1000->(has bs (kid n i)=true↔i<nk bs n)
  lim:bs.length<1000
  few:∀ n,nk bs n<=bs.length
theorem Wf.nil:Wf [] [] where
 nod:=by simp
 sub:=λ n h=>by cases h
 wrt:=λ n h=>by cases h
 par:=λ n i h=>by cases h
 cnt:=λ n i _=>by rw[nk_of (k:=0) (by decide) (λ i h=>by omega) rfl];simp[Zdd]
 lim:=by decide
 few:=λ n=>by rw[nk_of (k:=0) (by decide) (λ i h=>by omega) rfl];exact zero_le _
theorem Zx.kp {H H':Hp}(s:Zx H H'):Keep [] H H':=⟨λ a o _ e=>s a o e,λ a e=>s.free e⟩
noncomputable def Grow (H:Hp)(R R':List Addr):Prop:=∀ a∈R',a∈R\/H a=none
noncomputable def Live (H:Hp)(R:List Addr):Prop:=∀ a∈R,∃ o,H a=some o
noncomputable def Dj (R S:List Addr):Prop:=∀ a∈R,a∉S
theorem Dj.symm {R S:List Addr}(h:Dj R S):Dj S R:=λ a ha hb=>h a hb ha
noncomputable def foot (b d1 d2 d3:Addr)(ws:List (Str×Addr×Nat)):List Addr:=b::d1::d2::d3::ws.map (·.2.1)
structure LivesAt (C:Addr)(H:Hp)(b:Addr)(bs ds:List (Str×Int))(R:List Addr):Prop where
  ex:∃ d1 d2 d3 ws,Book C H b d1 d2 d3 bs ds ws/\ws.map (·.1)=bs.map (·.1)/\(∀ p∈ws,p.2.2=nk bs p.1)/\R=foot b d1 d2 d3 ws
  wf:Wf bs ds
noncomputable def mfoot (m c e1 e2 e3:Addr):List Addr:=[m,c,e1,e2,e3]
structure MdlAt (H:Hp)(m:Addr)(y:Int)(bs ds cs:List (Str×Int))(R:List Addr):Prop where
  ex:∃ c e1 e2 e3,Mdl H m c e1 e2 e3 y bs ds cs/\R=mfoot m c e1 e2 e3
end L2
namespace L2
open PySem PySem.Spec
set_option genInjectivity false in
set_option genSizeOfSpec false in
structure Ga where
  NOUGHT:Addr:=0
end L2
namespace L2
open PySem PySem.Spec PyProof.Rows
section
variable {X:Cx}
noncomputable def J1 (K:Frag):List V->Hp->VK->Prop:=λ xs H Q=>∃ p ys,xs=[.ref p]/\(SqL K H p ys\/SqT K H p ys)/\∀ l,H l=none->Q (.ref l) (upd H l (.lst ys))
theorem Xl:YD X (.type "list") (J1 X.K):=Zac
end
end L2
namespace L2
open PySem PySem.Spec PyProof.Rows
end L2
set_option maxHeartbeats 0
namespace L2
open PySem PySem.Spec
theorem J9 {names:List (Str×NameKind)}{cl:List (Str×Addr)}(h:names.all (λ p => !(p.2 == .cell || p.2 == .free) || (cl.map (·.1)).contains p.1)=true):∀ x,(names.lookup x=some .cell\/names.lookup x=some .free)->∃ c,cl.lookup x=some c:=by
  intro x hx;have key:∀ k,names.lookup x=some k->(k == NameKind.cell || k == NameKind.free)=true->∃ c,cl.lookup x=some c:=λ k e hk=>by
    have m:=PySem.mem_of_lookup e;have q:=List.all_eq_true.mp h _ m;simp only[hk,Bool.not_true,Bool.false_or]at q;have q':x∈cl.map (·.1):=by simpa using q
    clear q h m e
    induction cl with
    |nil=>simp at q'
    |cons p r ih=>
      obtain⟨y,c⟩:=p;rw[List.lookup_cons];cases z:x == y with
      |true=>exact⟨c,rfl⟩
      |false=>
        refine ih ?_;rcases List.mem_cons.mp (show x∈y::r.map (·.1) from q') with e|e
        . rw[e]at z;simp at z
        . exact e
  rcases hx with e|e
  . exact key _ e rfl
  . exact key _ e rfl
theorem ZbR {σ:St}{H:Hp}{A B:Hp->Prop}(h:A H):tAll σ H (λ b H3=>if b=true then A H3 else B H3):=by
 show if true=true then A H else B H
 exact iteT h
noncomputable def abc:Str:="abcdefghijklmnopqrstuvwxyz"
theorem abc_at {i:Int}(h0:0<=i)(h1:i<26):∃ c:Nat,atI abc.cps.toList i=some c/\PyData.strOk ⟨#[c]⟩=true:=by
 have hl:abc.cps.toList.length=26:=by decide +kernel
 have hi:i.toNat<abc.cps.toList.length:=by omega
 have e:atI abc.cps.toList ((i.toNat:Nat):Int)=some (abc.cps.toList[i.toNat]):=X1 (getElem?_eq_getElem hi);rw[show((i.toNat:Nat):Int)=i by omega]at e;refine⟨_,e,?_⟩;have a:abc.cps.toList.all (λ c=>decide (c<0x110000))=true:=by decide +kernel
 have b:=List.all_eq_true.mp a _ (getElem_mem hi);unfold PyData.strOk;simpa using b
theorem Zca {a b:Str}(ha:PyData.strOk a=true)(hb:PyData.strOk b=true):PyData.strOk (a++b)=true:=by
 unfold PyData.strOk at *;show(a.cps++b.cps).all _=true;rw[Array.all_append,ha,hb];rfl
theorem Zc8 (a b:Str):(a++b).length=a.length+b.length:=by
 show(a.cps++b.cps).size=_;rw[Array.size_append];rfl
theorem ok_sl {z:Str}{l u:Option Int}(h:PyData.strOk z=true):PyData.strOk (Txt.slice z l u)=true:=by
  unfold PyData.strOk at *;rw[Array.all_eq_true_iff_forall_mem]at h ⊢;intro x hx;refine h x ?_;unfold Txt.slice at hx;split at hx
  . exact hx
  . rw[List.mem_toArray,List.mem_filterMap]at hx;obtain⟨j,_,e⟩:=hx;exact Array.mem_of_getElem? e
theorem Zdj {X:Cx}{st:List Stmt}{t t':TS}(h:PSs X st t)(i:∀ D σ H,t' D σ H->t D σ H):PSs X st t':=⟨λ pins s σ H D I q=>h pins s σ H D I (i D σ H q)⟩
theorem Zc7 {n:Nat}(h:n<=500):n<=sizeLine:=le_of_lt (Zp (by omega))
open PySem PySem.Spec
end L2
namespace L2
open PySem PySem.Spec
inductive Deed where
  | arrive (w:Str) (a:Int)
  | birth (n:Str)
  | death (n:Str)
  | comes (w:Str)
  | years (k:Int)
noncomputable def Deed.vals:Deed->List V
  |.arrive w a=>[.str "arrive", .str w, .int a]
  |.birth n=>[.str "birth", .str n]
  |.death n=>[.str "death", .str n]
  |.comes w=>[.str "comes", .str w]
  |.years k=>[.str "years", .int k]
structure Mo where
  y:Int
  bs:List (Str×Int)
  ds:List (Str×Int)
  cs:List (Str×Int)
noncomputable def Mo.step (S:Mo):Deed->Mo
  |.arrive w a=>{ S with bs:=S.bs++[(w,S.y - a)] }
  |.birth n=>{ S with bs:=S.bs++[(kid n (nk S.bs n),S.y)] }
  |.death n=>{ S with ds:=S.ds++[(n,S.y)] }
  |.comes w=>{ S with cs:=S.cs++[(w,S.y)] }
  |.years k=>{ S with y:=S.y+k }
noncomputable def Mo.good (S:Mo)(far:Int):Deed->Prop
  |.arrive w a=>gw w=true/\has S.bs w=false/\0<=a/\a<=120
  |.birth n=>has S.bs n=true/\has S.ds n=false/\dots n<5
  |.death n=>has S.bs n=true/\has S.ds n=false
  |.comes w=>gw w=true/\has S.cs w=false
  |.years k=>1<=k/\k<=far
structure Mo.Ok (S:Mo)(k:Nat):Prop where
  wf:Wf S.bs S.ds
  cw:∀ w,has S.cs w=true->gw w=true
  lb:S.bs.length<=k
  ld:S.ds.length<=k
  lc:S.cs.length<=k
noncomputable def MoAt (H:Hp)(m:Addr)(S:Mo)(R:List Addr):Prop:=MdlAt H m S.y S.bs S.ds S.cs R
noncomputable def mo0 (y:Int):Mo:=⟨y,[],[],[]⟩
structure DeedsAt (H:Hp)(l:Addr)(ds:List Deed)(ps:List Addr):Prop where
  lst:H l=some (.lst (ps.map V.ref))
  len:ps.length=ds.length
  at_:∀(i:Nat)(p:Addr)(d:Deed),ps[i]? = some p->ds[i]? = some d->H p=some (.tup d.vals)
open PySem PySem.Spec
section
variable {H:Hp}{m c e1 e2 e3 p:Addr}{y:Int}{bs ds cs:List (Str×Int)}{R:List Addr}{xs:List V}
end
end L2
namespace L2
open PySem PySem.Spec
structure First (was:List (Str×Int)):Prop where
  nod:(was.map (·.1)).Nodup
  len:was.length<=3
  ok:∀ p∈was,gw p.1=true/\0<=p.2/\p.2<=120
noncomputable def arr (p:Str×Int):Deed:=.arrive p.1 p.2
open PySem PySem.Spec
open PySem PySem.Spec
section
variable {H H2:Hp}{x dx C:Addr}
end
theorem Mo.Ok.mono {S:Mo}{k j:Nat}(O:S.Ok k)(h:k<=j):S.Ok j:=⟨O.wf,O.cw,le_trans O.lb h,le_trans O.ld h,le_trans O.lc h⟩
open PySem PySem.Spec
end L2
namespace L2
open PySem PySem.Spec PyProof.Rows PySem.W
structure RoomU (k:Nat)(A:Around):Prop where
  dp:A.depth+3 * k+5<recursionLimit
  un:A.units+16 * k+200<cLine
section
variable {X:Cx}
end
end L2
namespace L2
open PySem PySem.Spec
section
variable {K:Frag}{caps:List (Str×Nat)}{tt:TT}{te:TE}{σ:St}{H H1:Hp}{Q:VK}{a d:Addr}{xs:List V}{kvs:List (Key×V)}{o:Obj}
end
open PySem PySem.Spec
open PySem PySem.Spec
section
variable {K:Frag}{caps:List (Str×Nat)}{tl te:TE}{tt:TT}{σ:St}{H:Hp}{Q:VK}{d:Addr}{kvs:List (Key×V)}
end
end L2
namespace L2
open PySem PySem.Spec PyProof.Rows
structure Two (K:Frag)(H:Hp)(p q:Addr)(a b c d:Int):Prop where
  h1:SqT K H p [.int a, .int b]
  h2:SqT K H q [.int c, .int d]
  a0:0<=a
  a1:a<2 ^ 1900
  b0:0<b
  b1:b<2 ^ 1900
  c0:0<=c
  c1:c<2 ^ 1900
  d0:0<d
  d1:d<2 ^ 1900
noncomputable def Jy (n d:Int):List V:=[.int (n / Sh.G n d), .int (d / Sh.G n d)]
theorem Two.bd {K:Frag}{H:Hp}{p q:Addr}{a b c d:Int}(t:Two K H p q a b c d):0<b * d/\b * d<2 ^ 3800:=⟨Int.mul_pos t.b0 t.d0,(Z2 (m:=1900) (n:=1900) (Int.le_of_lt t.b0) t.b1 (Int.le_of_lt t.d0) t.d1).2⟩
theorem Two.ad {K:Frag}{H:Hp}{p q:Addr}{a b c d:Int}(t:Two K H p q a b c d):0<=a * d/\a * d<2 ^ 3800:=Z2 (m:=1900) (n:=1900) t.a0 t.a1 (Int.le_of_lt t.d0) t.d1
theorem Two.cb {K:Frag}{H:Hp}{p q:Addr}{a b c d:Int}(t:Two K H p q a b c d):0<=c * b/\c * b<2 ^ 3800:=Z2 (m:=1900) (n:=1900) t.c0 t.c1 (Int.le_of_lt t.b0) t.b1
theorem Two.ac {K:Frag}{H:Hp}{p q:Addr}{a b c d:Int}(t:Two K H p q a b c d):0<=a * c/\a * c<2 ^ 3800:=Z2 (m:=1900) (n:=1900) t.a0 t.a1 t.c0 t.c1
theorem Two.ba {K:Frag}{H:Hp}{p q:Addr}{a b c d:Int}(t:Two K H p q a b c d):a.natAbs<BIG:=Yh t.a0 t.a1 (by decide)
theorem Two.bb {K:Frag}{H:Hp}{p q:Addr}{a b c d:Int}(t:Two K H p q a b c d):b.natAbs<BIG:=Yh (Int.le_of_lt t.b0) t.b1 (by decide)
theorem Two.bc {K:Frag}{H:Hp}{p q:Addr}{a b c d:Int}(t:Two K H p q a b c d):c.natAbs<BIG:=Yh t.c0 t.c1 (by decide)
theorem Two.bdd {K:Frag}{H:Hp}{p q:Addr}{a b c d:Int}(t:Two K H p q a b c d):d.natAbs<BIG:=Yh (Int.le_of_lt t.d0) t.d1 (by decide)
theorem Two.bBD {K:Frag}{H:Hp}{p q:Addr}{a b c d:Int}(t:Two K H p q a b c d):(b * d).natAbs<BIG:=Yh (Int.le_of_lt t.bd.1) t.bd.2 (by decide)
theorem JW {x:Int}{m n:Nat}(h:x<2 ^ m)(hm:m<=n):x<2 ^ n:=by
  have q:(2:Int) ^ m<=2 ^ n:=by
    have:=Nat.pow_le_pow_right (show 0<2 by decide) hm;have q2:((2 ^ m:Nat):Int)<=((2 ^ n:Nat):Int):=by omega
    rw[Int.natCast_pow,Int.natCast_pow]at q2;exact q2
  omega
noncomputable def OkE (e:En):Prop:=YX e/\e.2.1<2 ^ 10/\e.2.2<800/\PyData.strOk e.1=true
theorem Za4 {k:Str}{n d:Int}(h:YX (k,n,d)):(!PyData.eqv (shD n d) (shD 0 1))=true↔n≠0:=by
  rw[Zcw];constructor
  . intro z e;subst e;have:=Sh.G_zero1 h.2.1 h.2.2;have e2:d=1:=this;subst e2;revert z
    decide
  . intro z;have:(n == 0)=false:=by simpa using z
    rw[this];rfl
theorem XH {es:List En}{k:Str}(h:k∉Zr es):look es k=(0,1):=by
  unfold look fnd;cases z:es.find? λ e=>decide (e.1=k) with
  |none=>rfl
  |some w=>exact absurd (List.mem_map.mpr ⟨w,List.mem_of_find?_eq_some z,by simpa using List.find?_some z⟩) h
noncomputable def ShB (n d:Int):Prop:=0<=n/\n<2 ^ 1900/\0<d/\d<2 ^ 1900
theorem X2 {K:Frag}{H:Hp}{p q:Addr}{a b c d:Int}(h1:SqT K H p [.int a, .int b])(h2:SqT K H q [.int c, .int d])(x:ShB a b)(y:ShB c d):Two K H p q a b c d:=⟨h1,h2,x.1,x.2.1,x.2.2.1,x.2.2.2,y.1,y.2.1,y.2.2.1,y.2.2.2⟩
noncomputable def lo1 (x y:Int):Int:=x / Sh.G x y
noncomputable def lo2 (x y:Int):Int:=y / Sh.G x y
theorem Y4 {k:Str}{x y:Int}(hx:0<=x)(hy:0<y):YX (k,lo1 x y,lo2 x y):=by
 have L:=Sh.low hx hy;exact⟨L.q0,L.r0,L.g⟩
theorem Zaw {ws:Ws}{es:List En}(e:ws.map (·.1)=es):(ws.map λ w=>((Sum.inr w.1.1:Key),V.ref w.2)).map (·.1)=(Zr es).map Sum.inr:=by
 subst e;unfold Zr;simp
theorem XI {ws:Ws}{es:List En}(e:ws.map (·.1)=es):(ws.map λ w=>((Sum.inr w.1.1:Key),V.ref w.2)).length=es.length:=by
 subst e;simp
theorem Zde {i:Int}(h0:0<=i)(h1:i<4):∃ y:Str,atI [V.str "",V.str ".1",V.str ".10",V.str ".2"] i=some (.str y)/\y.length<=3/\PyData.strOk y=true:=by
  rcases(show i=0\/i=1\/i=2\/i=3 by omega) with rfl|rfl|rfl|rfl
  . exact⟨_,rfl,by decide +kernel,by decide +kernel⟩
  . exact⟨_,rfl,by decide +kernel,by decide +kernel⟩
  . exact⟨_,rfl,by decide +kernel,by decide +kernel⟩
  . exact⟨_,rfl,by decide +kernel,by decide +kernel⟩
theorem Zci {w x y:Int}(hw:0<w)(hx:0<=x)(hy:0<y):lo1 (w * x) (w * y)=lo1 x y/\lo2 (w * x) (w * y)=lo2 x y:=Sh.lq_mul hw hx hy
theorem Zcb {es:List En}(h:∀ e∈es,PyData.strOk e.1=true):¬ ((if true=true then !PyData.eqv (Zav es) (Zav es) else PyData.eqv (Zav es) (Zav es))=true):=by
 rw[if_pos rfl,Zaa h]
 decide
theorem no_ne2 (n d:Int):¬ ((if true=true then !PyData.eqv (shD n d) (shD n d) else PyData.eqv (shD n d) (shD n d))=true):=by
 rw[if_pos rfl,Zcw];simp
theorem Zcl {H:Hp}{l f r:Addr}{es:List En}{ys:List V}{o u:HO}(h:Led H l es)(hr:H r=none)(hf:H f=some (.lst ys))(hn:l≠f):Led (upd (upd H r o) f u) l es:=
 (h.same (Zg hr o)).at1 (by rw[Zh (Zj hf hr)];exact hf) hn λ _ z=>by cases z
theorem Zcf {es:List En}(h:es.Pairwise (λ a b=>ltS a.1 b.1)):(Zr es).Nodup:=by
 unfold Zr;rw[List.nodup_iff_pairwise_ne,List.pairwise_map];exact h.imp λ z e=>by rw[e]at z;exact Z0 _ z
theorem Zck {x y x' y':Int}(hx:0<=x)(hy:0<y)(hx':0<=x')(hy':0<y')(h:x * y'=x' * y):lo1 x y=lo1 x' y'/\lo2 x y=lo2 x' y':=by
 have a:=Zci hy' hx hy;have b:=Zci hy hx' hy';rw[show y' * x=y * x' by rw[Int.mul_comm,h,Int.mul_comm],show y' * y=y * y' by rw[Int.mul_comm]]at a;exact⟨a.1.symm.trans b.1,a.2.symm.trans b.2⟩
noncomputable def ZW (es:List En)(e:En):List En:=Ye es e.1 (lo1 ((look es e.1).1 * e.2.2+e.2.1 * (look es e.1).2) ((look es e.1).2 * e.2.2)) (lo2 ((look es e.1).1 * e.2.2+e.2.1 * (look es e.1).2) ((look es e.1).2 * e.2.2))
theorem Zcj {x y:Int}(hx:0<=x)(hy:0<y):lo1 x y<=x/\lo2 x y<=y:=⟨Sh.div_le hx (Sh.G_pos (a:=x) hy),Sh.div_le (Int.le_of_lt hy) (Sh.G_pos (a:=x) hy)⟩
theorem Zdh {x y:Int}{k:Nat}(hx:x<2 ^ k)(hy:y<2 ^ k):x+y<2 ^ (k+1):=by
 rw[Int.pow_succ];omega
noncomputable def BK (k:Nat)(n d:Int):Prop:=0<=n/\n<2 ^ k/\0<d/\d<2 ^ k
theorem BK.up {k j:Nat}{n d:Int}(h:BK k n d)(hj:k<=j):BK j n d:=⟨h.1,JW h.2.1 hj,h.2.2.1,JW h.2.2.2 hj⟩
theorem BK.add {k j:Nat}{n d a b:Int}(h:BK k n d)(g:BK j a b):0<=n * b+a * d/\0<d * b/\BK (k+j+1) (lo1 (n * b+a * d) (d * b)) (lo2 (n * b+a * d) (d * b)):=by
 obtain⟨n0,n1,d0,d1⟩:=h;obtain⟨a0,a1,b0,b1⟩:=g;have m1:=Z2 n0 n1 (Int.le_of_lt b0) b1;have m2:=Z2 a0 a1 (Int.le_of_lt d0) d1;have m3:=Z2 (Int.le_of_lt d0) d1 (Int.le_of_lt b0) b1;have x0:0<=n * b+a * d:=Int.add_nonneg m1.1 m2.1;have y0:0<d * b:=Int.mul_pos d0 b0;obtain⟨l1,l2⟩:=Zcj x0 y0;have N:=Y4 (k:="") x0 y0;exact⟨x0,y0,N.1,Int.lt_of_le_of_lt l1 (Zdh m1.2 (by rw[Nat.add_comm];exact m2.2)),N.2.1,Int.lt_of_le_of_lt l2 (JW m3.2 (by omega))⟩
theorem BK.mul {k j:Nat}{n d a b:Int}(h:BK k n d)(g:BK j a b):0<=n * a/\0<d * b/\BK (k+j) (lo1 (n * a) (d * b)) (lo2 (n * a) (d * b)):=by
 obtain⟨n0,n1,d0,d1⟩:=h;obtain⟨a0,a1,b0,b1⟩:=g;have m1:=Z2 n0 n1 a0 a1;have m3:=Z2 (Int.le_of_lt d0) d1 (Int.le_of_lt b0) b1;have y0:0<d * b:=Int.mul_pos d0 b0;obtain⟨l1,l2⟩:=Zcj m1.1 y0;have N:=Y4 (k:="") m1.1 y0;exact⟨m1.1,y0,N.1,Int.lt_of_le_of_lt l1 m1.2,N.2.1,Int.lt_of_le_of_lt l2 m3.2⟩
theorem BK.sh {k:Nat}{n d:Int}(h:BK k n d)(hk:k<=1900):ShB n d:=h.up hk
theorem ZaU (k:Nat)(hk:1<=k):BK k 0 1:=⟨by decide,Int.pow_pos (by decide),by decide,JW (m:=1) (by decide) hk⟩
theorem ZaX {x y:Int}(hx:0<=x)(hy:0<y):vl (lo1 x y) (lo2 x y)=vl x y:=by
 have L:=Sh.low hx hy;exact(Zaf L.r0 hy).mpr L.eq
theorem XZ {n d:Int}(h:Sh.G n d=1):lo1 n d=n/\lo2 n d=d:=by
 unfold lo1 lo2;rw[h];exact⟨Int.ediv_one _,Int.ediv_one _⟩
theorem vl_inj {n d a b:Int}(n0:0<=n)(d0:0<d)(g:Sh.G n d=1)(a0:0<=a)(b0:0<b)(g':Sh.G a b=1)(h:vl n d=vl a b):n=a/\d=b:=by
 have c:=Zck n0 d0 a0 b0 ((Zaf d0 b0).mp h);rw[(XZ g).1,(XZ g).2,(XZ g').1,(XZ g').2]at c;exact c
noncomputable def PB (c:Nat)(es:List En):Prop:=(∀ e∈es,YX e/\BK (10+18 * c) e.2.1 e.2.2)/\(Zr es).Nodup/\es.length<=7+c/\∀ e∈es,PyData.strOk e.1=true
theorem PB.look {c:Nat}{es:List En}(h:PB c es)(k:Str):BK (10+18 * c) (look es k).1 (look es k).2:=by
  by_cases hk:k∈Zr es
  . exact(h.1 _ (Yl hk)).2
  . rw[XH hk];exact ZaU _ (by omega)
noncomputable def Ent (e:En):Prop:=BK 17 e.2.1 e.2.2/\PyData.strOk e.1=true
theorem PB.step {c:Nat}{es:List En}{e:En}(h:PB c es)(he:Ent e):PB (c+1) (ZW es e):=by
  obtain⟨x0,y0,b⟩:=(h.look e.1).add he.1;refine⟨λ x hx=>?_,Za5 h.2.1,le_trans Zau (by have:=h.2.2.1;omega),λ x hx=>?_⟩
  . rcases Jn hx with rfl|hx
    . exact⟨Y4 x0 y0,b.up (by omega)⟩
    . exact⟨(h.1 x hx).1,(h.1 x hx).2.up (by omega)⟩
  . rcases Jn hx with rfl|hx
    . exact he.2
    . exact h.2.2.2 x hx
theorem PB.folds {l:List En}:∀ {c:Nat} {es:List En},PB c es->(∀ e∈l,Ent e)->PB (c+l.length) (l.foldl ZW es):=by
  induction l with
  |nil=>intro c es h _;exact h
  |cons e r ih=>
    intro c es h hl;have z:=ih (h.step (hl e (mem_cons_self ..))) λ x hx=>hl x (mem_cons_of_mem _ hx);rw[length_cons,show c+(r.length+1)=c+1+r.length by omega];exact z
theorem ZcF {c:Nat}{es:List En}{e:En}(h:PB c es)(he:Ent e):ZD (ZW es e)=ZD es+vl e.2.1 e.2.2:=by
 obtain⟨x0,y0,b⟩:=(h.look e.1).add he.1;unfold ZW;rw[ZbS h.2.1,ZaX x0 y0,ZbN (h.look e.1).2.2.1 he.1.2.2.1]
 grind
theorem Zbm {l:List En}:∀ {c:Nat} {es:List En},PB c es->(∀ e∈l,Ent e)->ZD (l.foldl ZW es)=ZD es+ZD l:=by
  induction l with
  |nil=>intro c es _ _;show ZD es=ZD es+0;grind
  |cons e r ih=>
    intro c es h hl;have he:=hl e (mem_cons_self ..);rw[List.foldl_cons,ih (h.step he) λ x hx=>hl x (mem_cons_of_mem _ hx),ZcF h he];show _=ZD es+(vl e.2.1 e.2.2+ZD r)
    grind
noncomputable def pt (s:Int×Int)(e:En):En:=(e.1,lo1 (s.1 * e.2.1) (s.2 * e.2.2),lo2 (s.1 * e.2.1) (s.2 * e.2.2))
noncomputable def TkE (e:En):Prop:=YX e/\e.2.1≠0/\BK 7 e.2.1 e.2.2/\PyData.strOk e.1=true
theorem YV {s:Int×Int}(hs:BK 10 s.1 s.2){e:En}(h:TkE e):Ent (pt s e):=⟨(hs.mul h.2.2.1).2.2,h.2.2.2⟩
theorem sum_pt {s:Int×Int}(hs:BK 10 s.1 s.2){l:List En}(h:∀ e∈l,TkE e):ZD (l.map (pt s))=vl s.1 s.2 * ZD l:=by
  induction l with
  |nil=>show(0:Rat)=vl s.1 s.2 * 0;grind
  |cons e r ih=>
    have he:=h e (mem_cons_self ..);obtain⟨x0,y0,b⟩:=hs.mul he.2.2.1;rw[map_cons];show vl (lo1 _ _) (lo2 _ _)+ZD (r.map (pt s))=vl s.1 s.2 * (vl e.2.1 e.2.2+ZD r);rw[ZaX x0 y0,vl_mul hs.2.2.1 he.2.2.1.2.2.1,ih λ x hx=>h x (mem_cons_of_mem _ hx)]
    grind
noncomputable def OkL (es:List En):Prop:=es.Pairwise (λ a b=>ltS a.1 b.1)/\es.length<=6/\∀ e∈es,OkE e/\e.2.1≠0
theorem Zbf {e:En}(h:OkE e):BK 10 e.2.1 e.2.2:=by
 obtain⟨⟨a,b,_⟩,c,d,s⟩:=h;exact⟨a,c,b,by omega⟩
theorem Za6 {es:List En}(h:OkL es)(k:Str):BK 10 (look es k).1 (look es k).2/\Sh.G (look es k).1 (look es k).2=1/\((look es k).1=0->look es k=(0,1)):=by
  by_cases hk:k∈Zr es
  . have z:=h.2.2 _ (Yl hk);exact⟨Zbf z.1,z.1.1.2.2,λ y=>absurd y z.2⟩
  . rw[XH hk];exact⟨ZaU 10 (by decide),by decide,λ _=>rfl⟩
theorem Y3 {es:List En}(h:OkL es)(k:Str):PB 0 (es.filter λ e=>decide (e.1≠k)):=by
  refine⟨λ e he=>?_,?_,le_trans (length_filter_le _ _) (by have:=h.2.1;omega),λ e he=>?_⟩
  . have z:=(h.2.2 e (List.mem_filter.mp he).1).1;exact⟨z.1,(Zbf z).up (by decide)⟩
  . unfold Zr;rw[List.nodup_iff_pairwise_ne,List.pairwise_map];exact(h.1.sublist List.filter_sublist).imp λ z e=>by rw[e]at z;exact Z0 _ z
  . exact(h.2.2 e (List.mem_filter.mp he).1).1.2.2.2
noncomputable def Due (es ts:List En)(k:Str)(es':List En):Prop:=((look es k).1=0/\es'=es)\/((look es k).1≠0/\Can ((ts.map (pt (look es k))).foldl ZW (Ye es k 0 1)) es')
noncomputable def ZaW (es ts:List En)(k:Str)(es':List En):Prop:=((look es k).1=0/\es'=es)\/((look es k).1≠0/\Can ((ts.map (pt (look es k))).foldl ZW (es.filter λ e=>decide (e.1≠k))) es')
theorem Zc5 {l:List En}{e:En}{k:Str}(h:e.1≠k):look (l++[e]) k=look l k:=by
  induction l with
  |nil=>show look [e] k=_;rw[ZO,if_neg h]
  |cons x r ih=>rw[List.cons_append,ZO,ZO,ih]
theorem Zc6 {l:List En}{e:En}{k:Str}(h:e.1=k)(hn:k∉Zr l):look (l++[e]) k=e.2:=by
  induction l with
  |nil=>show look [e] k=_;rw[ZO,if_pos h]
  |cons x r ih=>
    have n':¬ x.1=k/\k∉Zr r:=⟨λ z=>hn (by unfold Zr;rw[z.symm];simp),λ z=>hn (by unfold Zr at z ⊢;exact mem_cons_of_mem _ z)⟩;rw[List.cons_append,ZO,if_neg n'.1,ih n'.2]
theorem Zc1 {es:List En}{i:Nat}(hi:i<es.length)(nd:(Zr es).Nodup):es[i].1∉Zr (es.take i):=λ z=>by
 unfold Zr at z nd;rw[List.map_take]at z;have hi':i<(es.map (·.1)).length:=by simpa using hi
 have d1:((es.map (·.1)).take i++(es.map (·.1)).drop i).Nodup:=by rw[List.take_append_drop];exact nd
 rw[nodup_append]at d1;refine d1.2.2 _ z _ ?_ rfl;rw[List.drop_eq_getElem_cons hi'];simp
theorem JF (l:List En)(e:En)(es:List En):(l++[e]).foldl ZW es=ZW (l.foldl ZW es) e:=by
 rw[List.foldl_append];rfl
theorem Xg {s:Int×Int}{ts:List En}{i:Nat}(hi:i<ts.length):(ts.take (i+1)).map (pt s)=(ts.take i).map (pt s)++[pt s ts[i]]:=by rw[<- ZU hi,map_append];rfl
noncomputable abbrev Wt:=List (Str×Int)
noncomputable def wk (ws:Wt):List (Key×V):=ws.map λ w=>((Sum.inr w.1:Key),V.int w.2)
noncomputable def Jt (ws:Wt)(k:Str)(n:Int):Wt:=if (ws.any λ w=>decide (w.1=k))=true then ws.map (λ w=>if w.1=k then (k,n) else w) else ws++[(k,n)]
theorem put_wk (ws:Wt)(k:Str)(n:Int):Yj (wk ws) (Sum.inr k) (V.int n)=wk (Jt ws k n):=by
  unfold Yj Jt wk;have e:((ws.map λ w=>((Sum.inr w.1:Key),V.int w.2)).any λ kv=>decide (kv.1=Sum.inr k))=ws.any λ w=>decide (w.1=k):=by
    rw[List.any_map];congr 1;funext w;simp
  rw[e];split
  . rw[map_map,map_map];refine map_congr_left λ w _=>?_
    by_cases h:w.1=k
    . simp[h]
    . simp[h]
  . rw[map_append];rfl
theorem Zch {ws:Wt}{k:Str}{n:Int}{w:Str×Int}(h:w∈Jt ws k n):w=(k,n)\/w∈ws:=by
  unfold Jt at h;split at h
  . obtain⟨x,hx,e⟩:=List.mem_map.mp h
    by_cases z:x.1=k
    . rw[if_pos z]at e;exact .inl e.symm
    . rw[if_neg z]at e;exact .inr (e▸hx)
  . rcases List.mem_append.mp h with h|h
    . exact .inr h
    . exact .inl (List.mem_singleton.mp h)
theorem Zc3 {ws:Wt}{k:Str}{n:Int}(h:(ws.map (·.1)).Nodup):((Jt ws k n).map (·.1)).Nodup:=by
  unfold Jt;split
  . rw[map_map];have e:ws.map ((λ x=>x.1)∘λ w=>if w.1=k then (k,n) else w)=ws.map (·.1):=map_congr_left λ w _=>by
      by_cases z:w.1=k
      . simp[z]
      . simp[z]
    rw[e];exact h
  . rename_i z;rw[map_append,nodup_append];refine⟨h,by simp,λ a ha b hb=>?_⟩;have hb':b=k:=by simpa using hb
    subst hb';rintro rfl;obtain⟨w,h1,h2⟩:=List.mem_map.mp ha;exact z (List.any_eq_true.mpr ⟨w,h1,decide_eq_true h2⟩)
theorem Zat {ws:Wt}{k:Str}{n:Int}:(Jt ws k n).length<=ws.length+1/\0<(Jt ws k n).length:=by
  unfold Jt;split
  . rename_i h;rw[length_map];refine⟨by omega,?_⟩;cases ws with
    |nil=>simp at h
    |cons _ _=>simp
  . simp
theorem ZbO {ws:Wt}(nd:(ws.map (·.1)).Nodup){w:Str×Int}(h:w∈ws):YG (wk ws) (Sum.inr w.1)=some (V.int w.2):=by
  induction ws with
  |nil=>cases h
  |cons x r ih=>
    have nd':x.1∉r.map (·.1)/\(r.map (·.1)).Nodup:=by simpa using nd
    unfold wk;rw[map_cons];rcases List.mem_cons.mp h with rfl|h
    . exact YE rfl
    . have hne:¬ x.1=w.1:=λ z=>nd'.1 (z▸List.mem_map.mpr ⟨w,h,rfl⟩);rw[YF (λ z=>hne (Sum.inr.inj z))];exact ih nd'.2 h
noncomputable def wOf (ws:Wt)(s:Str):Int:=match ws.find? λ w=>decide (w.1=s) with|some w=>w.2|none=>0
theorem ZaE {ws:Wt}(nd:(ws.map (·.1)).Nodup){w:Str×Int}(h:w∈ws):wOf ws w.1=w.2:=by
  induction ws with
  |nil=>cases h
  |cons x r ih=>
    have nd':x.1∉r.map (·.1)/\(r.map (·.1)).Nodup:=by simpa using nd
    unfold wOf;rw[find?_cons];rcases List.mem_cons.mp h with rfl|h
    . simp
    . have hne:¬ x.1=w.1:=λ z=>nd'.1 (z▸List.mem_map.mpr ⟨w,h,rfl⟩);rw[decide_eq_false hne];exact ih nd'.2 h
noncomputable def tkr (ws:Wt)(W:Int)(s:Str):En:=(s,lo1 (wOf ws s) W,lo2 (wOf ws s) W)
theorem Zcq {ws:Wt}(h:∀ w∈ws,1<=w.2/\w.2<=12):(ws.length:Int)<=Y7 (ws.map (·.2))/\Y7 (ws.map (·.2))<=12 * ws.length:=by
  induction ws with
  |nil=>exact⟨by decide,by decide⟩
  |cons w r ih=>
    have h1:=h w (mem_cons_self ..);obtain⟨i1,i2⟩:=ih λ x hx=>h x (mem_cons_of_mem _ hx);rw[map_cons,JM,length_cons];constructor <;> omega
theorem sum_tk {W:Int}(hW:0<W)(ws l:Wt)(hl:∀ w∈l,0<=w.2/\wOf ws w.1=w.2):ZD (l.map λ w=>tkr ws W w.1)=vl (Y7 (l.map (·.2))) W:=by
  induction l with
  |nil=>exact(Xm W).symm
  |cons w r ih=>
    obtain⟨h1,h2⟩:=hl w (mem_cons_self ..);rw[map_cons,map_cons,JM];show vl (lo1 (wOf ws w.1) W) (lo2 (wOf ws w.1) W)+_=_;rw[h2,ZaX h1 hW,ih λ x hx=>hl x (mem_cons_of_mem _ hx)];unfold vl;rw[Rat.intCast_add];have:=rne hW
    grind
theorem ZcC {W:Int}(hW:0<W):vl W W=1:=by
 unfold vl;have:=rne hW
 grind
theorem tk_ok {ws:Wt}{W:Int}(hW:0<W)(hW2:W<2 ^ 7){s:Str}(h1:1<=wOf ws s)(h2:wOf ws s<=12)(hs:PyData.strOk s=true):TkE (tkr ws W s):=by
 have x0:0<=wOf ws s:=by omega
 have N:=Y4 (k:=s) x0 hW;obtain⟨l1,l2⟩:=Zcj x0 hW;refine⟨N,λ z=>?_,⟨N.1,by show lo1 (wOf ws s) W<2 ^ 7;omega,N.2.1,by show lo2 (wOf ws s) W<2 ^ 7;omega⟩,hs⟩;have L:lo1 (wOf ws s) W * W=wOf ws s * lo2 (wOf ws s) W:=(Sh.low x0 hW).eq;have z':lo1 (wOf ws s) W=0:=z;rw[z',Int.zero_mul]at L;have:0<wOf ws s * lo2 (wOf ws s) W:=Int.mul_pos (by omega) N.2.1;omega
theorem tk_st {ts:List En}(h:∀ e∈ts,TkE e):∀ e∈ts,PyData.strOk e.1=true:=λ e he=>(h e he).2.2.2
theorem okl_bk {es:List En}(h:OkL es):∀ e∈es,BK 118 e.2.1 e.2.2:=λ e he=>(Zbf (h.2.2 e he).1).up (by decide)
end L2
namespace L2
open PySem PySem.Spec PyProof.Rows
noncomputable abbrev NK:=(Int×Int)×Int×Int
noncomputable def nkD (k:NK):PyData:=.tuple [shD k.1.1 k.1.2, .int k.2.1, .int k.2.2]
noncomputable def Xw (h:Heap)(k:NK)(a:Addr):Prop:=∃(o ob:Obj)(q:Addr)(n m:Nat)(t u v x:Tok),h.get? a=some o/\o.cls = .type "tuple"/\o.data = .seq #[.ref q, .int k.2.1 t, .int k.2.2 u] n/\h.get? q=some ob/\ob.cls = .type "tuple"/\ob.data = .seq #[.int k.1.1 v, .int k.1.2 x] m
section
variable {P:Program}{w:World}{h:Heap}{k:NK}{a:Addr}
theorem Xw.inner (z:Xw h k a):∃(o:Obj)(q:Addr)(n:Nat)(t u:Tok),h.get? a=some o/\o.cls = .type "tuple"/\o.data = .seq #[.ref q, .int k.2.1 t, .int k.2.2 u] n/\IsTupleKey (ZB P w) h [.inl k.1.1, .inl k.1.2] q:=by
 obtain⟨o,ob,q,n,m,t,u,v,x,h1,h2,h3,h4,h5,h6⟩:=z;exact⟨o,q,n,t,u,h1,h2,h3,ob,_,m,h4,h5,h6, .cons (YT P w _ _) (.cons (YT P w _ _) .nil)⟩
theorem Xw.reads (z:Xw h k a):Reads h (.ref a) (nkD k) []:=by
 obtain⟨o,ob,q,n,m,t,u,v,x,h1,h2,h3,h4,h5,h6⟩:=z;exact .tuple h1 h2 h3 (.cons (as:=[]) (.tuple h4 h5 h6 (.cons (as:=[]) (.int _ _) (.cons (as:=[]) (.int _ _) .nil))) (.cons (as:=[]) (.int _ _) (.cons (as:=[]) (.int _ _) .nil)))
theorem Xw.inj {l:NK}(z:Xw h k a)(y:Xw h l a):k=l:=by
 obtain⟨o,ob,q,n,m,t,u,v,x,h1,h2,h3,h4,h5,h6⟩:=z;obtain⟨o',ob',q',n',m',t',u',v',x',g1,g2,g3,g4,g5,g6⟩:=y;rw[h1]at g1;cases g1;rw[h3]at g3;injection g3 with e1 e2;injection e1 with e1;simp only[List.cons.injEq,Value.int.injEq,Value.ref.injEq]at e1;obtain⟨rfl,⟨e3,_⟩,⟨e4,_⟩,_⟩:=e1;rw[h4]at g4;cases g4;rw[h6]at g6;injection g6 with e5 e6;injection e5 with e5;simp only[List.cons.injEq,Value.int.injEq]at e5;obtain⟨⟨e7,_⟩,⟨e8,_⟩,_⟩:=e5;obtain⟨⟨k1,k2⟩,k3,k4⟩:=k;obtain⟨⟨l1,l2⟩,l3,l4⟩:=l;simp only at e3 e4 e7 e8;rw[e3,e4,e7,e8]
theorem eqv_nk (k l:NK):PyData.eqv (nkD k) (nkD l)=decide (k=l):=by
 obtain⟨⟨k1,k2⟩,k3,k4⟩:=k;obtain⟨⟨l1,l2⟩,l3,l4⟩:=l;show((k1 == l1 && (k2 == l2 && true)) && (k3 == l3 && (k4 == l4 && true)))=_;simp only[Prod.mk.injEq,Bool.decide_and,Bool.and_true,Bool.and_assoc];rfl
noncomputable def Zce (P:Program)(w:World)(k:NK):Int:=reduceHash (Builtin.Tuple.tupleHashOf [tupleKeyHash (ZB P w) [.inl k.1.1, .inl k.1.2],hashInt k.2.1,hashInt k.2.2])
variable {A:Around}{E:Value->Shared->Prop}{s:Shared}
theorem Zc2 {Q:Int->Shared->Prop}(hu:A.units+8<cLine)(z:Xw s.heap k a)(q:Q (Zce P w k) { s with toks:=s.toks+6 }):wpAny (model P w) A (pyHash (.ref a)) Q E s:=by
 obtain⟨o,b,n,t,u,h1,h2,h3,h4⟩:=z.inner (P:=P) (w:=w);refine PySem.W.pyHash_slot (T:="tuple") ⟨_,h1,h2⟩ F.slot_tuple_hash F.entry_tuple_hash (F.args_tuple_hash_1 _) (beq_builtin_none _) (.inr (by omega)) ?_;show wpAny _ A.in1 (Bind.bind (Builtin.Tuple.tupleItemsOf (.ref a)) _) _ E s;refine wpAny_bind (wpAny_tupleItemsOf h1 h3 (wpAny_bind ?_));rw[<- Array.forIn_toList];simp only[List.forIn_cons,List.forIn_nil];refine wpAny_bind (wpAny_bind (wpAny_pyHash_tuple (by rw[Around.in1_units];omega) h4 (wpAny_pure ?_)));refine wpAny_bind (wpAny_bind (wpAny_pyHash_int (wpAny_pure ?_)));refine wpAny_bind (wpAny_bind (wpAny_pyHash_int (wpAny_pure ?_)));refine wpAny_pure ?_;exact wpAny_bind (wpAny_mkInt (wpAny_pure ⟨_,_,rfl,q⟩))
theorem Jg {M:Model}{n:Nat}{R:Option Bool×Unit->Shared->Prop}:∀ l:List Value,(∀ v∈l,∀ Q:Bool->Shared->Prop,Q true s->wpAny M A (eqIsQuiet n v) Q E s)->R (none,()) s ->
    wpAny M A (forIn l ((none:Option Bool),()) λ y _=>do if (!(<- eqIsQuiet n y))=true then pure (ForInStep.done (some false,())) else pure (ForInStep.yield (none,()))) R E s
  |[],_,r=>wpAny_pure r
  | v::l,z,r=>by
    rw[List.forIn_cons];refine wpAny_bind (wpAny_bind (z v (mem_cons_self ..) _ (wpAny_pure ?_)));exact Jg l (λ u hu=>z u (mem_cons_of_mem _ hu)) r
theorem JI {o:Obj}{its:Array Value}{m n:Nat}{Q:Bool->Shared->Prop}(h1:s.heap.get? a=some o)(h2:o.cls = .type "tuple")(h3:o.data = .seq its m)(z:∀ v∈its.toList,∀ Q:Bool->Shared->Prop,Q true s->wpAny (model P w) A (eqIsQuiet n v) Q E s)(q:Q true s):wpAny (model P w) A (eqIsQuiet (n+1) (.ref a)) Q E s:=by
 have hT:s.TypeIs (.ref a) "tuple":=⟨o,h1,h2⟩;unfold eqIsQuiet;refine wpAny_bind (wpAny_specialOf hT F.slot_tuple_eq.lookup ?_);refine wpAny_bind (wpAny_isInstance hT isSubtype_tuple_tuple ?_);simp only[Bool.not_true,Bool.false_eq_true,if_false];refine wpAny_bind (wpAny_seqItems h1 h3 (wpAny_bind ?_));show wpAny _ A (forIn its _ _) _ E s;rw[<- Array.forIn_toList];exact Jg _ z (wpAny_pure q)
theorem Zcc {Q:Bool->Shared->Prop}(z:Xw s.heap k a)(q:Q true s):wpAny (model P w) A (eqIsQuiet 8 (.ref a)) Q E s:=by
  obtain⟨o,b,n,t,u,h1,h2,h3,o2,its,m,g1,g2,g3,g4⟩:=z.inner (P:=P) (w:=w);refine JI (n:=7) h1 h2 h3 (λ v hv Q q=>?_) q;simp only[List.mem_cons,List.not_mem_nil,or_false]at hv;rcases hv with rfl|rfl|rfl
  . refine JI (n:=6) g1 g2 g3 (λ v hv Q q=>?_) q;rw[eqIsQuiet_byValue _ (g4.byValue v hv)];exact wpAny_pure q
  . rw[eqIsQuiet_byValue _ rfl];exact wpAny_pure q
  . rw[eqIsQuiet_byValue _ rfl];exact wpAny_pure q
end
theorem Xw.keeps {h h':Heap}{k:NK}{a d:Addr}{o:Obj}{es ep}(z:Xw h k a)(ho:h.get? d=some o)(hd:o.data = .dict es ep)(hs:Heap.SameBut d h h'):Xw h' k a:=by
 obtain⟨o1,ob,q,n,m,t,u,v,x,h1,h2,h3,h4,h5,h6⟩:=z;have n1:a≠d:=λ e=>by rw[e,ho]at h1;cases h1;rw[hd]at h3;cases h3
 have n2:q≠d:=λ e=>by rw[e,ho]at h4;cases h4;rw[hd]at h6;cases h6
 exact⟨o1,ob,q,n,m,t,u,v,x,(hs.2 a n1).trans h1,h2,h3,(hs.2 q n2).trans h4,h5,h6⟩
noncomputable def Zcd (P:Program)(w:World):HeapKind P w NK where
 is:=Xw
 hash:=Zce P w
 draws:=λ _=>6
 room:=λ A=>A.units+8<cLine
 inj:=λ x y=>x.inj y
 keeps:=λ z ho hd hs=>z.keeps ho hd hs
 pyHash:=λ hu z q=>Zc2 hu z q
 eqBool:=λ {A E s x y a b Q} hu hx hy q=>SeqAt.eqBoolOverData P w A E s _ _ _ _ _ _ Q hx.reads hy.reads rfl rfl (by show A.units+2<cLine;omega) (by rw[eqv_nk];exact q)
 quiet:=λ z q=>Zcc z q
noncomputable abbrev NW:=NK×Addr×Addr
noncomputable def Jf (ws:List NW):List (NK×Addr×Value):=ws.map λ x=>(x.1,x.2.1,Value.ref x.2.2)
noncomputable def nkF (P:Program)(w:World)(a:Addr)(ws:List NW)(h:Heap):Prop:=(a == sysModules)=false/\∃ o es ep,h.get? a=some o/\o.ExactDict/\o.data = .dict es ep/\es.toList=(Jf ws).map (entryOfKey (Zcd P w))/\((Jf ws).map (·.1)).Nodup
noncomputable def nkO (P:Program)(w:World)(a:Addr)(ws:List NW):HO:=.ext (nkF P w a ws)
noncomputable def YB (ws:List NW)(k:NK):Option Addr:=(ws.find? λ x=>decide (x.1=k)).map (·.2.2)
theorem Zar {P:Program}{w:World}{a:Addr}{ws:List NW}:∀ h1 h2:Heap,nkF P w a ws h1->(∀ o,h1.get? a=some o->h2.get? a=some o)->nkF P w a ws h2:=λ h1 h2 ⟨z,o,es,ep,e,r⟩ k=>⟨z,o,es,ep,k o e,r⟩
theorem Je (ws:List NW)(k:NK):(atKey (Jf ws) k).map (·.2)=(YB ws k).map Value.ref:=by
  unfold atKey Jf YB;rw[List.find?_map];cases h:ws.find? λ x=>decide (x.1=k) with
  |none=>rw[show List.find? ((λ x:NK×Addr×Value=>decide (x.1=k))∘λ x:NW=>(x.1,x.2.1,Value.ref x.2.2)) ws=none from h];rfl
  |some y=>rw[show List.find? ((λ x:NK×Addr×Value=>decide (x.1=k))∘λ x:NW=>(x.1,x.2.1,Value.ref x.2.2)) ws=some y from h];rfl
noncomputable def Xv (K:Frag)(H:Hp)(k:NK)(p:Addr):Prop:=∃ q,H p=some (.tup [.ref q, .int k.2.1, .int k.2.2])/\SqT K H q [.int k.1.1, .int k.1.2]
structure NDict (P:Program)(w:World)(K:Frag)(H:Hp)(a:Addr)(ws:List NW):Prop where
  obj:H a=some (nkO P w a ws)
  len:ws.length<=900
  ks:∀ x∈ws,Xv K H x.1 x.2.1
section
variable {X:Cx}{pins:List (Addr×Obj)}{σ:St}{H H':Hp}{s:Shared}{a p:Addr}{k:NK}{ws:List NW}
theorem Xv.same {K:Frag}(z:Xv K H k p)(e:Zx H H'):Xv K H' k p:=let ⟨q,h1,h2⟩:=z;⟨q,e _ _ h1,e.tupq h2⟩
theorem NDict.same {P:Program}{w:World}{K:Frag}(z:NDict P w K H a ws)(e:Zx H H'):NDict P w K H' a ws:=⟨e _ _ z.obj,z.len,λ x hx=>(z.ks x hx).same e⟩
theorem Xv.at (I:Inv X pins σ H s)(z:Xv X.K H k p):Xw s.heap k p:=by
  obtain⟨q,h1,h2⟩:=z;obtain⟨its,r1,⟨o,e1,e2,n,e3⟩,_⟩:=I.tuple (SqT.of h1);obtain⟨jts,r2,⟨o2,g1,g2,m,g3⟩,_⟩:=I.tuple h2;cases r1 with
  | cons a1 r1=>cases r1 with
    | cons a2 r1=>cases r1 with
      |cons a3 r1=>
        cases r1;cases r2 with
        | cons b1 r2=>cases r2 with
          |cons b2 r2=>
            cases r2;cases a1;obtain⟨t,rfl⟩:=a2;obtain⟨u,rfl⟩:=a3;obtain⟨v,rfl⟩:=b1;obtain⟨x,rfl⟩:=b2;exact⟨o,o2,q,n,m,t,u,v,x,e1,e2,e3,g1,g2,g3⟩
theorem NDict.raw (I:Inv X pins σ H s)(z:NDict X.prog X.w X.K H a ws):(a == sysModules)=false/\s.heap.DictOfH (Zcd X.prog X.w) a (Jf ws):=by
 obtain⟨⟨hd,o,es,ep,h1,h2,h3,h4,h5⟩,_,_⟩:=(show ZI X.prog X.w H s.heap a (nkO X.prog X.w a ws) from I.hok a _ z.obj);refine⟨hd,o,es,ep,h1,h2,h3,h4,λ x hx=>?_,h5⟩;obtain⟨y,hy,rfl⟩:=List.mem_map.mp hx;exact(z.ks y hy).at I
variable {o i e value:Expr}{pos pos':Pos}{td ty tv:TE}
theorem ZcX (hu:X.A.units+64<cLine)(ho:PE X o td)(hi:PE X i ty)(hs:NoSl i):PE X (.Subscript o i pos) (λ σ H Q=>td σ H λ x H1=>ty σ H1 λ y H2=>∃ a p k ws r,x = .ref a/\y = .ref p/\NDict X.prog X.w X.K H2 a ws/\Xv X.K H2 k p/\YB ws k=some r/\Q (.ref r) H2):=by
 refine⟨?_⟩;intro pins s σ H Q I h;refine ZaZ PySem.F.slot_dict_getitem.lookup hs (thn (ho pins s σ H _ I h) λ u s1 ⟨x,H1,I1,rx,q1⟩=>thn (hi pins s1 σ H1 _ I1 q1) λ iv s2 zz9=>?_);obtain⟨y,H2,I2,ry,a,p,k,ws,r,ex,ey,nd,nk,l,q2⟩:=zz9;subst ex ey;obtain rfl:u=Value.ref a:=rx;obtain rfl:iv=Value.ref p:=ry;obtain⟨hd,dd⟩:=nd.raw I2;have hl:=Je ws k;rw[l]at hl;obtain⟨pv,hp,hp2⟩:=Option.map_eq_some_iff.mp hl;refine⟨dd.typeIs,wpAny_getItem_heap (show X.A.in1.units+8<cLine by rw[Around.in1_units];omega) (nk.at I2) dd hp ⟨.ref r,H2,I2.tok _,hp2,q2⟩⟩
theorem Zbr (hu:X.A.units+64<cLine)(hi:PE X i ty)(ho:PE X o td):PC X .NotIn i o (λ σ H Q=>ty σ H λ y H1=>td σ H1 λ x H2=>∃ a p k ws,x = .ref a/\y = .ref p/\NDict X.prog X.w X.K H2 a ws/\Xv X.K H2 k p/\Q (.bl (!(YB ws k).isSome)) H2):=by
 refine⟨?_⟩;intro pins s σ H Q I h;refine thn (hi pins s σ H _ I h) λ iv s1 ⟨y,H1,I1,ry,q1⟩=>thn (ho pins s1 σ H1 _ I1 q1) λ u s2 zz9=>?_;obtain⟨x,H2,I2,rx,a,p,k,ws,ex,ey,nd,nk,q2⟩:=zz9;subst ex ey;obtain rfl:u=Value.ref a:=rx;obtain rfl:iv=Value.ref p:=ry;obtain⟨hd,dd⟩:=nd.raw I2;refine wpAny_notIn_heap (show X.A.in1.units+8<cLine by rw[Around.in1_units];omega) (nk.at I2) hd dd ?_;have q:=congrArg Option.isSome (Je ws k);rw[isSome_map,isSome_map]at q;rw[q];exact⟨.bl (!(YB ws k).isSome),H2,I2.tok _,rfl,q2⟩
theorem ZcQ (hu:X.A.units+64<cLine)(ho:PE X o td)(hi:PE X i ty)(hv:PE X value tv)(hs:swapsWith value (some (.Subscript o i pos')) pos.line X.env=pure false) :
    PS X (.Assign [.Subscript o i pos'] value pos) (λ D σ H=>tv σ H λ v H1=>td σ H1 λ x H2=>ty σ H2 λ y H3=>∃ a p k ws r,x = .ref a/\y = .ref p/\v = .ref r/\NDict X.prog X.w X.K H3 a ws/\Xv X.K H3 k p/\YB ws k=none/\D.nx σ (upd H3 a (nkO X.prog X.w a (ws++[(k,p,r)])))):=by
  refine⟨?_⟩;intro pins s σ H D I h;refine wpAny_Assign_Subscript (thn (hv pins s σ H _ I h) λ rr s1 ⟨v,H1,I1,rv,q1⟩=>thn (ho pins s1 σ H1 _ I1 q1) λ u s2 ⟨x,H2,I2,rx,q2⟩=>thn (hi pins s2 σ H2 _ I2 q2) λ iv s3 zz9=>?_) hs;obtain⟨y,H3,I3,ry,a,p,k,ws,r,ex,ey,ev,nd,nk,l,q3⟩:=zz9;subst ex ey ev;obtain rfl:u=Value.ref a:=rx;obtain rfl:iv=Value.ref p:=ry;obtain rfl:rr=Value.ref r:=rv;obtain⟨hd,dd⟩:=nd.raw I3;have hz:(Jf ws).length<=sizeLine:=by unfold Jf;rw[length_map];exact le_of_lt (Zp (by have:=nd.len;omega))
  have hn:atKey (Jf ws) k=none:=by
    have z:=Je ws k;rw[l]at z;exact Option.map_eq_none_iff.mp z
  refine wpAny_setItem_heap (hsz:=hz) (show X.A.in1.units+8<cLine by rw[Around.in1_units];omega) (nk.at I3) dd λ h' dd' hs=>?_;obtain⟨q,es,ep,hq,h2,h3,h4,_,h5⟩:=dd';rw[storedH_new hn]at h4 h5;have er:Jf ws++[(k,p,Value.ref r)]=Jf (ws++[(k,p,r)]):=by unfold Jf;rw[map_append];rfl
  rw[er]at h4 h5;refine⟨σ,_,Xs I3 (by rw[nd.obj];exact True.intro) hs ⟨q,hq⟩ (ob:=nkO X.prog X.w a (ws++[(k,p,r)])) ⟨⟨hd,q,es,ep,hq,h2,h3,h4,h5⟩,⟨q,hq⟩,Zar⟩,q3⟩
theorem ZcW:PE X (.Dict [] [] pos) (λ _ H Q=>∀ p,H p=none->Q (.ref p) (upd H p (nkO X.prog X.w p []))):=⟨λ pins s σ H Q I h=>
 wpAny_Dict_empty ⟨.ref s.heap.objs.size,_,I.laid (a:=s.heap.objs.size) (o:=nkO X.prog X.w s.heap.objs.size []) (t':=s.toks) (λ _ _ q=>Heap.get?_push_of_some _ q) (le_refl _) ⟨⟨beq_eq_false_iff_ne.mpr (Ne.symm (ne_of_lt I.big)),_,#[],0,Heap.get?_push_size _ rfl,⟨rfl,rfl,rfl⟩,rfl,rfl,List.nodup_nil⟩,⟨_,Heap.get?_push_size _ rfl⟩,Zar⟩,rfl,h _ (I.hok.fresh (le_refl _))⟩⟩
end
theorem ZaT {X:Cx}:YD X (.type "dict") (λ xs H Q=>∃ a kvs,xs=[.ref a]/\H a=some (.dK kvs)/\∀ p,H p=none->Q (.ref p) (upd H p (.dK kvs))):=by
  intro pins s σ H xs us Q I r h;obtain⟨a,kvs,rfl,e,q⟩:=h;cases r with
  |cons h1 t=>
    cases t;cases h1;exact ZcA I (.inl e) λ p s' hp I'=>⟨.ref p,_,I',rfl,q p hp⟩
theorem Dic.drop {K:Frag}{H:Hp}{d:Addr}{ws:Ws}{es:List En}{k:Str}(e:ws.map (·.1)=es)(h:Xx K H d ws) :
    Dic K (upd H d (.dK (Xr (ws.map λ w=>((Sum.inr w.1.1:Key),V.ref w.2)) (Sum.inr k)))) d (es.filter λ e=>decide (e.1≠k)):=by
  subst e;refine⟨ws.filter λ w=>decide (w.1.1≠k),?_,?_,λ w hw=>?_⟩
  . rw[List.filter_map];rfl
  . rw[Zd];unfold Xr;rw[List.filter_map];refine congrArg some (congrArg HO.dK (congrArg (List.map _) (List.filter_congr λ w _=>?_)));exact decide_eq_decide.mpr ⟨λ z y=>z (by show(Sum.inr w.1.1:Key)=Sum.inr k;rw[y]),λ z y=>z (Sum.inr.inj y)⟩
  . exact Zai (h.2 w (List.mem_filter.mp hw).1) h.1
theorem ZaR {ws:List NW}{k:NK}{p r:Addr}(h:YB ws k=none):YB (ws++[(k,p,r)]) k=some r:=by
 unfold YB at h ⊢;rw[List.find?_append,Option.map_eq_none_iff.mp h];simp
theorem Zbz {ws:List NW}{k:NK}{r:Addr}(h:YB ws k=some r):∃ p,(k,p,r)∈ws:=by
 unfold YB at h;obtain⟨x,hx,rfl⟩:=Option.map_eq_some_iff.mp h;have e:x.1=k:=by have:=List.find?_some hx;simpa using this
 exact⟨x.2.1,by rw[<- e];exact List.mem_of_find?_eq_some hx⟩
theorem Xv.updD {K:Frag}{H:Hp}{k:NK}{p f:Addr}{kvs:List (Key×V)}{u:HO}(z:Xv K H k p)(hf:H f=some (.dK kvs)):Xv K (upd H f u) k p:=by
 obtain⟨q,h1,h2⟩:=z;exact⟨q,by rw[Zh (Yk h1 hf (λ y=>by cases y))];exact h1,Zai h2 hf⟩
theorem NDict.updD {P:Program}{w:World}{K:Frag}{H:Hp}{a f:Addr}{ws:List NW}{kvs:List (Key×V)}{u:HO}(z:NDict P w K H a ws)(hf:H f=some (.dK kvs)):NDict P w K (upd H f u) a ws:=
 ⟨by rw[Zh (Yk z.obj hf (λ y=>by cases y))];exact z.obj,z.len,λ x hx=>(z.ks x hx).updD hf⟩
theorem tupN {P:Program}{w:World}{K:Frag}{H:Hp}{a p:Addr}{ws:List NW}{xs:List V}{u:HO}(h:SqT K H p xs)(z:H a=some (nkO P w a ws)):SqT K (upd H a u) p xs:=by
  rcases h with (h|⟨o,h⟩)|h
  . exact .inl (.inl (by rw[Zh (Yk h z (by intro y;cases y))];exact h))
  . exact .inl (.inr ⟨o,by rw[Zh (Yk h z (by intro y;cases y))];exact h⟩)
  . exact .inr h
theorem NDict.push {P:Program}{w:World}{K:Frag}{H:Hp}{a p r:Addr}{ws:List NW}{k:NK}(z:NDict P w K H a ws)(hk:Xv K H k p)(hl:ws.length<900):NDict P w K (upd H a (nkO P w a (ws++[(k,p,r)]))) a (ws++[(k,p,r)]):=by
  refine⟨Zd,by rw[length_append];exact hl,λ x hx=>?_⟩;rcases List.mem_append.mp hx with y|y
  . obtain⟨q,h1,h2⟩:=z.ks x y;exact⟨q,by rw[Zh (Yk h1 z.obj (λ y=>by cases y))];exact h1,tupN h2 z.obj⟩
  . rw[List.mem_singleton.mp y];obtain⟨q,h1,h2⟩:=hk;exact⟨q,by rw[Zh (Yk h1 z.obj (λ y=>by cases y))];exact h1,tupN h2 z.obj⟩
noncomputable def smV (s:Int×Int)(k:NK):List V:=Jy (k.1.1 * lo2 (s.1 * k.2.1) (s.2 * k.2.2)+lo1 (s.1 * k.2.1) (s.2 * k.2.2) * k.1.2) (k.1.2 * lo2 (s.1 * k.2.1) (s.2 * k.2.2))
theorem ZaW.uniq {es ts a b:List En}{k:Str}(h:ZaW es ts k a)(h':ZaW es ts k b):a=b:=by
  rcases h with ⟨z,rfl⟩|⟨z,h⟩
  . rcases h' with ⟨_,rfl⟩|⟨y,_⟩
    . rfl
    . exact absurd z y
  . rcases h' with ⟨y,_⟩|⟨_,h'⟩
    . exact absurd y z
    . exact h.uniq h'
theorem JB {k:Str}:∀ {es:List En},(Zr es).Nodup->ZD (es.filter λ e=>decide (e.1≠k))=ZD es - vl (look es k).1 (look es k).2
  |[],_=>by show(0:Rat)=0 - vl 0 1;rw[Xm];grind
  | e::r,nd=>by
    have nd2:e.1∉Zr r/\(Zr r).Nodup:=List.nodup_cons.mp nd
    by_cases h:e.1=k
    . rw[List.filter_cons_of_neg (by simp[h]),ZO,if_pos h,List.filter_eq_self.mpr]
      . show ZD r=vl e.2.1 e.2.2+ZD r - vl e.2.1 e.2.2
        grind
      . intro x hx;refine decide_eq_true λ z=>nd2.1 ?_;rw[h,<- z];exact List.mem_map.mpr ⟨x,hx,rfl⟩
    . rw[List.filter_cons_of_pos (by simp[h]),ZO,if_neg h];show vl e.2.1 e.2.2+ZD (r.filter _)=vl e.2.1 e.2.2+ZD r - _;rw[JB nd2.2]
      grind
theorem ZaW.ok {es ts a:List En}{k:Str}(h:ZaW es ts k a)(he:OkL es)(ht:∀ e∈ts,TkE e)(hl:ts.length<=6)(hs:ZD ts=1) :
    a.Pairwise (λ a b=>ltS a.1 b.1)/\(∀ e∈a,YX e/\e.2.1≠0)/\(∀ e∈a,PyData.strOk e.1=true)/\a.length<=13/\ZD a=ZD es/\∀ e∈a,BK 118 e.2.1 e.2.2:=by
  rcases h with ⟨z,rfl⟩|⟨z,h⟩
  . exact⟨he.1,λ e h=>⟨(he.2.2 e h).1.1,(he.2.2 e h).2⟩,λ e h=>(he.2.2 e h).1.2.2.2,by have:=he.2.1;omega,rfl,λ e h=>(Zbf (he.2.2 e h).1).up (by decide)⟩
  . have hb:=(Za6 he k).1;have hE:∀ e∈ts.map (pt (look es k)),Ent e:=λ e h=>by
      obtain⟨x,hx,rfl⟩:=List.mem_map.mp h;exact YV hb (ht x hx)
    have p:=(Y3 he k).folds hE;rw[length_map,Nat.zero_add]at p;refine⟨h.1,λ e y=>⟨(p.1 e ((h.2.1 e).mp y).1).1,((h.2.1 e).mp y).2⟩,λ e y=>p.2.2.2 e ((h.2.1 e).mp y).1,by have:=h.2.2;have:=p.2.2.1;omega,?_,λ e y=>(p.1 e ((h.2.1 e).mp y).1).2.up (by omega)⟩;rw[ZbT p.2.1 h,Zbm (Y3 he k) hE,JB (Zcf he.1),sum_pt hb ht,hs]
    grind
end L2
namespace L2
open PySem PySem.Spec PyProof.Rows
theorem us0 (us:List Value)(h:us.length=0):us=[]:=List.eq_nil_of_length_eq_zero h
theorem us1 (us:List Value)(h:us.length=1):∃ a0,us=[a0]:=by
  cases us with
  |nil=>cases h
  |cons a0 us=>exact⟨a0,by rw[us0 us (Nat.succ.inj h)]⟩
theorem us2 (us:List Value)(h:us.length=2):∃ a0 a1,us=[a0,a1]:=by
  cases us with
  |nil=>cases h
  |cons a0 us=>
    obtain⟨a1,e⟩:=us1 us (Nat.succ.inj h);exact⟨a0,a1,by rw[e]⟩
theorem us3 (us:List Value)(h:us.length=3):∃ a0 a1 a2,us=[a0,a1,a2]:=by
  cases us with
  |nil=>cases h
  |cons a0 us=>
    obtain⟨a1,a2,e⟩:=us2 us (Nat.succ.inj h);exact⟨a0,a1,a2,by rw[e]⟩
theorem h_ {j k:Nat}{A:Around}(h:Room k A)(e:j<=k:=by decide):Room j A:=h.mono e
noncomputable def GlP (K:Frag)(x:Str)(st:Stmt):Prop:=∃ f,nsIn K mainGlobals x=some (some (.ref f))/\∃ fd,Fun K x x st f fd
noncomputable def MtP (K:Frag)(C:Addr)(x q:Str)(st:Stmt):Prop:=∃ f,findIn K (.ref C) x=some (some (.ref f))/\isFn K (.ref f)=true/\∃ fd,Fun K x q st f fd
section
variable {K:Frag}{x q:Str}{st:Stmt}{f C:Addr}{oc:Value}{od an:Option Addr}{osl:Array (Option Value)}{kV doc pm cdv ct:Value}{fd:FuncData}
theorem glp_mk (a:nsIn K mainGlobals x=some (some (.ref f)))(l:K.lookup f=some ⟨oc,od, .func (fnOf x x (Ya st) (Z3 st) (Zi st) .none kV doc pm an cdv ct),osl⟩)(c:codeIn K cdv x=true)(k:keepIn K (.ref f)=true):GlP K x st:=⟨f,a,_,Zct l c k⟩
theorem mtp_mk (a:findIn K (.ref C) x=some (some (.ref f)))(i:isFn K (.ref f)=true)(l:K.lookup f=some ⟨oc,od, .func (fnOf x q (Ya st) (Z3 st) (Zi st) .none kV doc pm an cdv ct),osl⟩)(c:codeIn K cdv q=true)(k:keepIn K (.ref f)=true):MtP K C x q st:=⟨f,a,i,_,Zct l c k⟩
variable {P:Program}{w:World}{mg:Str->Option Value}{base h:Heap}{k:Nat}{ps:List Str}{sp:Sp}{CX:CXT}
noncomputable abbrev BinT (x q:Str)(st:Stmt)(ps:List Str):Prop:=∀(kV doc pm:Value)(an:Option Addr)(cdv ct:Value)(us:List Value),us.length=ps.length->bindArgs (fnOf x q (Ya st) (Z3 st) (Zi st) .none kV doc pm an cdv ct) ⟨us,[]⟩=pure (ps.zip us)
theorem ZP (X:K.In h)(G:h.Ns mainGlobals mg)(p:GlP K x st)(ok:∀ {f:Addr} {fd:FuncData},Fun K x x st f fd->FnOk P w K mg base CX0 k f fd ps sp)(b:BinT x x st ps):Dn P w K mg base k x ps sp:=by
 obtain⟨f,a,fd,F⟩:=p;exact⟨f,fd,ok F,mg_of X G a,F.kp,F.binds b⟩
theorem la_gl {l:Str}(X:K.In h)(G:h.Ns mainGlobals mg){fa:Addr}(hfa:mg x=some (.ref fa))(p:GlP K x st)(b:∀(kV doc pm:Value)(an:Option Addr)(cdv ct:Value)(s:Shared)(v:Value),BindsTo s (fnOf x x (Ya st) (Z3 st) (Zi st) .none kV doc pm an cdv ct) ⟨[v],[]⟩ [(l,v)]):∃ fd,(∀(s:Shared)(v:Value),BindsTo s fd ⟨[v],[]⟩ [(l,v)])/\Fun K x x st fa fd:=by
 obtain⟨f,a,fd,F⟩:=p;have e:=hfa.symm.trans (mg_of X G a);cases e;refine⟨fd,?_,F⟩;obtain⟨oc,od,kV,doc,pm,an,cdv,ct,osl,rfl,lk,hcd⟩:=F.ex;exact b kV doc pm an cdv ct
end
theorem walkX_of {q:Program}{loose:List Str}{XP:(Str->Option Value)->Heap->Prop}{K:Params->Frag}{as:List Addr}{n t:Nat}{r:PySem.W.RowW}{d:DefRec}{kwd:List (Str×Expr)}{run:Value->List Value->Sem Value}(e:∀ P,as=(K P).map (·.1))(h:PySem.W.WalkO q loose XP (λ w h=>(K w.params).In h) r d kwd run):PySem.W.WalkX q loose XP (PySem.W.X.obsZ as) (PySem.W.X.valZ K n t) r d kwd run:=
  λ w s₀ s₁ mg mb G y a o pm cd doc dV kV h1 h2 h3 h4 h5 h6 args vals as' L hpre hlay hrd hwl hlo=>
    h w s₀ s₁ mg mb G (PySem.W.InK.keeps w _ _ (PySem.W.X.z_facts e y).2.1 L.keeps) a o pm cd doc dV kV h1 h2 h3 h4 h5 h6 args vals as' hpre hlay hrd hwl hlo
end L2
set_option maxHeartbeats 0
namespace My
open PySem L2
noncomputable def top (i:Nat):Stmt:=PySem.Challenge.pw_deadhand_k04_share_passed.main.body.getD i (.Pass ⟨0,0,0,0⟩)
noncomputable def inCls (s:Stmt)(j:Nat):Stmt:=match s with
  |.ClassDef _ _ _ body _ _ _ _ _ _ _=>body.getD j (.Pass ⟨0,0,0,0⟩)
  |_ => .Pass ⟨0,0,0,0⟩
noncomputable def forBody (s:Stmt):List Stmt:=match s with
  |.For _ _ b _ _=>b
  |.While _ b _ _=>b
  |.If _ b _ _=>b
  |_=>[]
noncomputable abbrev Jc:Stmt:=top 2
theorem JH:FnScope ["one","other"] ["one","other"] (Zi Jc):=⟨rfl,rfl,rfl,by decide +kernel,rfl,by decide +kernel,by decide +kernel⟩
noncomputable abbrev Jb:Stmt:=top 3
theorem JG:FnScope ["num","den","divisor"] ["num","den"] (Zi Jb):=⟨rfl,rfl,rfl,by decide +kernel,rfl,by decide +kernel,by decide +kernel⟩
noncomputable abbrev ZaK:Stmt:=top 4
theorem ZcI:FnScope ["one","other"] ["one","other"] (Zi ZaK):=⟨rfl,rfl,rfl,by decide +kernel,rfl,by decide +kernel,by decide +kernel⟩
noncomputable abbrev JZ:Stmt:=top 5
theorem ZbV:FnScope ["one","other"] ["one","other"] (Zi JZ):=⟨rfl,rfl,rfl,by decide +kernel,rfl,by decide +kernel,by decide +kernel⟩
noncomputable abbrev XC:Stmt:=top 6
theorem ZaJ:FnScope ["ledger"] ["ledger"] (Zi XC):=⟨rfl,rfl,rfl,by decide +kernel,rfl,by decide +kernel,by decide +kernel⟩
noncomputable abbrev YM:Stmt:=top 7
theorem JY:FnScope ["held"] ["held"] (Zi YM):=⟨rfl,rfl,rfl,by decide +kernel,rfl,by decide +kernel,by decide +kernel⟩
noncomputable abbrev Yd:Stmt:=top 8
theorem ZG:FnScope ["held","name","takers","after","sums","taker","num","den","key"] ["held","name","takers"] (Zi Yd):=⟨rfl,rfl,rfl,by decide +kernel,rfl,by decide +kernel,by decide +kernel⟩
noncomputable abbrev Ja:Stmt:=top 9
theorem Zbp:FnScope ["ledger","name","takers"] ["ledger","name","takers"] (Zi Ja):=⟨rfl,rfl,rfl,by decide +kernel,rfl,by decide +kernel,by decide +kernel⟩
noncomputable abbrev Xz:Stmt:=top 11
theorem ZaI:FnScope ["_law_found"] ["_law_found"] (Zi Xz):=⟨rfl,rfl,rfl,by decide +kernel,rfl,by decide +kernel,by decide +kernel⟩
noncomputable abbrev Yc:Stmt:=top 12
theorem X9:FnScope ["_law_script","_law_k"] ["_law_script","_law_k"] (Zi Yc):=⟨rfl,rfl,rfl,by decide +kernel,rfl,by decide +kernel,by decide +kernel⟩
noncomputable abbrev Xk:Stmt:=top 13
theorem YK:FnScope ["_law_cell","_law_place","_law_one","_law_two"] ["_law_cell","_law_place"] (Zi Xk):=⟨rfl,rfl,rfl,by decide +kernel,rfl,by decide +kernel,by decide +kernel⟩
noncomputable abbrev Xj:Stmt:=top 14
theorem ZM:FnScope ["_law_n","_law_size","_law_word_here","_law_k"] ["_law_n"] (Zi Xj):=⟨rfl,rfl,rfl,by decide +kernel,rfl,by decide +kernel,by decide +kernel⟩
noncomputable abbrev Yv:Stmt:=top 15
theorem Xd:FnScope ["_law_a","_law_b"] ["_law_a","_law_b"] (Zi Yv):=⟨rfl,rfl,rfl,by decide +kernel,rfl,by decide +kernel,by decide +kernel⟩
noncomputable abbrev XA:Stmt:=top 16
theorem X8:FnScope ["_law_num_here","_law_den","_law_by"] ["_law_num_here","_law_den"] (Zi XA):=⟨rfl,rfl,rfl,by decide +kernel,rfl,by decide +kernel,by decide +kernel⟩
noncomputable abbrev Xy:Stmt:=top 17
theorem ZaH:FnScope ["_law_one","_law_other"] ["_law_one","_law_other"] (Zi Xy):=⟨rfl,rfl,rfl,by decide +kernel,rfl,by decide +kernel,by decide +kernel⟩
noncomputable abbrev Z9:Stmt:=top 18
theorem XV:FnScope ["_law_found"] ["_law_found"] (Zi Z9):=⟨rfl,rfl,rfl,by decide +kernel,rfl,by decide +kernel,by decide +kernel⟩
noncomputable abbrev Z6:Stmt:=top 19
theorem ZK:FnScope ["_law_found","_law_last","_law_k","_law_entry"] ["_law_found"] (Zi Z6):=⟨rfl,rfl,rfl,by decide +kernel,rfl,by decide +kernel,by decide +kernel⟩
noncomputable abbrev YN:Stmt:=top 20
theorem ZN:FnScope ["_law_ledger_here","_law_found","_law_name","_law_num_here","_law_den"] ["_law_ledger_here"] (Zi YN):=⟨rfl,rfl,rfl,by decide +kernel,rfl,by decide +kernel,by decide +kernel⟩
noncomputable abbrev Yt:Stmt:=top 21
theorem Yb:FnScope ["_law_book","_law_found","_law_name"] ["_law_book"] (Zi Yt):=⟨rfl,rfl,rfl,by decide +kernel,rfl,by decide +kernel,by decide +kernel⟩
noncomputable abbrev Yu:Stmt:=top 22
theorem ZR:FnScope ["_law_n","_law_most","_law_book","_law_k","_law_word_here"] ["_law_n","_law_most"] (Zi Yu):=⟨rfl,rfl,rfl,by decide +kernel,rfl,by decide +kernel,by decide +kernel⟩
noncomputable abbrev Ys:Stmt:=top 23
theorem Zw:FnScope ["_law_ledger_here","_law_name","_law_n","_law_weights","_law_k","_law_some","_law_whole","_law_found","_law_one","_law_part"] ["_law_ledger_here","_law_name","_law_n"] (Zi Ys):=⟨rfl,rfl,rfl,by decide +kernel,rfl,by decide +kernel,by decide +kernel⟩
noncomputable abbrev XB:Stmt:=top 24
theorem ZF:FnScope ["_law_ledger_here","_law_name","_law_takers_here","_law_book","_law_has","_law_one","_law_num_here","_law_den","_law_part"] ["_law_ledger_here","_law_name","_law_takers_here"] (Zi XB):=⟨rfl,rfl,rfl,by decide +kernel,rfl,by decide +kernel,by decide +kernel⟩
noncomputable abbrev Zak:Stmt:=top 25
theorem Yr:FnScope ["_law_script","_law_ledger_here","_law_n","_law_name","_law_takers_here","_law_handed","_law_hands","_law_found"] ["_law_script"] (Zi Zak):=⟨rfl,rfl,rfl,by decide +kernel,rfl,by decide +kernel,by decide +kernel⟩
structure Txt (K:Frag)(g:Ga)(mg:Str->Option Value):Prop where
  z_isinstance:mg "isinstance"=none
  z_int:mg "int"=none
  z_bool:mg "bool"=none
  z_tuple:mg "tuple"=none
  z_len:mg "len"=none
  z_range:mg "range"=none
  z_list:mg "list"=none
  z_str:mg "str"=none
  z_sorted:mg "sorted"=none
  z_dict:mg "dict"=none
  z_enumerate:mg "enumerate"=none
  z_sum:mg "sum"=none
  Qay:mg "NOUGHT"=some (.ref g.NOUGHT)
  Qan:∀ H,SqT K H g.NOUGHT [.int 0, .int 1]
local macro_rules|`(tactic| walk_at "ss") => `(tactic| first|exact rfl|assumption|exact Zc7 (Nat.le_of_ble_eq_true rfl)|(show(0:Int)<_;decide)|exact⟨by decide,by decide⟩|exact .inl ⟨by decide,by decide⟩|exact .inr ⟨by decide,by decide⟩|exact Z5.k (k:=Sum.inr _) (by assumption)|exact SqL.of (by assumption)|exact SqL.of Zd|exact SqT.of Zd|exact SqT.of (by assumption)|exact .inl (SqL.of (by assumption))|exact .inr (SqT.of (by assumption))|exact .inl ⟨_,SqL.of (by assumption),rfl⟩|exact⟨_,SqL.of (by assumption)⟩|exact⟨_,SqL.of Zd⟩|exact .inl ⟨rfl,_,SqL.of (by assumption)⟩|exact Txt.Qan (by assumption)|decide)
local macro_rules|`(tactic| walk_at "rd") => `(tactic| repeat (first|(apply And.intro;· walk_at "ss")|apply Exists.intro))
local macro_rules|`(tactic| walk_at "g") => `(tactic| repeat (first|(apply And.intro;· walk_at "ss")|((fail_if_success (show ∃ _:Nat->Nat->St->Hp->Prop,_));(fail_if_success (show ∃ _:Nat->St->Hp->Prop,_));apply Exists.intro)))
local macro_rules|`(tactic| walk_at "v") => `(tactic| first|exact Or.inl rfl|exact Or.inr (Or.inl rfl)|exact Or.inr (Or.inr rfl))
local macro_rules|`(tactic| walk_at "u") => `(tactic| first|exact .inl rfl|exact .inr rfl|assumption)
local macro_rules|`(tactic| walk_at "n") => `(tactic| first|exact nobehind _ (by decide) (by decide)|rfl)
local macro_rules|`(tactic| walk_at "w") => `(tactic| exact⟨by rfl,by walk_at "v",by decide,by decide⟩)
theorem qv {X:Cx}(i:Nat){x:Str}{pos:Pos}(h:X.N[i]? = some x/\Vis X.env.scope x/\(x == ("__debug__":Str))=false/\(x == ("__classdict__":Str))=false):PE X (.Name x pos) (tVar i):=@pv X i x pos h.1 h.2.1 h.2.2.1 h.2.2.2
noncomputable def JE (K:Frag)(g:Ga):Sp:=λ vs H Q E=>∃ a b:Int,vs=[.int a, .int b]/\0<=a/\0<=b/\Q (.int (Sh.G a b)) H
noncomputable def JD (K:Frag)(g:Ga):Sp:=λ vs H Q E=>∃ n d:Int,vs=[.int n, .int d]/\0<=n/\0<d/\d.natAbs<BIG/\∀ p,H p=none->Q (.ref p) (upd H p (.tup [.int (n / Sh.G n d), .int (d / Sh.G n d)]))
noncomputable def Za0 (K:Frag)(g:Ga):Sp:=λ vs H Q E=>∃(p q:Addr)(a b c d:Int),vs=[.ref p, .ref q]/\Two K H p q a b c d/\∀ r,H r=none->Q (.ref r) (upd H r (.tup (Jy (a * d+c * b) (b * d))))
noncomputable def Zaj (K:Frag)(g:Ga):Sp:=λ vs H Q E=>∃(p q:Addr)(a b c d:Int),vs=[.ref p, .ref q]/\Two K H p q a b c d/\∀ r,H r=none->Q (.ref r) (upd H r (.tup (Jy (a * c) (b * d))))
noncomputable def X7 (K:Frag)(g:Ga):Sp:=λ vs H Q E=>∃(l:Addr)(es:List En),vs=[.ref l]/\Led H l es/\(Zr es).Nodup/\es.length<=60/\∀ d H',Zx H H'->H d=none->Dic K H' d es->Q (.ref d) H'
noncomputable def Xn (K:Frag)(g:Ga):Sp:=λ vs H Q E=>∃(d:Addr)(es:List En),vs=[.ref d]/\Dic K H d es/\(Zr es).Nodup/\es.length<60/\(∀ e∈es,YX e)/\∀ l' H' es',Zx H H'->H l'=none->Led H' l' es'->Can es es'->Q (.ref l') H'
noncomputable def YJ (K:Frag)(g:Ga):Sp:=λ vs H Q E=>∃(d lt:Addr)(es ts:List En)(k:Str),vs=[.ref d, .str k, .ref lt]/\Dic K H d es/\OkL es/\PyData.strOk k=true/\Led H lt ts/\(∀ e∈ts,TkE e)/\ts.length<=6/\∀ d' H',Zx H H'->H d'=none->((k∉Zr es/\Dic K H' d' es)\/(k∈Zr es/\Dic K H' d' ((ts.map (pt (look es k))).foldl ZW (es.filter λ e=>decide (e.1≠k)))))->Q (.ref d') H'
noncomputable def JC (K:Frag)(g:Ga):Sp:=λ vs H Q E=>∃(l lt:Addr)(es ts:List En)(k:Str),vs=[.ref l, .str k, .ref lt]/\Led H l es/\OkL es/\PyData.strOk k=true/\Led H lt ts/\(∀ e∈ts,TkE e)/\ts.length<=6/\∀ l' H' es',Zx H H'->H l'=none->Led H' l' es'->ZaW es ts k es'->Q (.ref l') H'
noncomputable def X4 (K:Frag)(g:Ga):Sp:=λ vs H Q E=>∃ i:Int,vs=[.int i]/\Q (.bl true) H
noncomputable def YI (K:Frag)(g:Ga):Sp:=λ vs H Q E=>∃(a:Addr)(ns:List Int)(k:Int),vs=[.ref a, .int k]/\SqL K H a (ns.map V.int)/\0<=k/\∀ c:Int,Q (.int c) H
noncomputable def XQ (K:Frag)(g:Ga):Sp:=λ vs H Q E=>∃ c p:Int,vs=[.int c, .int p]/\∀ r:Int,Q (.int r) H
noncomputable def XO (K:Frag)(g:Ga):Sp:=λ vs H Q E=>∃ n:Int,vs=[.int n]/\∀ z:Str,z.length<=8->PyData.strOk z=true->Q (.str z) H
noncomputable def Xc (K:Frag)(g:Ga):Sp:=λ vs H Q E=>∃ a b:Int,vs=[.int a, .int b]/\0<=a/\0<=b/\Q (.int (Sh.G a b)) H
noncomputable def X5 (K:Frag)(g:Ga):Sp:=λ vs H Q E=>∃ n d:Int,vs=[.int n, .int d]/\0<=n/\0<d/\d.natAbs<BIG/\∀ p,H p=none->Q (.ref p) (upd H p (.tup [.int (n / Sh.G n d), .int (d / Sh.G n d)]))
noncomputable def X3 (K:Frag)(g:Ga):Sp:=λ vs H Q E=>∃(p q:Addr)(a b c d:Int),vs=[.ref p, .ref q]/\Two K H p q a b c d/\∀ r,H r=none->Q (.ref r) (upd H r (.tup (Jy (a * d+c * b) (b * d))))
noncomputable def YA (K:Frag)(g:Ga):Sp:=λ vs H Q E=>∃(p:Addr)(x y:Int),vs=[.ref p]/\H p=some (.tup [.int x, .int y])/\0<=x/\0<y/\Sh.G x y=1/\Q (.bl true) H
noncomputable def Yi (K:Frag)(g:Ga):Sp:=λ vs H Q E=>∃(l:Addr)(es:List En),vs=[.ref l]/\Led H l es/\es.Pairwise (λ a b=>ltS a.1 b.1)/\(∀ e∈es,YX e/\e.2.1≠0)/\∀ H',Zx H H'->Q (.bl true) H'
noncomputable def Xo (K:Frag)(g:Ga):Sp:=λ vs H Q E=>∃(l:Addr)(es:List En),vs=[.ref l]/\Led H l es/\es.length<=13/\(∀ e∈es,BK 118 e.2.1 e.2.2)/\∀(p:Addr) H' (n d:Int),Zx H H'->SqT K H' p [.int n, .int d]->0<=n->0<d->Sh.G n d=1->vl n d=ZD es->Q (.ref p) H'
noncomputable def Xa (K:Frag)(g:Ga):Sp:=λ vs H Q E=>∃(d:Addr)(es:List En),vs=[.ref d]/\Dic K H d es/\(Zr es).Nodup/\es.length<60/\(∀ e∈es,YX e)/\∀ l' H' es',Zx H H'->H l'=none->Led H' l' es'->Can es es'->Q (.ref l') H'
noncomputable def Xb (K:Frag)(g:Ga):Sp:=λ vs H Q E=>∃ n m:Int,vs=[.int n, .int m]/\0<=m/\m<=20/\∀ l' H' es',Zx H H'->H l'=none->Led H' l' es'->es'.Pairwise (λ a b=>ltS a.1 b.1)->(∀ e∈es',OkE e/\e.2.1≠0)->(es'.length:Int)<=m->Q (.ref l') H'
noncomputable def Y9 (K:Frag)(g:Ga):Sp:=λ vs H Q E=>∃(l:Addr)(es:List En)(k:Str)(n:Int),vs=[.ref l, .str k, .int n]/\Led H l es/\es.length<=6/\(∀ e∈es,PyData.strOk e.1=true)/\PyData.strOk k=true/\∀ l' H' ts,Zx H H'->H l'=none->Led H' l' ts->(∀ e∈ts,TkE e)->ts.length<=6->ZD ts=1->Q (.ref l') H'
noncomputable def X6 (K:Frag)(g:Ga):Sp:=λ vs H Q E=>∃(l lt:Addr)(es ts:List En)(k:Str),vs=[.ref l, .str k, .ref lt]/\Led H l es/\OkL es/\PyData.strOk k=true/\Led H lt ts/\(∀ e∈ts,TkE e)/\ts.length<=6/\∀ l' H' es',Zx H H'->H l'=none->Led H' l' es'->ZaW es ts k es'->Q (.ref l') H'
noncomputable def JX (K:Frag)(g:Ga):Sp:=λ vs H Q E=>∃(a:Addr)(ns:List Int),vs=[.ref a]/\SqL K H a (ns.map V.int)/\ns.length<=63/\∀ H',Q (.bl true) H'
section
variable (P:Program)(w0:World)(K:Frag)(g:Ga)(mg:Str->Option Value)(base:Heap)
noncomputable abbrev ZaB:Prop:=Dn P w0 K mg base 1 "common" ["one","other"] (JE K g)
noncomputable abbrev Jr:Prop:=Dn P w0 K mg base 2 "lowest" ["num","den"] (JD K g)
noncomputable abbrev Zcz:Prop:=Dn P w0 K mg base 3 "plus" ["one","other"] (Za0 K g)
noncomputable abbrev Zbd:Prop:=Dn P w0 K mg base 3 "times" ["one","other"] (Zaj K g)
noncomputable abbrev JQ:Prop:=Dn P w0 K mg base 1 "held_in" ["ledger"] (X7 K g)
noncomputable abbrev XT:Prop:=Dn P w0 K mg base 1 "ledger_of" ["held"] (Xn K g)
noncomputable abbrev Xi:Prop:=Dn P w0 K mg base 4 "held_passed" ["held","name","takers"] (YJ K g)
noncomputable abbrev ZaA:Prop:=Dn P w0 K mg base 5 "passed" ["ledger","name","takers"] (JC K g)
noncomputable abbrev JO:Prop:=Dn P w0 K mg base 1 "_law_num" ["_law_found"] (X4 K g)
noncomputable abbrev Xh:Prop:=Dn P w0 K mg base 1 "_law_cell_at" ["_law_script","_law_k"] (YI K g)
noncomputable abbrev Js:Prop:=Dn P w0 K mg base 1 "_law_rich" ["_law_cell","_law_place"] (XQ K g)
noncomputable abbrev Yw:Prop:=Dn P w0 K mg base 1 "_law_word" ["_law_n"] (XO K g)
noncomputable abbrev Yy:Prop:=Dn P w0 K mg base 1 "_law_common" ["_law_a","_law_b"] (Xc K g)
noncomputable abbrev Yo:Prop:=Dn P w0 K mg base 2 "_law_low" ["_law_num_here","_law_den"] (X5 K g)
noncomputable abbrev XL:Prop:=Dn P w0 K mg base 3 "_law_sum" ["_law_one","_law_other"] (X3 K g)
noncomputable abbrev YW:Prop:=Dn P w0 K mg base 2 "_law_is_share" ["_law_found"] (YA K g)
noncomputable abbrev YC:Prop:=Dn P w0 K mg base 3 "_law_is_ledger" ["_law_found"] (Yi K g)
noncomputable abbrev XU:Prop:=Dn P w0 K mg base 4 "_law_total" ["_law_ledger_here"] (Xo K g)
noncomputable abbrev Yx:Prop:=Dn P w0 K mg base 1 "_law_listed" ["_law_book"] (Xa K g)
noncomputable abbrev Xu:Prop:=Dn P w0 K mg base 3 "_law_ledger" ["_law_n","_law_most"] (Xb K g)
noncomputable abbrev Xt:Prop:=Dn P w0 K mg base 3 "_law_takers" ["_law_ledger_here","_law_name","_law_n"] (Y9 K g)
noncomputable abbrev JP:Prop:=Dn P w0 K mg base 4 "_law_due" ["_law_ledger_here","_law_name","_law_takers_here"] (X6 K g)
end
section
variable {P:Program}{w0:World}{K:Frag}{g:Ga}{mg:Str->Option Value}{base:Heap}
theorem Zbw {f:Addr}{fd:FuncData}(F:Fun K "common" "common" Jc f fd)(T:Txt K g mg)  : FnOk P w0 K mg base CX0 1 f fd ["one","other"] (JE K g):=by
  refine F.ok JH (λ vs H Q E h=>?_) (λ cdv A outer s H vs Q E hr h=>?_)
  . obtain⟨a,b,rfl,_⟩:=h;rfl
  obtain⟨a,b,rfl,ha,hb,q⟩:=h;refine⟨_,(
(Zc (Zal PassesOwn.never (Zt JJ (pv 1) Zb (Zz _))
 (Zf (Zb0 (i:=0) (j:=1) rfl JH.nd rfl rfl (by decide) rfl rfl (Za (pv 1) (Za (Zk ZS (pv 0) (pv 1)) Ze)) rfl)))
 (Zf (Zn (pv 0))))),?_⟩
  refine Zae (λ σ H'=>∃ x y:Int,σ=[some (.int x),some (.int y)]/\0<=x/\0<=y/\Sh.G x y=Sh.G a b/\H'=H) (λ σ _=>match σ with|[_,some (.int y)]=>y.toNat|_=>0) ⟨a,b,rfl,ha,hb,rfl,rfl⟩ ?_ ?_
  . rintro σ H' ⟨x,y,rfl,hx,hy,hg,rfl⟩;refine⟨_,rfl,_,_,rfl,rfl,_,rfl,?_⟩;refine Ym (λ c=>?_) (λ c=>?_)
    . have c':0<y:=of_decide_eq_true c;refine⟨_,rfl,_,rfl,_,rfl,_,_,rfl,rfl,c',_,_,rfl,⟨y,x % y,rfl,hy,emod_nonneg x (by omega),(Sh.G_step hx c').trans hg,rfl⟩,?_⟩;have h1:=emod_lt_of_pos x c';have h2:=emod_nonneg x (show y≠0 by omega);show(x % y).toNat<y.toNat;omega
    . have c':¬ 0<y:=of_decide_eq_false (Bool.eq_false_iff.mpr c);refine⟨_,rfl,?_⟩;have e:x=Sh.G a b:=(Sh.G_zero hx hy c').trans hg;rw[e];exact q
  . rintro σ H Q Q' h ⟨v,e,i,j,e1,e2,k,e3,q⟩;exact⟨v,e,i,j,e1,e2,k,e3,h _ _ q⟩
theorem Zbv {f:Addr}{fd:FuncData}(F:Fun K "lowest" "lowest" Jb f fd)(T:Txt K g mg)(Qao:ZaB P w0 K g mg base):FnOk P w0 K mg base CX0 2 f fd ["num","den"] (JD K g):=by
  refine F.ok JG (λ vs H Q E h=>?_) (λ cdv A outer s H vs Q E hr h=>?_)
  . obtain⟨n,d,rfl,_⟩:=h;rfl
  obtain⟨n,d,rfl,hn,hd,hs,q⟩:=h;refine⟨_,(
(Zc (Zm (i:=2) JG.nd rfl (Or.inl rfl) (Zu Qao (h_ hr) (Za (pv 0) (Za (pv 1) Ze))))
 (Zf (Zn (ZQ (Za (Zk Xq (pv 0) (pv 2)) (Za (Zk Xq (pv 1) (pv 2)) Ze))))))),?_⟩
  have g0:=Sh.G_pos (a:=n) hd;have g1:=Sh.G_le (a:=n) hd;have g2:(Sh.G n d).natAbs<BIG:=Nat.lt_of_le_of_lt (by omega) hs;refine⟨_,rfl,_,rfl,n,d,rfl,hn,Int.le_of_lt hd,?_⟩;exact⟨_,rfl,_,rfl,_,_,rfl,rfl,⟨g0,g2⟩,_,rfl,_,rfl,_,_,rfl,rfl,⟨g0,g2⟩,(by show 2<=sizeLine;decide),q⟩
theorem ZcZ {f:Addr}{fd:FuncData}(F:Fun K "plus" "plus" ZaK f fd)(T:Txt K g mg)(Qac:Jr P w0 K g mg base):FnOk P w0 K mg base CX0 3 f fd ["one","other"] (Za0 K g):=by
  refine F.ok ZcI (λ vs H Q E h=>?_) (λ cdv A outer s H vs Q E hr h=>?_)
  . obtain⟨p,q,a,b,c,d,rfl,_⟩:=h;rfl
  obtain⟨p,q,a,b,c,d,rfl,t,k⟩:=h;refine⟨_,(
(Zf (Zn (Zu Qac (h_ hr) (Za (Zk ZT (Zk Z1 (Zo Zl (pv 0) Zb (λ _ _=>rfl)) (Zo Zl (pv 1) Zb (λ _ _=>rfl))) (Zk Z1 (Zo Zl (pv 1) Zb (λ _ _=>rfl)) (Zo Zl (pv 0) Zb (λ _ _=>rfl)))) (Za (Zk Z1 (Zo Zl (pv 0) Zb (λ _ _=>rfl)) (Zo Zl (pv 1) Zb (λ _ _=>rfl))) Ze)))))),?_⟩
  exact⟨_,rfl,p,_,_,_,rfl,rfl,t.h1,rfl,_,rfl,q,_,_,_,rfl,rfl,t.h2,rfl,_,_,rfl,rfl,⟨t.ba,t.bdd⟩,_,rfl,q,_,_,_,rfl,rfl,t.h2,rfl,_,rfl,p,_,_,_,rfl,rfl,t.h1,rfl,_,_,rfl,rfl,⟨t.bc,t.bb⟩,_,_,rfl,rfl,
    _,rfl,p,_,_,_,rfl,rfl,t.h1,rfl,_,rfl,q,_,_,_,rfl,rfl,t.h2,rfl,_,_,rfl,rfl,⟨t.bb,t.bdd⟩,_,_,rfl,Int.add_nonneg t.ad.1 t.cb.1,t.bd.1,t.bBD,k⟩
theorem Zb9 {f:Addr}{fd:FuncData}(F:Fun K "times" "times" JZ f fd)(T:Txt K g mg)(Qac:Jr P w0 K g mg base):FnOk P w0 K mg base CX0 3 f fd ["one","other"] (Zaj K g):=by
  refine F.ok ZbV (λ vs H Q E h=>?_) (λ cdv A outer s H vs Q E hr h=>?_)
  . obtain⟨p,q,a,b,c,d,rfl,_⟩:=h;rfl
  obtain⟨p,q,a,b,c,d,rfl,t,k⟩:=h;refine⟨_,(
(Zf (Zn (Zu Qac (h_ hr) (Za (Zk Z1 (Zo Zl (pv 0) Zb (λ _ _=>rfl)) (Zo Zl (pv 1) Zb (λ _ _=>rfl))) (Za (Zk Z1 (Zo Zl (pv 0) Zb (λ _ _=>rfl)) (Zo Zl (pv 1) Zb (λ _ _=>rfl))) Ze)))))),?_⟩
  exact⟨_,rfl,p,_,_,_,rfl,rfl,t.h1,rfl,_,rfl,q,_,_,_,rfl,rfl,t.h2,rfl,_,_,rfl,rfl,⟨t.ba,t.bc⟩,
    _,rfl,p,_,_,_,rfl,rfl,t.h1,rfl,_,rfl,q,_,_,_,rfl,rfl,t.h2,rfl,_,_,rfl,rfl,⟨t.bb,t.bdd⟩,_,_,rfl,t.ac.1,t.bd.1,t.bBD,k⟩
theorem ZaQ {f:Addr}{fd:FuncData}(F:Fun K "held_in" "held_in" XC f fd)(T:Txt K g mg)  : FnOk P w0 K mg base CX0 1 f fd ["ledger"] (X7 K g):=by
  refine F.ok ZaJ (λ vs H Q E h=>?_) (λ cdv A outer s H vs Q E hr h=>?_)
  . obtain⟨l,es,rfl,_⟩:=h;rfl
  obtain⟨l,es,rfl,hL,hnd,hlen,q⟩:=h;refine⟨_,(
(Zf (Zn (pe_dc (xs:=["name","num","den"]) (cl:=[]) (caps:=[]) rfl (Z7 (pv 0)) (λ _ _ _ _ _=>show PG _ _ (gTup K 3 (Za8 (Zax 0) (Za8 (Zax 1) (Za8 (Zax 2) gNil)))) from XF rfl (Zy (Zv (i:=0) (show List.Nodup (["name","num","den"]:List Str) by decide +kernel) rfl (Or.inl rfl)) (Zy (Zv (i:=1) (show List.Nodup (["name","num","den"]:List Str) by decide +kernel) rfl (Or.inl rfl)) (Zy (Zv (i:=2) (show List.Nodup (["name","num","den"]:List Str) by decide +kernel) rfl (Or.inl rfl)) Y0)))) (λ _ _ _ _ _=>pv 0) (λ _ _ _ _ _=>ZQ (Za (pv 1) (Za (pv 2) Ze))) rfl (by decide +kernel) rfl (by decide +kernel) (λ _ _ h=>nomatch h) (J9 rfl) (λ p hp=>nomatch hp))))),?_⟩
  obtain⟨xs,hl,hx⟩:=hL.len;refine⟨_,rfl,l,rfl,⟨xs,SqL.of hl⟩,λ D hD=>⟨λ i m H2=>i<=es.length/\m=es.length - i/\Zx H H2/\Dic K H2 D (es.take i),⟨es.length,zero_le _,rfl,Zg hD _,[],rfl,Zd,λ _ h=>nomatch h⟩,?_⟩⟩;rintro i m H2 ⟨hi,rfl,sm,hd⟩;have hl2:SqL K H2 l xs:=sm.seq (SqL.of hl)
  by_cases ci:i<es.length
  . have ci':i<xs.length:=by omega
    refine .inr ⟨⟨xs,xs[i],hl2,getElem?_eq_getElem ci'⟩,λ x H' ⟨e,ex⟩ vals hv=>?_⟩;subst e;have ex':=ex xs hl2;obtain⟨p,e,rfl,he,hp⟩:=(hL.same sm).at (sm _ _ hl) ex';rw[getElem?_eq_getElem ci]at he;cases he
    match vals,hv with
    |[a,b,c],_=>
      refine⟨p,_,rfl,SqT.of hp,rfl,_,_,rfl,_,_,rfl,_,_,rfl,rfl,[_,_,_],rfl,rfl,?_⟩;refine⟨_,rfl,_,rfl,_,rfl,(by show 2<=sizeLine;decide),λ r hr0=>?_⟩;obtain⟨kvs,k1,k2,k3⟩:=Dic.step hd ci hnd hr0;exact⟨kvs,Sum.inr es[i].1,es.length - (i+1),rfl,k2,Zp (by omega),by omega,ci,rfl,YL sm hD hr0,k3⟩
  . have e:i=es.length:=by omega
    subst e;rw[take_length]at hd;exact .inl ⟨⟨xs,hl2,by omega⟩,q D H2 sm hD hd⟩
theorem J5 {f:Addr}{fd:FuncData}(F:Fun K "ledger_of" "ledger_of" YM f fd)(T:Txt K g mg)  : FnOk P w0 K mg base CX0 1 f fd ["held"] (Xn K g):=by
  refine F.ok JY (λ vs H Q E h=>?_) (λ cdv A outer s H vs Q E hr h=>?_)
  . obtain⟨d,es,rfl,_⟩:=h;rfl
  obtain⟨d,es,rfl,hD,hnd,hlen,hN,q⟩:=h;refine⟨_,(
(Zf (Zn (Zb4 (x:="name") (cl:=[("held",s.heap.objs.size+1)]) (caps:=[("held",0)]) rfl (Z7 (ZC (Yz rfl) rfl T.z_sorted PyProof.Rows.boot_sorted (Za (pv 0) Ze))) (λ _ _ _ _ _=>Zb1 (Zt (show OpR _ (compareOp .NotEq) (rEqD K true) from Jj hr.units) (Z8 (Z4 hr) (pv 1) (pv 0) (λ _ _=>rfl)) (Za3 (v:=.ref g.NOUGHT) rfl T.Qay rfl) (Zz _))) (λ _ _ _ _ _=>(ZQ (Za (pv 0) (Za (Zo (show IxR _ (rIxT K) from Zl) (Z8 (Z4 hr) (pv 1) (pv 0) (λ _ _=>rfl)) Zb (λ _ _=>rfl)) (Za (Zo (show IxR _ (rIxT K) from Zl) (Z8 (Z4 hr) (pv 1) (pv 0) (λ _ _=>rfl)) Zb (λ _ _=>rfl)) Ze))))) rfl (by decide +kernel) rfl (by decide +kernel) rfl (λ _ _ h=>h) (J9 rfl) (λ p hp=>by rw[List.mem_singleton.mp hp];exact⟨rfl,rfl,by first|exact .inl rfl|exact .inr rfl⟩) (by decide +kernel))))),?_⟩
  obtain⟨ws,hw,hW⟩:=id hD;refine⟨_,rfl,d,_,Zr es,rfl, .inl hW.1,Zaw hw,by rw[XI hw];omega,λ ss l hp hs hl=>?_⟩;have s1:Zx H (upd H l (.lst (ss.map V.str))):=Zg hl _;have hsl:ss.length<=60:=by rw[hp.length_eq];unfold Zr;rw[length_map];omega
  refine⟨l,rfl,⟨_,SqL.of Zd⟩,λ D hD0=>⟨λ i m H2=>i<=ss.length/\m=ss.length - i/\Zx (upd H l (.lst (ss.map V.str))) H2/\Led H2 D (Jh es (ss.take i)),⟨ss.length,zero_le _,rfl,Zg hD0 _,[],rfl,Zd,λ _ h=>nomatch h⟩,?_⟩⟩;rintro i m H2 ⟨hi,rfl,sm,hled⟩;have hl2:SqL K H2 l (ss.map V.str):=sm.seq (SqL.of Zd)
  by_cases ci:i<ss.length
  . refine .inr ⟨⟨_, .str ss[i],hl2,by simp[ci]⟩,λ x H' ⟨e,ex⟩=>?_⟩;subst e;have ex':=ex _ hl2;rw[getElem?_map,getElem?_eq_getElem ci]at ex';cases ex';obtain⟨ws2,hw2,hW2⟩:=hD.same (s1.trans sm);have kin:ss[i]∈Zr es:=hp.mem_iff.mp (getElem_mem ci);rcases Dic.get (k:=ss[i]) hw2 hW2 with ⟨p,g1,g2,_⟩|⟨_,_,nk⟩
    . have hget:Z5 H' d (.str ss[i]) (some (.ref p)):=by rw[<- g1];exact Z5.k (k:=Sum.inr ss[i]) hW2.1
      have hn:=hN _ (Yl kin);refine⟨_,rfl,_,rfl,d,_,rfl,hget,shD _ _,shD 0 1,J0 g2,J0 (T.Qan _),YY _ _,YY _ _,_,rfl,?_⟩;refine Ym (λ c=>?_) (λ c=>?_)
      . have c':(look es ss[i]).1≠0:=(Za4 (k:=ss[i]) (n:=(look es ss[i]).1) (d:=(look es ss[i]).2) hn).mp c;refine⟨_,rfl,_,rfl,_,rfl,d,_,rfl,hget,p,_,_,_,rfl,rfl,g2,rfl,_,rfl,_,rfl,d,_,rfl,hget,p,_,_,_,rfl,rfl,g2,rfl,(by show 3<=sizeLine;decide),λ r hr0=>?_⟩;obtain⟨ys,y1,y2,y3⟩:=Led.push (e:=(ss[i],look es ss[i])) hled hr0;refine⟨ys,ss.length - (i+1),y2,Zp ?_,by omega,ci,rfl,YL sm hD0 hr0,?_⟩
        . rw[y1];unfold Jh;rw[length_map];exact le_trans (length_filter_le _ _) (by rw[length_take];omega)
        . rw[YZ ci,if_pos c'];exact y3
      . have c':¬ (look es ss[i]).1≠0:=λ z=>c ((Za4 (k:=ss[i]) (n:=(look es ss[i]).1) (d:=(look es ss[i]).2) hn).mpr z);exact⟨ss.length - (i+1),by omega,ci,rfl,sm,by rw[YZ ci,if_neg c'];exact hled⟩
    . exact absurd kin nk
  . have e:i=ss.length:=by omega
    subst e;rw[take_length]at hled;exact .inl ⟨⟨_,hl2,by simp⟩,q D H2 _ (s1.trans sm) (s1.free hD0) hled (ZaD hnd hp hs)⟩
theorem Jm {f:Addr}{fd:FuncData}(F:Fun K "held_passed" "held_passed" Yd f fd)(T:Txt K g mg)(Qap:Zcz P w0 K g mg base)(Qaq:Zbd P w0 K g mg base):FnOk P w0 K mg base CX0 4 f fd ["held","name","takers"] (YJ K g):=by
  refine F.ok ZG (λ vs H Q E h=>?_) (λ cdv A outer s H vs Q E hr h=>?_)
  . obtain⟨d,lt,es,ts,k,rfl,_⟩:=h;rfl
  obtain⟨d,lt,es,ts,k,rfl,hD,hok,hk,hT,htk,htl,q⟩:=h;refine⟨_,(
(Zc (Zm (i:=3) ZG.nd rfl (Or.inl rfl) (Y1 ZaT rfl T.z_dict PyProof.Rows.boot_dict (Za (pv 0) Ze)))
 (Zc (ZX (ZbZ (Zbs (Z4 hr) (pv 1) (pv 0)))
 (Zf (Zn (pv 3)))
 ZH)
 (Zc (ZcR (pv 3) (pv 1))
 (Zc (Zm (i:=4) ZG.nd rfl (Or.inl rfl) ZcW)
 (Zc (Yf PassesOwn.never rfl (Z7 (pv 2)) (XF rfl (Zy (Zv (i:=5) ZG.nd rfl (Or.inl rfl)) (Zy (Zv (i:=6) ZG.nd rfl (Or.inl rfl)) (Zy (Zv (i:=7) ZG.nd rfl (Or.inl rfl)) Y0))))
 (Zc (Zm (i:=8) ZG.nd rfl (Or.inl rfl) (ZQ (Za (Zan (Z4 hr) (pv 3) (pv 5) (Za3 (v:=.ref g.NOUGHT) rfl T.Qay rfl) ⟨rfl,rfl,rfl,rfl⟩) (Za (pv 6) (Za (pv 7) Ze)))))
 (Zc (ZX (ZbZ (Zbr hr.units (pv 8) (pv 4)))
 (Zf (ZcQ hr.units (pv 4) (pv 8) (Zu Qap (h_ hr) (Za (Zo Zl (pv 8) Zb (λ _ _=>rfl)) (Za (Zu Qaq (h_ hr) (Za (Z8 (Z4 hr) (pv 0) (pv 1) (λ _ _=>rfl)) (Za (ZQ (Za (pv 6) (Za (pv 7) Ze))) Ze))) Ze))) rfl))
 ZH)
 (Zf (Xp (Z4 hr) (pv 3) (pv 5) (ZcX hr.units (pv 4) (pv 8) (λ _ _=>rfl)) rfl)))))
 (Zf (Zn (pv 3))))))))),?_⟩
  obtain⟨ws,hw,hW⟩:=id hD;obtain⟨bk,gg,hz⟩:=Za6 hok k;walk_at "g";refine⟨hW.1,λ B hB=>?_⟩;have s1:=Zg hB (.dK (ws.map λ w=>((Sum.inr w.1.1:Key),V.ref w.2)));have D1:Xx K (upd H B (.dK (ws.map λ w=>((Sum.inr w.1.1:Key),V.ref w.2)))) B ws:=⟨Zd,λ w hw=>s1.tupq (hW.2 w hw)⟩;have g0:Z5 (upd H B (.dK (ws.map λ w=>((Sum.inr w.1.1:Key),V.ref w.2)))) d (.str k) _:=Z5.k (k:=Sum.inr k) (s1 _ _ hW.1);generalize upd H B (.dK (ws.map λ w=>((Sum.inr w.1.1:Key),V.ref w.2)))=H1 at *;walk_at "g";rcases Dic.get (k:=k) hw hW with ⟨ps,g1,g2,hin⟩|⟨g1,g2,hni⟩
  rotate_left
  . rw[g1];refine iteT ?_;walk_at "g";exact q B H1 s1 hB (.inl ⟨hni,ws,hw,D1⟩)
  . rw[g1]at g0 ⊢;refine Y6 ?_;walk_at "g";refine⟨D1.1,show V.str k=kV (Sum.inr k) from rfl,by rw[g1];rfl,?_⟩;have D2:=Dic.drop (k:=k) hw D1;have s2:=ZL (u:=.dK (Xr (ws.map λ w=>((Sum.inr w.1.1:Key),V.ref w.2)) (Sum.inr k))) s1 hB;generalize upd H1 B (.dK (Xr (ws.map λ w=>((Sum.inr w.1.1:Key),V.ref w.2)) (Sum.inr k)))=H2 at D2 s2 ⊢;clear g0 D1 s1;walk_at "g";intro Sm hSm;have s3:=s2.trans (Zg hSm (nkO P w0 Sm []));have D3:=D2.same (Zg hSm (nkO P w0 Sm []));have hSm0:=s2.free hSm;have N3:NDict P w0 K (upd H2 Sm (nkO P w0 Sm [])) Sm []:=⟨Zd,zero_le _,λ _ h=>nomatch h⟩;obtain⟨xs,hl,hx⟩:=hT.len;have hlS:=s3.seq (SqL.of (K:=K) hl);have hE:∀ e∈ts.map (pt (look es k)),Ent e:=λ e h=>by
      obtain⟨x,hx,rfl⟩:=List.mem_map.mp h;exact YV bk (htk x hx)
    have hEi:∀ i,∀ e∈(ts.take i).map (pt (look es k)),Ent e:=λ i e h=>by
      obtain⟨x,hx,rfl⟩:=List.mem_map.mp h;exact YV bk (htk x (List.mem_of_mem_take hx))
    refine⟨_,rfl,lt,rfl,⟨xs,hlS⟩,Yn (xs:=xs) (λ i σ H4=>Zx H H4/\Dic K H4 B (((ts.take i).map (pt (look es k))).foldl ZW (es.filter λ e=>decide (e.1≠k)))/\(∃ wz:List NW,NDict P w0 K H4 Sm wz/\wz.length<=i/\∀ x∈wz,SqT K H4 x.2.2 (smV (look es k) x.1))/\∃ v5 v6 v7 v8,σ=[some (.ref d),some (.str k),some (.ref lt),some (.ref B),some (.ref Sm),v5,v6,v7,v8]) ⟨s3,D3,⟨[],N3,le_refl _,λ _ h=>nomatch h⟩,_,_,_,_,rfl⟩ ?_ ?_ ?_⟩
    . rintro i σ H4 _ ⟨sm,_⟩;exact sm.seq (SqL.of hl)
    . rintro i x σ H4 hxi ⟨sm,hD4,⟨wz,N4,wl,wv⟩,v5,v6,v7,v8,rfl⟩;obtain⟨r,e,rfl,he,hr⟩:=(hT.same sm).at (sm _ _ hl) hxi;have ci:i<ts.length:=(List.getElem?_eq_some_iff.mp he).1;have ee:ts[i]=e:=(List.getElem?_eq_some_iff.mp he).2;have tk:=htk e (mem_of_getElem? he);have PBc:=(Y3 hok k).folds (hEi i);have w2:=Xg (s:=look es k) ci;rw[ee]at w2;rw[w2];have lc:((ts.take i).map (pt (look es k))).length<=5:=by rw[length_map,length_take];omega
      generalize (ts.take i).map (pt (look es k))=F at *;obtain⟨w4,hw4,hW4⟩:=id hD4;have hrT:=SqT.of (K:=K) hr;obtain⟨o,p',o1,o2,o3⟩:∃(o:Option V)(p':Addr),Z5 H4 B (.str e.1) o/\o.getD (.ref g.NOUGHT) = .ref p'/\SqT K H4 p' [.int (look (F.foldl ZW (es.filter λ e=>decide (e.1≠k))) e.1).1, .int (look (F.foldl ZW (es.filter λ e=>decide (e.1≠k))) e.1).2]:=by
        rcases Dic.get (k:=e.1) hw4 hW4 with ⟨p',g1,g2,_⟩|⟨g1,g2,_⟩
        . exact⟨_,p',Z5.k (k:=Sum.inr e.1) hW4.1,by rw[g1];rfl,g2⟩
        . exact⟨_,g.NOUGHT,Z5.k (k:=Sum.inr e.1) hW4.1,by rw[g1];rfl,by rw[g2];exact T.Qan _⟩
      have PBl:=PBc.look e.1;obtain⟨lk,elk⟩:∃ lk,look (F.foldl ZW (es.filter λ e=>decide (e.1≠k))) e.1=lk:=⟨_,rfl⟩;rw[elk]at o3 PBl;have lw4:(w4.map λ w=>((Sum.inr w.1.1:Key),V.ref w.2)).length<sizeLine:=Zp (by rw[XI hw4];have:=PBc.2.2.1;omega);have bw:Jy (lk.1 * (pt (look es k) e).2.2+(pt (look es k) e).2.1 * lk.2) (lk.2 * (pt (look es k) e).2.2)=smV (look es k) ((lk.1,lk.2),e.2.1,e.2.2):=rfl;have dput:∀ {H6:Hp} {r6:Addr},Xx K H6 B w4->SqT K H6 r6 (smV (look es k) ((lk.1,lk.2),e.2.1,e.2.2))->Dic K (upd H6 B (.dK (Yj (w4.map λ w=>((Sum.inr w.1.1:Key),V.ref w.2)) (Sum.inr e.1) (V.ref r6)))) B (List.foldl ZW (List.filter (λ e=>decide (e.1≠k)) es) (F++[pt (look es k) e])):=λ {H6 r6} h1 h2=>by
        have z:=Dic.put (k:=e.1) hw4 h1 h2;rw[JF];revert z elk;generalize List.foldl ZW (List.filter (λ e=>decide (e.1≠k)) es) F=G0;intro elk z;unfold ZW;rw[show(pt (look es k) e).1=e.1 from rfl,elk];exact z
      walk_at "g";refine⟨.inl ⟨_, .inl hW4.1⟩,_,rfl,o,o1,?_⟩;rw[o2];walk_at "g";intro pk hpk;have t1:=Zg hpk (.tup [.ref p', .int e.2.1, .int e.2.2]);have nk5:Xv K (upd H4 pk (.tup [.ref p', .int e.2.1, .int e.2.2])) ((lk.1,lk.2),e.2.1,e.2.2) pk:=⟨p',Zd,t1.tupq o3⟩;have hpk5:SqT K (upd H4 pk (.tup [.ref p', .int e.2.1, .int e.2.2])) pk [.ref p', .int e.2.1, .int e.2.2]:=SqT.of Zd;have N5:=N4.same t1;have g5:Z5 (upd H4 pk (.tup [.ref p', .int e.2.1, .int e.2.2])) d (.str k) (some (.ref ps)):=by
        have z:=Z5.k (k:=Sum.inr k) (t1 _ _ (sm _ _ hW.1));rw[g1]at z;exact z
      have o5:=t1.tupq o3;have ps5:=t1.tupq (sm.tupq g2);have wv5:∀ x∈wz,SqT K (upd H4 pk (.tup [.ref p', .int e.2.1, .int e.2.2])) x.2.2 (smV (look es k) x.1):=λ x hx=>t1.tupq (wv x hx);have s5:=sm.trans t1;have D5:Xx K (upd H4 pk (.tup [.ref p', .int e.2.1, .int e.2.2])) B w4:=⟨t1 _ _ hW4.1,λ w hx=>t1.tupq (hW4.2 w hx)⟩;generalize upd H4 pk (.tup [.ref p', .int e.2.1, .int e.2.2])=H5 at *;walk_at "g";cases hlk:YB wz ((lk.1,lk.2),e.2.1,e.2.2) with
      |some r6=>
        refine Y6 ?_;obtain⟨pq,hpq⟩:=Zbz hlk;have v6:=wv5 _ hpq;walk_at "g";exact⟨XY.k (k:=Sum.inr e.1) D5.1 lw4,ZL s5 hB,dput D5 v6,⟨wz,N5.updD D5.1,by omega,λ x hx=>Zai (wv5 x hx) D5.1⟩,_,_,_,_,rfl⟩
      |none=>
        refine iteT ?_;walk_at "g";intro pa hpa;have t2:=Zg hpa (.tup [.int e.2.1, .int e.2.2]);have twa:=X2 (t2.tupq ps5) (SqT.of (Zd (H:=H5) (a:=pa) (o:=.tup [.int e.2.1, .int e.2.2]))) (bk.sh (by decide)) (tk.2.2.1.sh (by decide));refine⟨ps,pa,_,_,_,_,rfl,twa,λ pb hpb=>?_⟩;have t3:=t2.trans (Zg hpb (.tup (Jy ((look es k).1 * e.2.1) ((look es k).2 * e.2.2))));have hE1:=YV bk tk;have twb:=X2 (t3.tupq o5) (SqT.of (K:=K) (Zd (H:=upd H5 pa (.tup [.int e.2.1, .int e.2.2])) (a:=pb) (o:=.tup (Jy ((look es k).1 * e.2.1) ((look es k).2 * e.2.2))))) (PBl.sh (by omega)) (hE1.1.sh (by decide));refine⟨p',pb,_,_,_,_,rfl,twb,λ rr hrr=>?_⟩;have t4:=t3.trans (Zg hrr (.tup (smV (look es k) ((lk.1,lk.2),e.2.1,e.2.2))));have rr7:SqT K (upd (upd (upd H5 pa (.tup [.int e.2.1, .int e.2.2])) pb (.tup (Jy ((look es k).1 * e.2.1) ((look es k).2 * e.2.2)))) rr (.tup (smV (look es k) ((lk.1,lk.2),e.2.1,e.2.2)))) rr (smV (look es k) ((lk.1,lk.2),e.2.1,e.2.2)):=SqT.of Zd;have N7:=N5.same t4;have nk7:=nk5.same t4;have D7:Xx K _ B w4:=⟨t4 _ _ D5.1,λ w hx=>t4.tupq (D5.2 w hx)⟩;have wv7:=λ x hx=>t4.tupq (wv5 x hx);have s7:=s5.trans t4;refine⟨_,rfl,_,rfl,Sm,pk,_,wz,rr,rfl,rfl,rfl,N7,nk7,hlk,?_⟩;have N8:=N7.push (r:=rr) nk7 (by omega);have D8:Xx K (upd _ Sm (nkO P w0 Sm (wz++[(((lk.1,lk.2),e.2.1,e.2.2),pk,rr)]))) B w4:=⟨by rw[Zh (Yk D7.1 N7.obj (λ y=>by cases y))];exact D7.1,λ w hx=>tupN (D7.2 w hx) N7.obj⟩;have rr8:=tupN (u:=nkO P w0 Sm (wz++[(((lk.1,lk.2),e.2.1,e.2.2),pk,rr)])) rr7 N7.obj;have wv8:=λ x hx=>tupN (u:=nkO P w0 Sm (wz++[(((lk.1,lk.2),e.2.1,e.2.2),pk,rr)])) (wv7 x hx) N7.obj;have s8:=ZL (u:=nkO P w0 Sm (wz++[(((lk.1,lk.2),e.2.1,e.2.2),pk,rr)])) s7 hSm0;have lk8:=ZaR (p:=pk) (r:=rr) hlk;have nk8:=N8.ks _ (mem_append_right _ (List.mem_singleton.mpr rfl));refine⟨_,rfl,_,rfl,Sm,pk,_,_,rr,rfl,rfl,N8,nk8,lk8,?_⟩;walk_at "g";exact⟨XY.k (k:=Sum.inr e.1) D8.1 lw4,ZL s8 hB,dput D8 rr8,⟨_,N8.updD D8.1,by rw[length_append];exact Nat.succ_le_succ wl,λ x hx=>by
          rcases List.mem_append.mp hx with z|z
          . exact Zai (wv8 x z) D8.1
          . rw[List.mem_singleton.mp z];exact Zai rr8 D8.1⟩,_,_,_,_,rfl⟩
    . rintro σ H4 ⟨sm,hD4,_,v5,v6,v7,v8,rfl⟩;rw[hx,take_length]at hD4;walk_at "g";exact q B H4 sm hB (.inr ⟨hin,hD4⟩)
theorem Zbu {f:Addr}{fd:FuncData}(F:Fun K "passed" "passed" Ja f fd)(T:Txt K g mg)(Qar:XT P w0 K g mg base)(Qas:Xi P w0 K g mg base)(Qat:JQ P w0 K g mg base):FnOk P w0 K mg base CX0 5 f fd ["ledger","name","takers"] (JC K g):=by
  refine F.ok Zbp (λ vs H Q E h=>?_) (λ cdv A outer s H vs Q E hr h=>?_)
  . obtain⟨l,lt,es,ts,k,rfl,_⟩:=h;rfl
  obtain⟨l,lt,es,ts,k,rfl,hL,hok,hk,hT,htk,htl,q⟩:=h;refine⟨_,(
(Zf (Zn (Zu Qar (h_ hr) (Za (Zu Qas (h_ hr) (Za (Zu Qat (h_ hr) (Za (pv 0) Ze)) (Za (pv 1) (Za (pv 2) Ze)))) Ze))))),?_⟩
  have hnd:=Zcf hok.1;have hl6:=hok.2.1;walk_at "g";refine⟨by omega,λ d H1 s1 fd hD=>?_⟩;have hT1:=hT.same s1;walk_at "g";intro d2 H2 s2 fd2 hc;have hE:∀ e∈ts.map (pt (look es k)),Ent e:=λ e h=>by
    obtain⟨x,hx,rfl⟩:=List.mem_map.mp h;exact YV (Za6 hok k).1 (htk x hx)
  have hb1:∀ e∈es,YX e:=λ e he=>(hok.2.2 e he).1.1;rcases hc with ⟨hni,hD2⟩|⟨hin,hD2⟩
  . walk_at "g";refine⟨by omega,hb1,λ l' H' es' s' hl' hL' hc=>q l' H' es' (s1.trans (s2.trans s')) (s1.free (s2.free hl')) hL' (.inl ⟨by rw[XH hni],?_⟩)⟩;exact hc.uniq ⟨hok.1,λ e=>⟨λ h=>⟨h,(hok.2.2 e h).2⟩,λ h=>h.1⟩,le_refl _⟩
  . have p:=(Y3 hok k).folds hE;have pl:=p.2.2.1;rw[length_map]at pl;have hb2:∀ e∈(ts.map (pt (look es k))).foldl ZW (es.filter λ e=>decide (e.1≠k)),YX e:=λ e he=>(p.1 e he).1;have hnd2:=p.2.1;walk_at "g";refine⟨by omega,hb2,λ l' H' es' s' hl' hL' hc=>q l' H' es' (s1.trans (s2.trans s')) (s1.free (s2.free hl')) hL' (.inr ⟨?_,hc⟩)⟩;exact(hok.2.2 _ (Yl hin)).2
theorem ZaN {f:Addr}{fd:FuncData}(F:Fun K "_law_num" "_law_num" Xz f fd)(T:Txt K g mg)  : FnOk P w0 K mg base CX0 1 f fd ["_law_found"] (X4 K g):=by
  refine F.ok ZaI (λ vs H Q E h=>?_) (λ cdv A outer s H vs Q E hr h=>?_)
  . obtain⟨i,rfl,_⟩:=h;rfl
  obtain⟨i,rfl,q⟩:=h;refine⟨_,(
(Zf (Zn (Zb6 (ZC Yq rfl T.z_isinstance PyProof.Rows.boot_isinstance (Za (pv 0) (Za (Y2 (v:=V.ty "int") rfl T.z_int PyProof.Rows.boot_int rfl) Ze))) (Zb3 (pe_not (ZC Yq rfl T.z_isinstance PyProof.Rows.boot_isinstance (Za (pv 0) (Za (Y2 (v:=V.ty "bool") rfl T.z_bool PyProof.Rows.boot_bool rfl) Ze))))))))),?_⟩
  refine⟨_,rfl,_,_,_,_,rfl, .int _,kit_ii,_,rfl,iteT ?_⟩;exact⟨_,rfl,_,_,_,_,rfl, .int _,kit_ib,_,rfl,q⟩
theorem Jl {f:Addr}{fd:FuncData}(F:Fun K "_law_cell_at" "_law_cell_at" Yc f fd)(T:Txt K g mg)  : FnOk P w0 K mg base CX0 1 f fd ["_law_script","_law_k"] (YI K g):=by
  refine F.ok X9 (λ vs H Q E h=>?_) (λ cdv A outer s H vs Q E hr h=>?_)
  . obtain⟨a,ns,k,rfl,_⟩:=h;rfl
  obtain⟨a,ns,k,rfl,hS,h0,q⟩:=h;refine⟨_,(
(Zc (ZX (Zt Zb7 (pv 1) (ZC Yp rfl T.z_len boot_len (Za (pv 0) Ze)) (Zz _))
 (Zf (Zn (Zo X0 (pv 0) (pv 1) (λ _ _=>rfl))))
 ZH)
 (Zf (Zn Zb)))),?_⟩
  have hl:(ns.map V.int).length=ns.length:=length_map _;refine⟨_,rfl,_,rfl,_,_,rfl, .inl ⟨_,hS,rfl⟩,_,_,rfl,rfl,_,rfl,?_⟩;refine Ym (λ c=>?_) (λ c=>?_)
  . have c':k<(((ns.map V.int).length:Nat):Int):=of_decide_eq_true c;rw[hl]at c';have hk:k.toNat<ns.length:=by omega
    have e:atI (ns.map V.int) ((k.toNat:Nat):Int)=some (.int ns[k.toNat]):=X1 (by rw[getElem?_map,getElem?_eq_getElem hk] <;> rfl);rw[show((k.toNat:Nat):Int)=k by omega]at e;exact⟨_,rfl,_,rfl,a,_,_,_,rfl,rfl,hS,e,q _⟩
  . exact q 0
theorem Zap {f:Addr}{fd:FuncData}(F:Fun K "_law_rich" "_law_rich" Xk f fd)(T:Txt K g mg)  : FnOk P w0 K mg base CX0 1 f fd ["_law_cell","_law_place"] (XQ K g):=by
  refine F.ok YK (λ vs H Q E h=>?_) (λ cdv A outer s H vs Q E hr h=>?_)
  . obtain⟨c,p,rfl,_⟩:=h;rfl
  obtain⟨c,p,rfl,q⟩:=h;refine⟨_,(
(Zc (ZX (Zt op_ge (pv 0) (Zk op_pow Zb Zb) (Zz _))
 (Zf (Zn (pv 0)))
 ZH)
 (Zc (Zm (i:=2) YK.nd rfl (Or.inl rfl) (Zk ZS (Zk ZT (Zk ZT (Zk YS (pv 0) Zb) (Zk YS (pv 1) Zb)) Zb) Zb))
 (Zc (Zm (i:=3) YK.nd rfl (Or.inl rfl) (Zk ZS (Zk ZT (Zk ZT (Zk YS (pv 2) (pv 2)) (Zk YS (pv 0) Zb)) (Zk YS (pv 1) Zb)) Zb))
 (Zf (Zn (Zk ZT (Zk YS (pv 2) Zb) (pv 3)))))))),?_⟩
  refine⟨_,rfl,_,_,rfl,rfl,⟨by decide,by decide,by decide⟩,_,_,rfl,rfl,_,rfl,?_⟩;refine Ym (λ _=>?_) (λ _=>?_)
  . exact⟨_,rfl,q _⟩
  . have small:∀ z:Int,(-(2 ^ 64)<z % 2147483647/\z % 2147483647<2 ^ 64):=λ z=>⟨by omega,by omega⟩;refine⟨_,rfl,_,_,rfl,rfl, .inr ⟨by decide,by decide⟩,_,rfl,_,_,rfl,rfl, .inr ⟨by decide,by decide⟩,_,_,rfl,rfl,_,_,rfl,rfl,_,_,rfl,rfl,(by show(0:Int)<2147483647;decide),?_⟩;refine⟨_,rfl,_,rfl,_,_,rfl,rfl, .inl (small _),_,rfl,_,_,rfl,rfl, .inr ⟨by decide,by decide⟩,_,_,rfl,rfl,_,rfl,_,_,rfl,rfl, .inr ⟨by decide,by decide⟩,_,_,rfl,rfl,_,_,rfl,rfl,(by show(0:Int)<2147483629;decide),?_⟩;exact⟨_,rfl,_,_,rfl,rfl, .inr ⟨by decide,by decide⟩,_,rfl,_,_,rfl,rfl,q _⟩
theorem Zao {f:Addr}{fd:FuncData}(F:Fun K "_law_word" "_law_word" Xj f fd)(T:Txt K g mg)  : FnOk P w0 K mg base CX0 1 f fd ["_law_n"] (XO K g):=by
  refine F.ok ZM (λ vs H Q E h=>?_) (λ cdv A outer s H vs Q E hr h=>?_)
  . obtain⟨n,rfl,_⟩:=h;rfl
  obtain⟨n,rfl,q⟩:=h;refine⟨_,(
(Zc (Zm (i:=1) ZM.nd rfl (Or.inl rfl) (Zk ZT Zb (Zk ZS (pv 0) Zb)))
 (Zc (Zm (i:=0) ZM.nd rfl (Or.inl rfl) (Zk ZV (pv 0) Zb))
 (Zc (Zm (i:=2) ZM.nd rfl (Or.inl rfl) Yg)
 (Zc (Yf PassesOwn.never rfl (XE rfl T.z_range (Za (pv 1) Ze)) (Zv (i:=3) ZM.nd rfl (Or.inl rfl))
 (Zc (Zm (i:=2) ZM.nd rfl (Or.inl rfl) (Zk Jk (pv 2) (Zo ix_str Yg (Zk ZS (pv 0) Zb) (λ _ _=>rfl))))
 (Zf (Zm (i:=0) ZM.nd rfl (Or.inl rfl) (Zk ZV (pv 0) Zb)))))
 (Zc (ZX (PW.pt (Xe (Zt JK (pv 2) Yg (Zz _)) (YO (Zt JK (pv 2) Yg (Zz _)))))
 (Zf (Zn (Zb2 sl_str (pv 2) ZcT (ZcS Zb))))
 ZH)
 (Zf (Zn (pv 2))))))))),?_⟩
  refine⟨_,rfl,_,_,rfl,rfl,(by show(0:Int)<8;decide),_,_,rfl,rfl,?_⟩;refine⟨_,rfl,_,_,rfl,rfl,⟨by decide,by decide⟩,?_⟩;have b1:=emod_lt_of_pos n (show(0:Int)<8 by decide);have b0:=emod_nonneg n (show(8:Int)≠0 by decide);refine⟨_,rfl,1+n % 8,rfl,by omega,by omega,XJ (n:=(1+n % 8).toNat) (λ i σ H2=>H2=H/\∃(n':Int)(z:Str)(v:Option V),σ=[some (.int n'),some (.int (1+n % 8)),some (.str z),v]/\z.length=i/\PyData.strOk z=true) ⟨rfl,_,_,_,rfl,rfl,by decide +kernel⟩ ?_ ?_⟩
  . rintro i σ H2 hi ⟨rfl,n',z,v,rfl,hz,hk⟩;obtain⟨c,hc,hc2⟩:=abc_at (emod_nonneg n' (show(26:Int)≠0 by decide)) (emod_lt_of_pos n' (show(0:Int)<26 by decide));refine⟨_,rfl,_,rfl,_,_,rfl,rfl,(by show(0:Int)<26;decide),abc,_,c,rfl,rfl,by decide +kernel,hc,z,_,rfl,rfl,?_,?_⟩
    . have:(⟨#[c]⟩:Str).length=1:=rfl;have:=Zp (n:=9) (by decide);omega
    . refine⟨_,rfl,_,_,rfl,rfl,⟨by decide,by decide⟩,rfl,_,_,_,rfl,?_,Zca hk hc2⟩;rw[Zc8,hz];rfl
  . rintro σ H2 ⟨rfl,n',z,v,rfl,hz,hk⟩;have hz8:z.length<=8:=by omega
    have cut:tRet (tSl (λ x lo hi H Q=>∃ z,x = .str z/\z.length<=sizeLine/\Q (.str (Txt.slice z lo hi)) H) (tVar 2) ZaY (tPart (tC (.int 3)))) { nx:=λ _ H'=>Q .non H',rt:=Q } [some (.int n'),some (.int (1+n % 8)),some (.str z),v] H2:=
      ⟨_,rfl,_,rfl,z,rfl,le_of_lt (Zp (by omega)),q _ (le_trans (Txt.slice_le z _ _) hz8) (ok_sl hk)⟩
    refine⟨_,rfl,rfl,_,rfl,?_⟩;refine Ym (λ _=>iteT cut) (λ _=>?_);refine⟨_,rfl,rfl,_,rfl,?_⟩;refine Ym (λ _=>cut) (λ _=>?_);exact⟨_,rfl,q z hz8 hk⟩
theorem Jx {f:Addr}{fd:FuncData}(F:Fun K "_law_common" "_law_common" Yv f fd)(T:Txt K g mg)  : FnOk P w0 K mg base CX0 1 f fd ["_law_a","_law_b"] (Xc K g):=by
  refine F.ok Xd (λ vs H Q E h=>?_) (λ cdv A outer s H vs Q E hr h=>?_)
  . obtain⟨a,b,rfl,_⟩:=h;rfl
  obtain⟨a,b,rfl,ha,hb,q⟩:=h;refine⟨_,(
(Zc (Zal PassesOwn.never (Zt JJ (pv 1) Zb (Zz _))
 (Zf (Zb0 (i:=0) (j:=1) rfl Xd.nd rfl rfl (by decide) rfl rfl (Za (pv 1) (Za (Zk ZS (pv 0) (pv 1)) Ze)) rfl)))
 (Zf (Zn (pv 0))))),?_⟩
  refine Zae (λ σ H'=>∃ x y:Int,σ=[some (.int x),some (.int y)]/\0<=x/\0<=y/\Sh.G x y=Sh.G a b/\H'=H) (λ σ _=>match σ with|[_,some (.int y)]=>y.toNat|_=>0) ⟨a,b,rfl,ha,hb,rfl,rfl⟩ ?_ ?_
  . rintro σ H' ⟨x,y,rfl,hx,hy,hg,rfl⟩;refine⟨_,rfl,_,_,rfl,rfl,_,rfl,?_⟩;refine Ym (λ c=>?_) (λ c=>?_)
    . have c':0<y:=of_decide_eq_true c;refine⟨_,rfl,_,rfl,_,rfl,_,_,rfl,rfl,c',_,_,rfl,⟨y,x % y,rfl,hy,emod_nonneg x (by omega),(Sh.G_step hx c').trans hg,rfl⟩,?_⟩;have h1:=emod_lt_of_pos x c';have h2:=emod_nonneg x (show y≠0 by omega);show(x % y).toNat<y.toNat;omega
    . have c':¬ 0<y:=of_decide_eq_false (Bool.eq_false_iff.mpr c);refine⟨_,rfl,?_⟩;have e:x=Sh.G a b:=(Sh.G_zero hx hy c').trans hg;rw[e];exact q
  . rintro σ H Q Q' h ⟨v,e,i,j,e1,e2,k,e3,q⟩;exact⟨v,e,i,j,e1,e2,k,e3,h _ _ q⟩
theorem ZaO {f:Addr}{fd:FuncData}(F:Fun K "_law_low" "_law_low" XA f fd)(T:Txt K g mg)(Qad:Yy P w0 K g mg base):FnOk P w0 K mg base CX0 2 f fd ["_law_num_here","_law_den"] (X5 K g):=by
  refine F.ok X8 (λ vs H Q E h=>?_) (λ cdv A outer s H vs Q E hr h=>?_)
  . obtain⟨n,d,rfl,_⟩:=h;rfl
  obtain⟨n,d,rfl,hn,hd,hs,q⟩:=h;refine⟨_,(
(Zc (Zm (i:=2) X8.nd rfl (Or.inl rfl) (Zu Qad (h_ hr) (Za (pv 0) (Za (pv 1) Ze))))
 (Zf (Zn (ZQ (Za (Zk Xq (pv 0) (pv 2)) (Za (Zk Xq (pv 1) (pv 2)) Ze))))))),?_⟩
  have g0:=Sh.G_pos (a:=n) hd;have g1:=Sh.G_le (a:=n) hd;have g2:(Sh.G n d).natAbs<BIG:=Nat.lt_of_le_of_lt (by omega) hs;refine⟨_,rfl,_,rfl,n,d,rfl,hn,Int.le_of_lt hd,?_⟩;exact⟨_,rfl,_,rfl,_,_,rfl,rfl,⟨g0,g2⟩,_,rfl,_,rfl,_,_,rfl,rfl,⟨g0,g2⟩,(by show 2<=sizeLine;decide),q⟩
theorem ZaM {f:Addr}{fd:FuncData}(F:Fun K "_law_sum" "_law_sum" Xy f fd)(T:Txt K g mg)(Qaa:Yo P w0 K g mg base):FnOk P w0 K mg base CX0 3 f fd ["_law_one","_law_other"] (X3 K g):=by
  refine F.ok ZaH (λ vs H Q E h=>?_) (λ cdv A outer s H vs Q E hr h=>?_)
  . obtain⟨p,q,a,b,c,d,rfl,_⟩:=h;rfl
  obtain⟨p,q,a,b,c,d,rfl,t,k⟩:=h;refine⟨_,(
(Zf (Zn (Zu Qaa (h_ hr) (Za (Zk ZT (Zk Z1 (Zo Zl (pv 0) Zb (λ _ _=>rfl)) (Zo Zl (pv 1) Zb (λ _ _=>rfl))) (Zk Z1 (Zo Zl (pv 1) Zb (λ _ _=>rfl)) (Zo Zl (pv 0) Zb (λ _ _=>rfl)))) (Za (Zk Z1 (Zo Zl (pv 0) Zb (λ _ _=>rfl)) (Zo Zl (pv 1) Zb (λ _ _=>rfl))) Ze)))))),?_⟩
  exact⟨_,rfl,p,_,_,_,rfl,rfl,t.h1,rfl,_,rfl,q,_,_,_,rfl,rfl,t.h2,rfl,_,_,rfl,rfl,⟨t.ba,t.bdd⟩,_,rfl,q,_,_,_,rfl,rfl,t.h2,rfl,_,rfl,p,_,_,_,rfl,rfl,t.h1,rfl,_,_,rfl,rfl,⟨t.bc,t.bb⟩,_,_,rfl,rfl,
    _,rfl,p,_,_,_,rfl,rfl,t.h1,rfl,_,rfl,q,_,_,_,rfl,rfl,t.h2,rfl,_,_,rfl,rfl,⟨t.bb,t.bdd⟩,_,_,rfl,Int.add_nonneg t.ad.1 t.cb.1,t.bd.1,t.bBD,k⟩
theorem XW {f:Addr}{fd:FuncData}(F:Fun K "_law_is_share" "_law_is_share" Z9 f fd)(T:Txt K g mg)(Qad:Yy P w0 K g mg base)(Qaj:JO P w0 K g mg base):FnOk P w0 K mg base CX0 2 f fd ["_law_found"] (YA K g):=by
  refine F.ok XV (λ vs H Q E h=>?_) (λ cdv A outer s H vs Q E hr h=>?_)
  . obtain⟨p,x,y,rfl,_⟩:=h;rfl
  obtain⟨p,x,y,rfl,hp,hx,hy,hg,q⟩:=h;refine⟨_,(
(Zc (ZX (PW.pt (Xe (YR (YQ (ZC Yq rfl T.z_isinstance PyProof.Rows.boot_isinstance (Za (pv 0) (Za (Y2 (v:=V.ty "tuple") rfl T.z_tuple PyProof.Rows.boot_tuple rfl) Ze))))) (YO (Zt op_ne (ZC Yp rfl T.z_len boot_len (Za (pv 0) Ze)) Zb (Zz _)))))
 (Zf (Zn Xf))
 ZH)
 (Zc (ZX (PW.pt (Xe (YR (YQ (Zu Qaj (h_ hr) (Za (Zo Zl (pv 0) Zb (λ _ _=>rfl)) Ze)))) (YO (YR (YQ (Zu Qaj (h_ hr) (Za (Zo Zl (pv 0) Zb (λ _ _=>rfl)) Ze)))))))
 (Zf (Zn Xf))
 ZH)
 (Zc (ZX (PW.pt (Xe (Zt Zb7 (Zo Zl (pv 0) Zb (λ _ _=>rfl)) Zb (Zz _)) (YO (Zt Zb7 (Zo Zl (pv 0) Zb (λ _ _=>rfl)) Zb (Zz _)))))
 (Zf (Zn Xf))
 ZH)
 (Zf (Zn (J4 JK (Zu Qad (h_ hr) (Za (Zo Zl (pv 0) Zb (λ _ _=>rfl)) (Za (Zo Zl (pv 0) Zb (λ _ _=>rfl)) Ze))) Zb (Zz _)))))))),?_⟩
  have t0:SqT K H p [.int x, .int y]:=SqT.of hp;have a0:atI [V.int x,V.int y] 0=some (.int x):=rfl;have a1:atI [V.int x,V.int y] 1=some (.int y):=rfl;refine⟨_,rfl,_,_,_,_,rfl, .tup hp,Zco,_,rfl,Y6 ?_⟩;refine⟨_,rfl,_,_,rfl, .inr ⟨_,t0,rfl⟩,rfl,_,rfl,Y6 ?_⟩;refine⟨_,rfl,p,_,_,_,rfl,rfl,t0,a0,x,rfl,_,rfl,Y6 ?_⟩;refine⟨_,rfl,p,_,_,_,rfl,rfl,t0,a1,y,rfl,_,rfl,Y6 ?_⟩;refine⟨_,rfl,p,_,_,_,rfl,rfl,t0,a0,_,_,rfl,rfl,_,rfl,?_⟩;rw[decide_eq_false (show ¬ x<0 by omega)];refine Y6 ?_;refine⟨_,rfl,p,_,_,_,rfl,rfl,t0,a1,_,_,rfl,rfl,_,rfl,?_⟩;rw[decide_eq_false (show ¬ y<1 by omega)];refine Y6 ?_;refine⟨_,rfl,p,_,_,_,rfl,rfl,t0,a0,_,rfl,p,_,_,_,rfl,rfl,t0,a1,x,y,rfl,hx,Int.le_of_lt hy,rfl,?_⟩;rw[hg];exact q
theorem XG {f:Addr}{fd:FuncData}(F:Fun K "_law_is_ledger" "_law_is_ledger" Z6 f fd)(T:Txt K g mg)(Qau:YW P w0 K g mg base):FnOk P w0 K mg base CX0 3 f fd ["_law_found"] (Yi K g):=by
  refine F.ok ZK (λ vs H Q E h=>?_) (λ cdv A outer s H vs Q E hr h=>?_)
  . obtain⟨l,es,rfl,_⟩:=h;rfl
  obtain⟨l,es,rfl,hL,hP,hN,q⟩:=h;refine⟨_,(
(Zc (ZX (YR (YQ (ZC Yq rfl T.z_isinstance PyProof.Rows.boot_isinstance (Za (pv 0) (Za (Y2 (v:=V.ty "list") rfl T.z_list boot_list rfl) Ze)))))
 (Zf (Zn Xf))
 ZH)
 (Zc (Zm (i:=1) ZK.nd rfl (Or.inl rfl) Yg)
 (Zc (Yf PassesOwn.never rfl (ZcU rfl T.z_enumerate (Za (pv 0) Ze)) (XF rfl (Zy (Zv (i:=2) ZK.nd rfl (Or.inl rfl)) (Zy (Zv (i:=3) ZK.nd rfl (Or.inl rfl)) Y0)))
 (Zc (ZX (PW.pt (Xe (YR (YQ (ZC Yq rfl T.z_isinstance PyProof.Rows.boot_isinstance (Za (pv 3) (Za (Y2 (v:=V.ty "tuple") rfl T.z_tuple PyProof.Rows.boot_tuple rfl) Ze))))) (Xe (Zt op_ne (ZC Yp rfl T.z_len boot_len (Za (pv 3) Ze)) Zb (Zz _)) (YO (YR (YQ (ZC Yq rfl T.z_isinstance PyProof.Rows.boot_isinstance (Za (Zo Zl (pv 3) Zb (λ _ _=>rfl)) (Za (Y2 (v:=V.ty "str") rfl T.z_str boot_str rfl) Ze)))))))))
 (Zf (Zn Xf))
 ZH)
 (Zc (ZX (PW.pt (Xe (YR (YQ (Zu Qau (h_ hr) (Za (ZQ (Za (Zo Zl (pv 3) Zb (λ _ _=>rfl)) (Za (Zo Zl (pv 3) Zb (λ _ _=>rfl)) Ze))) Ze)))) (YO (Zt JK (Zo Zl (pv 3) Zb (λ _ _=>rfl)) Zb (Zz _)))))
 (Zf (Zn Xf))
 ZH)
 (Zc (ZX (PW.pt (ZbY (Zt JJ (pv 2) Zb (Zz _)) (Za1 (Zt Zbt (Zo Zl (pv 3) Zb (λ _ _=>rfl)) (pv 1) (Zz _)))))
 (Zf (Zn Xf))
 ZH)
 (Zf (Zm (i:=1) ZK.nd rfl (Or.inl rfl) (Zo Zl (pv 3) Zb (λ _ _=>rfl))))))))
 (Zf (Zn Xf)))))),?_⟩
  obtain⟨xs,hl,hx⟩:=hL.len;refine⟨_,rfl,_,_,_,_,rfl, .lst hl,kit_ll,_,rfl,Y6 ?_⟩;refine⟨_,rfl,l,rfl,⟨xs,SqL.of hl⟩,Zcv (xs:=xs) (λ i σ H2=>Zx H H2/\∃(vk ve:Option V)(last:Str),σ=[some (.ref l),some (.str last),vk,ve]/\∀ j,j+1=i->∃ e,es[j]? = some e/\last=e.1) ⟨Zx.refl _,_,_,_,rfl,λ j hj=>by omega⟩ ?_ ?_ ?_⟩
  . rintro i σ H2 _ ⟨sm,_⟩;exact sm.seq (SqL.of hl)
  . rintro i x σ H2 Tt hxi ⟨sm,vk,ve,last,rfl,hlast⟩ hT;obtain⟨p,e,rfl,he,hp⟩:=hL.at hl hxi;have hp3:upd H2 Tt (.tup [.int i, .ref p]) p=some (.tup [.str e.1, .int e.2.1, .int e.2.2]):=by
      rw[Zh (Zj (sm _ _ hp) hT)];exact sm _ _ hp
    have ne:=hN e (mem_of_getElem? he);refine⟨Tt,_,rfl,SqT.of Zd,rfl,_,_,rfl,_,_,rfl,rfl,?_⟩;refine⟨_,rfl,_,_,_,_,rfl, .tup hp3,Zco,_,rfl,Y6 ?_⟩;refine⟨_,rfl,_,_,rfl, .inr ⟨_,SqT.of hp3,rfl⟩,rfl,_,rfl,Y6 ?_⟩;refine⟨_,rfl,p,_,_,_,rfl,rfl,SqT.of hp3,rfl,_,_,_,_,rfl, .str _,kit_ss,_,rfl,Y6 ?_⟩;refine⟨_,rfl,p,_,_,_,rfl,rfl,SqT.of hp3,rfl,_,rfl,p,_,_,_,rfl,rfl,SqT.of hp3,rfl,(by show 2<=sizeLine;decide),λ r hr0=>?_⟩;refine⟨r,_,_,rfl,Zd,ne.1.1,ne.1.2.1,ne.1.2.2,_,rfl,Y6 ?_⟩;have hp4:∀ o,upd (upd H2 Tt (.tup [.int i, .ref p])) r o p=some (.tup [.str e.1, .int e.2.1, .int e.2.2]):=λ o=>by
      rw[Zh (Zj hp3 hr0)];exact hp3
    refine⟨_,rfl,p,_,_,_,rfl,rfl,SqT.of (hp4 _),rfl,rfl,_,rfl,?_⟩;refine Ym (λ c=>absurd (V.int.inj (of_decide_eq_true c)) ne.2) (λ _=>?_);have sN:∀ o u,Zx H (upd (upd H2 Tt o) r u):=λ o u b w z=>by
      have z2:=sm b w z;rw[Zh,Zh (Zj z2 hT)]
      . exact z2
      . intro y;subst y
        by_cases y2:b=Tt
        . subst y2;rw[hT]at z2;cases z2
        . rw[Zh y2,z2]at hr0;cases hr0
    refine⟨_,rfl,_,_,rfl,rfl,_,rfl,?_⟩;have fin:∃ v,([some (V.ref l),some (V.str last),some (V.int i),some (V.ref p)]:St)[3]? = some (some v)/\True:=⟨_,rfl,trivial⟩;refine Ym (λ c=>?_) (λ c=>?_)
    . have c':(0:Int)<(i:Int):=of_decide_eq_true c;refine⟨_,rfl,p,_,_,_,rfl,rfl,SqT.of (hp4 _),rfl,_,rfl,_,_,rfl,rfl,_,rfl,?_⟩;obtain⟨e0,he0,rfl⟩:=hlast (i - 1) (by omega);have lt:ltS e0.1 e.1:=by
        obtain⟨i0,j0⟩:=List.getElem?_eq_some_iff.mp he0;obtain⟨i1,j1⟩:=List.getElem?_eq_some_iff.mp he;rw[<- j0,<- j1];exact List.pairwise_iff_getElem.mp hP (i - 1) i i0 i1 (by omega)
      have z:(!decide (e0.1.cps.toList<e.1.cps.toList))=false:=by
        rw[decide_eq_true (show e0.1.cps.toList<e.1.cps.toList from lt)];rfl
      refine Ym (λ c=>?_) (λ _=>?_)
      . have c2:(!decide (e0.1.cps.toList<e.1.cps.toList))=true:=c;rw[z]at c2;cases c2
      . exact⟨_,rfl,p,_,_,_,rfl,rfl,SqT.of (hp4 _),rfl,sN _ _,_,_,_,rfl,λ j hj=>by
        have ej:j=i:=by omega
        subst ej;exact⟨e,he,rfl⟩⟩
    . refine Y6 ?_;exact⟨_,rfl,p,_,_,_,rfl,rfl,SqT.of (hp4 _),rfl,sN _ _,_,_,_,rfl,λ j hj=>by
        have ej:j=i:=by omega
        subst ej;exact⟨e,he,rfl⟩⟩
  . rintro σ H2 ⟨sm,_⟩;exact q H2 sm
theorem J6 {f:Addr}{fd:FuncData}(F:Fun K "_law_total" "_law_total" YN f fd)(T:Txt K g mg)(Qae:XL P w0 K g mg base):FnOk P w0 K mg base CX0 4 f fd ["_law_ledger_here"] (Xo K g):=by
  refine F.ok ZN (λ vs H Q E h=>?_) (λ cdv A outer s H vs Q E hr h=>?_)
  . obtain⟨l,es,rfl,_⟩:=h;rfl
  obtain⟨l,es,rfl,hL,hlen,hB,q⟩:=h;refine⟨_,(
(Zc (Zm (i:=1) ZN.nd rfl (Or.inl rfl) (ZQ (Za Zb (Za Zb Ze))))
 (Zc (Yf PassesOwn.never rfl (Z7 (pv 0)) (XF rfl (Zy (Zv (i:=2) ZN.nd rfl (Or.inl rfl)) (Zy (Zv (i:=3) ZN.nd rfl (Or.inl rfl)) (Zy (Zv (i:=4) ZN.nd rfl (Or.inl rfl)) Y0))))
 (Zf (Zm (i:=1) ZN.nd rfl (Or.inl rfl) (Zu Qae (h_ hr) (Za (pv 1) (Za (ZQ (Za (pv 3) (Za (pv 4) Ze))) Ze))))))
 (Zf (Zn (pv 1)))))),?_⟩
  refine⟨(by show 2<=sizeLine;decide),λ p0 hp0=>?_⟩;have s0:=Zg hp0 (.tup [.int 0, .int 1]);obtain⟨xs,hl,hx⟩:=hL.len;refine⟨_,rfl,l,rfl,⟨xs,s0.seq (SqL.of hl)⟩,Yn (xs:=xs) (λ i σ H2=>Zx H H2/\i<=es.length/\∃(p:Addr)(n d:Int)(v2 v3 v4:Option V),σ=[some (.ref l),some (.ref p),v2,v3,v4]/\SqT K H2 p [.int n, .int d]/\BK (1+119 * i) n d/\Sh.G n d=1/\vl n d=ZD (es.take i)) ⟨s0,zero_le _,p0,0,1,_,_,_,rfl,SqT.of Zd,ZaU _ (by decide),by decide,Xm 1⟩ ?_ ?_ ?_⟩
  . rintro i σ H2 _ ⟨sm,_⟩;exact sm.seq (SqL.of hl)
  . rintro i x σ H2 hxi ⟨sm,_,p,n,d,v2,v3,v4,rfl,hp,hb,hg,hv⟩;obtain⟨r,e,rfl,he,hr⟩:=(hL.same sm).at (sm _ _ hl) hxi;have ci:i<es.length:=(List.getElem?_eq_some_iff.mp he).1;have ee:es[i]=e:=(List.getElem?_eq_some_iff.mp he).2;have be:=hB e (mem_of_getElem? he);refine⟨r,_,rfl,SqT.of hr,rfl,_,_,rfl,_,_,rfl,_,_,rfl,rfl,?_⟩;refine⟨_,rfl,_,rfl,_,rfl,(by show 2<=sizeLine;decide),λ pt0 hpt=>?_⟩;have s1:=Zg hpt (.tup [.int e.2.1, .int e.2.2]);obtain⟨x0,y0,b⟩:=hb.add be;have tw:=X2 (s1.tupq hp) (SqT.of (Zd (H:=H2) (a:=pt0) (o:=.tup [.int e.2.1, .int e.2.2]))) (hb.sh (by omega)) (be.sh (by decide));refine⟨p,pt0,_,_,_,_,rfl,tw,λ rr hrr=>?_⟩;have N:=Y4 (k:="") x0 y0;refine⟨(sm.trans s1).trans (Zg hrr _),ci,rr,_,_,_,_,_,rfl,SqT.of Zd,b.up (by omega),N.2.2,?_⟩;show vl (lo1 _ _) (lo2 _ _)=_;rw[ZaX x0 y0,ZbN hb.2.2.1 be.2.2.1,hv,<- ZU ci,ZbU,ee];show _=_+(vl e.2.1 e.2.2+0)
    grind
  . rintro σ H2 ⟨sm,_,p,n,d,v2,v3,v4,rfl,hp,hb,hg,hv⟩;rw[hx,take_length]at hv;exact⟨_,rfl,q p H2 n d sm hp hb.1 hb.2.2.1 hg hv⟩
theorem Jv {f:Addr}{fd:FuncData}(F:Fun K "_law_listed" "_law_listed" Yt f fd)(T:Txt K g mg)  : FnOk P w0 K mg base CX0 1 f fd ["_law_book"] (Xa K g):=by
  refine F.ok Yb (λ vs H Q E h=>?_) (λ cdv A outer s H vs Q E hr h=>?_)
  . obtain⟨d,es,rfl,_⟩:=h;rfl
  obtain⟨d,es,rfl,hD,hnd,hlen,hN,q⟩:=h;refine⟨_,(
(Zc (Zm (i:=1) Yb.nd rfl (Or.inl rfl) (J3 Ze))
 (Zc (Yf PassesOwn.never rfl (Z7 (ZC (Yz rfl) rfl T.z_sorted PyProof.Rows.boot_sorted (Za (pv 0) Ze))) (Zv (i:=2) Yb.nd rfl (Or.inl rfl))
 (Zf (ZX (Zt JJ (Zo Zl (Z8 (Z4 hr) (pv 0) (pv 2) (λ _ _=>rfl)) Zb (λ _ _=>rfl)) Zb (Zz _))
 (Zf (J2 (Zb5 plainAttrs_list PySem.F.slot_list_append PySem.F.type_list_append Y5 (pv 1) (Za (ZQ (Za (pv 2) (Za (Zo Zl (Z8 (Z4 hr) (pv 0) (pv 2) (λ _ _=>rfl)) Zb (λ _ _=>rfl)) (Za (Zo Zl (Z8 (Z4 hr) (pv 0) (pv 2) (λ _ _=>rfl)) Zb (λ _ _=>rfl)) Ze)))) Ze))))
 ZH)))
 (Zf (Zn (pv 1)))))),?_⟩
  refine⟨zero_le _,λ D hD0=>?_⟩;have s0:Zx H (upd H D (.lst [])):=Zg hD0 _;obtain⟨ws,hw,hW⟩:=hD.same s0;refine⟨_,rfl,d,_,Zr es,rfl, .inl hW.1,Zaw hw,by rw[XI hw];omega,λ ss l hp hs hl=>?_⟩;have hsl:ss.length<=60:=by rw[hp.length_eq];unfold Zr;rw[length_map];omega
  have hlD:D≠l:=Zj Zd hl;refine⟨l,rfl,⟨_,SqL.of Zd⟩,Yn (xs:=ss.map V.str) (λ i σ H2=>∃ v,σ=[some (.ref d),some (.ref D),v]/\Zx H H2/\H2 l=some (.lst (ss.map V.str))/\Led H2 D (Jh es (ss.take i))) ⟨_,rfl,λ b o e=>by rw[Zh (Zj (s0 b o e) hl)];exact s0 b o e,Zd,[],rfl,by rw[Zh hlD];exact Zd,λ _ h=>nomatch h⟩ ?_ ?_ ?_⟩
  . rintro i σ H2 _ ⟨v,rfl,sm,hl2,_⟩;exact SqL.of hl2
  . rintro i x σ H2 hx ⟨v,rfl,sm,hl2,hled⟩;rw[getElem?_map]at hx;have ci:i<ss.length:=by
      cases z:ss[i]? with
      |none=>rw[z]at hx;cases hx
      |some y=>exact(List.getElem?_eq_some_iff.mp z).1
    rw[getElem?_eq_getElem ci]at hx;cases hx;obtain⟨ws2,hw2,hW2⟩:=hD.same sm;have kin:ss[i]∈Zr es:=hp.mem_iff.mp (getElem_mem ci);rcases Dic.get (k:=ss[i]) hw2 hW2 with ⟨p,g1,g2,_⟩|⟨_,_,nk⟩
    . have hget:Z5 H2 d (.str ss[i]) (some (.ref p)):=by rw[<- g1];exact Z5.k (k:=Sum.inr ss[i]) hW2.1
      have hn:=hN _ (Yl kin);refine⟨_,rfl,_,rfl,d,_,rfl,hget,p,_,_,_,rfl,rfl,g2,rfl,_,_,rfl,rfl,_,rfl,?_⟩;refine Ym (λ c=>?_) (λ c=>?_)
      . have c0:0<(look es ss[i]).1:=of_decide_eq_true c;have c':(look es ss[i]).1≠0:=by omega
        obtain⟨xs,hx1,hx2⟩:=hled.len;refine⟨_,rfl, .inl ⟨rfl,_,SqL.of hx1⟩,_,rfl,_,rfl,_,rfl,d,_,rfl,hget,p,_,_,_,rfl,rfl,g2,rfl,_,rfl,_,rfl,d,_,rfl,hget,p,_,_,_,rfl,rfl,g2,rfl,(by show 3<=sizeLine;decide),λ r hr0=>?_⟩;obtain⟨ys,y1,y2,y3⟩:=Led.push (e:=(ss[i],look es ss[i])) hled hr0;refine⟨D,ys,_,rfl,rfl,y2,Zp ?_,_,rfl,YL sm hD0 hr0,?_,?_⟩
        . rw[y1];unfold Jh;rw[length_map];exact le_trans (length_filter_le _ _) (by rw[length_take];omega)
        . rw[Zh (Ne.symm hlD),Zh (Zj hl2 hr0)];exact hl2
        . rw[YZ ci,if_pos c'];exact y3
      . have c0:¬ 0<(look es ss[i]).1:=of_decide_eq_false (Bool.eq_false_iff.mpr c);have c1:0<=(look es ss[i]).1:=hn.1;have c':¬ (look es ss[i]).1≠0:=by omega
        exact⟨_,rfl,sm,hl2,by rw[YZ ci,if_neg c'];exact hled⟩
    . exact absurd kin nk
  . rintro σ H2 ⟨v,rfl,sm,hl2,hled⟩;rw[length_map,take_length]at hled;exact⟨_,rfl,q D H2 _ sm hD0 hled (ZaD hnd hp hs)⟩
theorem Jw {f:Addr}{fd:FuncData}(F:Fun K "_law_ledger" "_law_ledger" Yu f fd)(T:Txt K g mg)(Qaf:Yx P w0 K g mg base)(Qaa:Yo P w0 K g mg base)(Qab:Yw P w0 K g mg base):FnOk P w0 K mg base CX0 3 f fd ["_law_n","_law_most"] (Xb K g):=by
  refine F.ok ZR (λ vs H Q E h=>?_) (λ cdv A outer s H vs Q E hr h=>?_)
  . obtain⟨n,m,rfl,_⟩:=h;rfl
  obtain⟨n,m,rfl,hm0,hm1,q⟩:=h;refine⟨_,(
(Zc (Zm (i:=2) ZR.nd rfl (Or.inl rfl) Ji)
 (Zc (Yf PassesOwn.never rfl (XE rfl T.z_range (Za (Zk ZS (pv 0) (Zk ZT (pv 1) Zb)) Ze)) (Zv (i:=3) ZR.nd rfl (Or.inl rfl))
 (Zc (Zm (i:=0) ZR.nd rfl (Or.inl rfl) (Zk ZT (Zk ZV (pv 0) Zb) (Zk YS (pv 3) Zb)))
 (Zc (Zm (i:=4) ZR.nd rfl (Or.inl rfl) (Zk Jk (Zu Qab (h_ hr) (Za (pv 0) Ze)) (Zo X0 (J3 (Za Yg (Za Yg (Za Yg (Za Yg Ze))))) (Zk ZS (Zk ZV (pv 0) Zb) Zb) (λ _ _=>rfl))))
 (Zf (Xp (Z4 hr) (pv 2) (pv 4) (Zu Qaa (h_ hr) (Za (Zk ZT Zb (Zk ZS (Zk ZV (pv 0) Zb) Zb)) (Za (Zk ZT Zb (Zk ZS (Zk ZV (pv 0) Zb) Zb)) Ze))) rfl)))))
 (Zf (Zn (Zu Qaf (h_ hr) (Za (pv 2) Ze))))))),?_⟩
  intro D hD0;have s0:Zx H (upd H D (.dK [])):=Zg hD0 _;have b1:=emod_lt_of_pos n (show(0:Int)<m+1 by omega);have b0:=emod_nonneg n (show m+1≠0 by omega);refine⟨_,rfl,_,rfl,_,_,rfl,rfl,_,_,rfl,rfl,(by show(0:Int)<m+1;omega),n % (m+1),rfl,by omega,by omega,XJ (n:=(n % (m+1)).toNat) (λ i σ H2=>Zx H H2/\∃(n':Int)(vk vw:Option V)(es:List En),σ=[some (.int n'),some (.int m),some (.ref D),vk,vw]/\Dic K H2 D es/\(Zr es).Nodup/\es.length<=i/\∀ e∈es,OkE e) ⟨s0,_,_,_,[],rfl,⟨[],rfl,Zd,λ _ h=>nomatch h⟩, .nil,le_refl _,λ _ h=>nomatch h⟩ ?_ ?_⟩
  . rintro i σ H2 hi ⟨sm,n',vk,vw,es,rfl,hD,hnd,hlen,hok⟩;refine⟨_,rfl,_,_,rfl,rfl,⟨by decide,by decide⟩,_,rfl,_,_,rfl,rfl, .inr ⟨by decide,by decide⟩,_,_,rfl,rfl,?_⟩;obtain⟨y,hy,hy1,hy2⟩:=Zde (emod_nonneg ((n' / 7+(0+(i:Int)) * 1009) / 5) (show(4:Int)≠0 by decide)) (emod_lt_of_pos ((n' / 7+(0+(i:Int)) * 1009) / 5) (show(0:Int)<4 by decide));refine⟨_,rfl,(n' / 7+(0+(i:Int)) * 1009),rfl,λ z hz1 hz2=>⟨(by show 4<=sizeLine;decide),λ ll hll=>⟨_,rfl,_,_,rfl,rfl,⟨by decide,by decide⟩,_,_,rfl,rfl,(by show(0:Int)<4;decide),ll,_,_,_,rfl,rfl,SqL.of Zd,hy,z,y,rfl,rfl,le_of_lt (Zp (by omega)),?_⟩⟩⟩;have sl:Zx H2 (upd H2 ll (.lst [V.str "",V.str ".1",V.str ".10",V.str ".2"])):=Zg hll _;have c1:=emod_lt_of_pos ((n' / 7+(0+(i:Int)) * 1009) / 3) (show(0:Int)<900 by decide);have c0:=emod_nonneg ((n' / 7+(0+(i:Int)) * 1009) / 3) (show(900:Int)≠0 by decide);have d1:=emod_lt_of_pos ((n' / 7+(0+(i:Int)) * 1009) / 11) (show(0:Int)<700 by decide);have d0:=emod_nonneg ((n' / 7+(0+(i:Int)) * 1009) / 11) (show(700:Int)≠0 by decide);refine⟨_,rfl,_,_,rfl,rfl,⟨by decide,by decide⟩,_,_,rfl,rfl,(by show(0:Int)<900;decide),_,_,rfl,rfl,_,rfl,_,_,rfl,rfl,⟨by decide,by decide⟩,_,_,rfl,rfl,(by show(0:Int)<700;decide),_,_,rfl,rfl,?_⟩;have x0:(0:Int)<=1+(n' / 7+(0+(i:Int)) * 1009) / 3 % 900:=by omega
    have y0:(0:Int)<1+(n' / 7+(0+(i:Int)) * 1009) / 11 % 700:=by omega
    refine⟨_,_,rfl,x0,y0,Yh (m:=10) (by omega) (by omega) (by decide),λ r hr0=>?_⟩;obtain⟨ws,hw,hW⟩:=hD.same sl;have n1:∀ o,upd (upd H2 ll (.lst [V.str "",V.str ".1",V.str ".10",V.str ".2"])) r o D=some (.dK (ws.map λ w=>((Sum.inr w.1.1:Key),V.ref w.2))):=λ o=>by rw[Zh (Zj hW.1 hr0)];exact hW.1
    have dW:∀ o,Xx K (upd (upd H2 ll (.lst [V.str "",V.str ".1",V.str ".10",V.str ".2"])) r o) D ws:=λ o=>⟨n1 o,λ w hx=>(Zg hr0 _).tupq (hW.2 w hx)⟩;refine⟨_,rfl,_,rfl,D,_,rfl,XY.k (k:=Sum.inr (z++y)) (n1 _) (Zp (by rw[XI hw];omega)),YL (sm.trans sl) hD0 hr0,_,_,_,_,rfl,Dic.put (k:=z++y) hw (dW _) (SqT.of Zd),Za5 hnd,le_trans Zau (by omega),λ e he=>?_⟩;rcases Jn he with rfl|he
    . have L1:=Sh.div_le x0 (Sh.G_pos (a:=1+(n' / 7+(0+(i:Int)) * 1009) / 3 % 900) y0);have L2:=Sh.div_le (Int.le_of_lt y0) (Sh.G_pos (a:=1+(n' / 7+(0+(i:Int)) * 1009) / 3 % 900) y0);exact⟨Y4 x0 y0,by show(1+(n' / 7+(0+(i:Int)) * 1009) / 3 % 900) / Sh.G _ _<2 ^ 10;omega,by show(1+(n' / 7+(0+(i:Int)) * 1009) / 11 % 700) / Sh.G _ _<800;omega,Zca hz2 hy2⟩
    . exact hok e he
  . rintro σ H2 ⟨sm,n',vk,vw,es,rfl,hD,hnd,hlen,hok⟩;refine⟨_,rfl,D,es,rfl,hD,hnd,by omega,λ e he=>(hok e he).1,λ l' H' es' s' hl' hL' hc=>?_⟩;exact q l' H' es' (sm.trans s') (sm.free hl') hL' hc.1 (λ e he=>⟨hok e ((hc.2.1 e).mp he).1,((hc.2.1 e).mp he).2⟩) (by have:=hc.2.2;omega)
theorem Ju {f:Addr}{fd:FuncData}(F:Fun K "_law_takers" "_law_takers" Ys f fd)(T:Txt K g mg)(Qaa:Yo P w0 K g mg base)(Qab:Yw P w0 K g mg base):FnOk P w0 K mg base CX0 3 f fd ["_law_ledger_here","_law_name","_law_n"] (Y9 K g):=by
  refine F.ok Zw (λ vs H Q E h=>?_) (λ cdv A outer s H vs Q E hr h=>?_)
  . obtain⟨l,es,k,n,rfl,_⟩:=h;rfl
  obtain⟨l,es,k,n,rfl,hL,hlen,hst,hk,q⟩:=h;refine⟨_,(
(Zc (Zm (i:=3) Zw.nd rfl (Or.inr rfl) Ji)
 (Zc (Yf PassesOwn.never rfl (XE rfl T.z_range (Za (Zk ZT Zb (Zk ZS (pv 2) Zb)) Ze)) (Zv (i:=4) Zw.nd rfl (Or.inl rfl))
 (Zc (Zm (i:=2) Zw.nd rfl (Or.inl rfl) (Zk ZT (Zk ZV (pv 2) Zb) (Zk YS Zb (pv 4))))
 (Zc (Zm (i:=5) Zw.nd rfl (Or.inl rfl) (Zk op_cat (Zb4 (x:="_law_entry") (cl:=[]) (caps:=[]) rfl (Z7 (pv 0)) (λ _ _ _ _ _=>Zam) (λ _ _ _ _ _=>(Zo (show IxR _ (rIxT K) from Zl) (pv 0) Zb (λ _ _=>rfl))) rfl (by decide +kernel) rfl (by decide +kernel) rfl (λ _ _ h=>nomatch h) (J9 rfl) (λ p hp=>nomatch hp) (by decide +kernel)) (J3 (Za (pv 1) (Za (Zu Qab (h_ hr) (Za (Zk ZV (pv 2) Zb) Ze)) Ze)))))
 (Zf (Xp (Z4 hr) (pv 3) (Zo X0 (pv 5) (Zk ZS (pv 2) (ZC Yp rfl T.z_len boot_len (Za (pv 5) Ze))) (λ _ _=>rfl)) (Zk ZT Zb (Zk ZS (Zk ZV (pv 2) Zb) Zb)) rfl)))))
 (Zc (Zm (i:=6) Zw.nd rfl (Or.inl rfl) (ZC (ZbM rfl) rfl T.z_sum PyProof.Rows.boot_sum (Za (Zb4 (x:="_law_one") (cl:=[("_law_weights",s.heap.objs.size+1)]) (caps:=[("_law_weights",3)]) rfl (ZcV (pv 3)) (λ _ _ _ _ _=>Zam) (λ _ _ _ _ _=>(Z8 (Z4 hr) (pv 1) (pv 0) (λ _ _=>rfl))) rfl (by decide +kernel) rfl (by decide +kernel) rfl (λ _ _ h=>h) (J9 rfl) (λ p hp=>by rw[List.mem_singleton.mp hp];exact⟨rfl,rfl,by first|exact .inl rfl|exact .inr rfl⟩) (by decide +kernel)) Ze)))
 (Zc (Zm (i:=7) Zw.nd rfl (Or.inl rfl) (J3 Ze))
 (Zc (Yf PassesOwn.never rfl (Z7 (ZC (Yz rfl) rfl T.z_sorted PyProof.Rows.boot_sorted (Za (pv 3) Ze))) (Zv (i:=8) Zw.nd rfl (Or.inl rfl))
 (Zc (Zm (i:=9) Zw.nd rfl (Or.inl rfl) (Zu Qaa (h_ hr) (Za (Z8 (Z4 hr) (pv 3) (pv 8) (λ _ _=>rfl)) (Za (pv 6) Ze))))
 (Zf (J2 (Zb5 plainAttrs_list PySem.F.slot_list_append PySem.F.type_list_append Y5 (pv 7) (Za (ZQ (Za (pv 8) (Za (Zo Zl (pv 9) Zb (λ _ _=>rfl)) (Za (Zo Zl (pv 9) Zb (λ _ _=>rfl)) Ze)))) Ze))))))
 (Zf (Zn (pv 7))))))))),?_⟩
  intro Wd hW0;have s0:Zx H (upd H Wd (.dK [])):=Zg hW0 _;have b1:=emod_lt_of_pos n (show(0:Int)<6 by decide);have b0:=emod_nonneg n (show(6:Int)≠0 by decide);obtain⟨xs,hl,hx⟩:=hL.len;refine⟨_,rfl,_,_,rfl,rfl,(by show(0:Int)<6;decide),_,_,rfl,rfl,1+n % 6,rfl,by omega,by omega,XJ (n:=(1+n % 6).toNat) (λ i σ H2=>Zx H H2/\∃(n':Int)(vk vs:Option V)(ws:Wt),σ=[some (.ref l),some (.str k),some (.int n'),some (.ref Wd),vk,vs,none,none,none,none]/\H2 Wd=some (.dK (wk ws))/\(ws.map (·.1)).Nodup/\ws.length<=i/\(0<i->0<ws.length)/\∀ w∈ws,(1<=w.2/\w.2<=12)/\PyData.strOk w.1=true) ⟨s0,_,_,_,[],rfl,Zd, .nil,le_refl _,λ z=>absurd z (by omega),λ _ h=>nomatch h⟩ ?_ ?_⟩
  . rintro i σ H2 hi ⟨sm,n',vk,vs,ws,rfl,hWd,hnd,hwl,_,hwo⟩;refine⟨_,rfl,_,_,rfl,rfl,⟨by decide,by decide⟩,_,rfl,_,_,rfl,rfl, .inl ⟨by decide,by decide⟩,_,_,rfl,rfl,?_⟩;have x2:=sm _ _ hl;refine⟨_,rfl,l,rfl,⟨xs,SqL.of x2⟩,λ D hD=>⟨λ j m H3=>j<=es.length/\m=es.length - j/\Zx H2 H3/\H3 D=some (.lst ((es.take j).map λ e=>V.str e.1)),⟨es.length,zero_le _,rfl,Zg hD _,Zd⟩,?_⟩⟩;rintro j m H3 ⟨hj,rfl,s3,hD3⟩
    by_cases cj:j<es.length
    . have cj':j<xs.length:=by omega
      refine .inr ⟨⟨xs,xs[j],s3.seq (SqL.of x2),getElem?_eq_getElem cj'⟩,λ x H' ⟨e,ex⟩=>?_⟩;subst e;obtain⟨p,e,rfl,he,hp⟩:=((hL.same sm).same s3).at (s3 _ _ x2) (ex _ (s3.seq (SqL.of x2)));have ee:es[j]=e:=(List.getElem?_eq_some_iff.mp he).2;refine ZbR ?_;refine⟨_,rfl,p,_,_,_,rfl,rfl,SqT.of hp,rfl,_,es.length - (j+1),hD3,Zp (by rw[length_map,length_take];omega),by omega,cj,rfl,ZL s3 hD,?_⟩;rw[Zd,<- ZU cj,map_append,ee];rfl
    . have e:j=es.length:=by omega
      subst e;rw[take_length]at hD3;refine .inl ⟨⟨xs,s3.seq (SqL.of x2),by omega⟩,?_⟩;refine⟨_,rfl,_,rfl,_,_,rfl,rfl,⟨by decide,by decide⟩,_,rfl,λ z hz1 hz2=>⟨(by show 2<=sizeLine;decide),λ bl hbl=>?_⟩⟩;have t1:=Zg hbl (.lst [V.str k,V.str z]);refine⟨D,bl,_,_,rfl,rfl,t1 _ _ hD3,Zd,le_of_lt (Zp (by rw[length_map];show es.length+2<=1000;omega)),λ so hso=>?_⟩;have t2:=Zg hso (.lst ((es.map λ e=>V.str e.1)++[V.str k,V.str z]));have tt:=(s3.trans t1).trans t2;have hln:((es.map λ e=>V.str e.1)++[V.str k,V.str z]).length=es.length+2:=by rw[length_append,length_map];rfl
      have hat:∃ key:Str,atI ((es.map λ e=>V.str e.1)++[V.str k,V.str z]) ((n' / 6+1013 * (0+(i:Int))) % ((((es.map λ e=>V.str e.1)++[V.str k,V.str z]).length:Nat):Int))=some (.str key)/\PyData.strOk key=true:=by
        have g1:=emod_lt_of_pos (n' / 6+1013 * (0+(i:Int))) (show(0:Int)<((((es.map λ e=>V.str e.1)++[V.str k,V.str z]).length:Nat):Int) by rw[hln];omega);have g0:=emod_nonneg (n' / 6+1013 * (0+(i:Int))) (show((((es.map λ e=>V.str e.1)++[V.str k,V.str z]).length:Nat):Int)≠0 by rw[hln];omega);generalize (n' / 6+1013 * (0+(i:Int))) % ((((es.map λ e=>V.str e.1)++[V.str k,V.str z]).length:Nat):Int)=jj at *;have gi:jj.toNat<((es.map λ e=>V.str e.1)++[V.str k,V.str z]).length:=by omega
        have e1:atI ((es.map λ e=>V.str e.1)++[V.str k,V.str z]) ((jj.toNat:Nat):Int)=some (((es.map λ e=>V.str e.1)++[V.str k,V.str z])[jj.toNat]):=X1 (getElem?_eq_getElem gi);rw[show((jj.toNat:Nat):Int)=jj by omega]at e1;have mm:=getElem_mem gi;rcases List.mem_append.mp mm with m1|m1
        . obtain⟨e,h1,h2⟩:=List.mem_map.mp m1;exact⟨e.1,by rw[e1,<- h2],hst e h1⟩
        . rcases List.mem_cons.mp m1 with h2|h2
          . exact⟨k,by rw[e1,h2],hk⟩
          . exact⟨z,by rw[e1,List.mem_singleton.mp h2],hz2⟩
      obtain⟨key,hat,hkey⟩:=hat;have c1:=emod_lt_of_pos ((n' / 6+1013 * (0+(i:Int))) / 8) (show(0:Int)<12 by decide);have c0:=emod_nonneg ((n' / 6+1013 * (0+(i:Int))) / 8) (show(12:Int)≠0 by decide);refine⟨_,rfl,_,_,rfl,rfl,⟨by decide,by decide⟩,_,_,rfl,rfl,(by show(0:Int)<12;decide),_,_,rfl,rfl,_,rfl,_,rfl,_,rfl,_,rfl,_,_,rfl, .inl ⟨_,SqL.of Zd,rfl⟩,_,_,rfl,rfl,(by show(0:Int)<((((es.map λ e=>V.str e.1)++[V.str k,V.str z]).length:Nat):Int);rw[hln];omega),so,_,_,_,rfl,rfl,SqL.of Zd,hat,Wd,_,rfl,XY.k (k:=Sum.inr key) (tt _ _ hWd) (Zp (by unfold wk;rw[length_map];omega)),ZL (sm.trans tt) hW0,_,_,_,Jt ws key (1+(n' / 6+1013 * (0+(i:Int))) / 8 % 12),rfl,by rw[Zd,put_wk],Zc3 hnd,by have:=(Zat (ws:=ws) (k:=key) (n:=1+(n' / 6+1013 * (0+(i:Int))) / 8 % 12)).1;omega,λ _=>Zat.2,λ w hw=>?_⟩;rcases Zch hw with rfl|hw
      . exact⟨⟨by show(1:Int)<=1+(n' / 6+1013 * (0+(i:Int))) / 8 % 12;omega,by show(1:Int)+(n' / 6+1013 * (0+(i:Int))) / 8 % 12<=12;omega⟩,hkey⟩
      . exact hwo w hw
  . rintro σ H2 ⟨sm,n',vk,vs,ws,rfl,hWd,hnd,hwl,hw0,hwo⟩;have hw0':=hw0 (by omega);have hw6:ws.length<=6:=by omega
    obtain⟨i1,i2⟩:=Zcq λ w hw=>(hwo w hw).1;have Wp:0<Y7 (ws.map (·.2)):=by omega
    have Wl:Y7 (ws.map (·.2))<2 ^ 7:=by omega
    refine⟨_,rfl,Wd,_,rfl,hWd,λ o D hD=>?_⟩;have sf:=ZL (u:=.frz o (.dK (wk ws))) sm hW0;have fz:upd H2 Wd (.frz o (.dK (wk ws))) Wd=some (.frz o (.dK (wk ws))):=Zd;generalize upd H2 Wd (.frz o (.dK (wk ws)))=Hf at *;have lw:(wk ws).length=ws.length:=by unfold wk;rw[length_map]
    refine⟨λ j m H3=>j<=ws.length/\m=ws.length - j/\Zx Hf H3/\H3 D=some (.lst ((ws.take j).map λ w=>V.int w.2)),⟨ws.length,zero_le _,rfl,Zg hD _,Zd⟩,?_⟩;rintro j m H3 ⟨hj,rfl,s3,hD3⟩;have fz3:=s3 _ _ fz
    by_cases cj:j<ws.length
    . refine .inr ⟨⟨fz3,by rw[lw];exact cj⟩,λ x H' ⟨e,kk,v,hkk,hxe⟩=>?_⟩;subst e;subst hxe;unfold wk at hkk;rw[getElem?_map,getElem?_eq_getElem cj]at hkk;cases hkk;refine ZbR ?_;have hg:Z5 H' Wd (.str ws[j].1) (some (.int ws[j].2)):=.inl ⟨_,Sum.inr ws[j].1, .inr ⟨o,fz3⟩,rfl,(ZbO hnd (getElem_mem cj)).symm⟩;refine⟨_,rfl,_,rfl,Wd,_,rfl,hg,_,ws.length - (j+1),hD3,Zp (by rw[length_map,length_take];omega),by omega,cj,rfl,ZL s3 hD,?_⟩;rw[Zd,<- ZU cj,map_append];rfl
    . have e:j=ws.length:=by omega
      subst e;rw[take_length]at hD3;refine .inl ⟨⟨fz3,by rw[lw];exact le_refl _⟩,?_⟩;refine⟨D,ws.map (·.2),rfl,SqL.of (by rw[map_map];exact hD3),?_⟩;have s4:=sf.trans s3;refine⟨zero_le _,λ fo hfo=>?_⟩;have s5:=Zg hfo (.lst []);have fz5:=s5 _ _ fz3;refine⟨_,rfl,Wd,wk ws,ws.map (·.1),rfl, .inr ⟨o,fz5⟩,by unfold wk;rw[map_map,map_map];rfl,by rw[lw];omega,λ ss sl hp hs hsl=>?_⟩;have hsl6:ss.length<=6:=by rw[hp.length_eq,length_map];exact hw6
      have foS:fo≠sl:=Zj Zd hsl;have s6:=Zg hsl (.lst (ss.map V.str));refine⟨sl,rfl,⟨_,SqL.of Zd⟩,Yn (xs:=ss.map V.str) (λ i σ H5=>Zx H H5/\H5 Wd=some (.frz o (.dK (wk ws)))/\H5 sl=some (.lst (ss.map V.str))/\Led H5 fo ((ss.take i).map (tkr ws (Y7 (ws.map (·.2)))))/\∃ v8 v9,σ=[some (.ref l),some (.str k),some (.int n'),some (.ref Wd),vk,vs,some (.int (Y7 (ws.map (·.2)))),some (.ref fo),v8,v9]) ⟨(s4.trans s5).trans s6,s6 _ _ fz5,Zd,⟨[],rfl,s6 _ _ Zd,λ _ h=>nomatch h⟩,_,_,rfl⟩ ?_ ?_ ?_⟩
      . rintro i σ H5 _ ⟨_,_,z,_⟩;exact SqL.of z
      . rintro i x σ H5 hxi ⟨sm5,fzw,hsl5,hLd,v8,v9,rfl⟩;rw[getElem?_map]at hxi;have ci:i<ss.length:=by
          cases z:ss[i]? with
          |none=>rw[z]at hxi;cases hxi
          |some y=>exact(List.getElem?_eq_some_iff.mp z).1
        rw[getElem?_eq_getElem ci]at hxi;cases hxi;obtain⟨w,w1,w2⟩:=List.mem_map.mp (hp.mem_iff.mp (getElem_mem ci));have wo:=ZaE hnd w1;have wb:=hwo w w1;have hg:Z5 H5 Wd (.str ss[i]) (some (.int (wOf ws ss[i]))):=.inl ⟨_,Sum.inr ss[i], .inr ⟨o,fzw⟩,rfl,by rw[<- w2,wo];exact(ZbO hnd w1).symm⟩;have x0:0<=wOf ws ss[i]:=by rw[<- w2,wo];omega
        refine⟨_,rfl,_,rfl,Wd,_,rfl,hg,_,rfl,_,_,rfl,x0,Wp,Yh (Int.le_of_lt Wp) Wl (by decide),λ pa hpa=>?_⟩;have t1:=Zg hpa (.tup [.int (wOf ws ss[i] / Sh.G (wOf ws ss[i]) (Y7 (ws.map (·.2)))), .int (Y7 (ws.map (·.2)) / Sh.G (wOf ws ss[i]) (Y7 (ws.map (·.2))))]);obtain⟨xz,hx1,hx2⟩:=(hLd.same t1).len;refine⟨_,rfl, .inl ⟨rfl,_,SqL.of hx1⟩,_,rfl,_,rfl,pa,_,_,_,rfl,rfl,SqT.of Zd,rfl,_,rfl,pa,_,_,_,rfl,rfl,SqT.of Zd,rfl,(by show 3<=sizeLine;decide),λ r hr0=>?_⟩;obtain⟨ys,y1,y2,y3⟩:=Led.push (e:=tkr ws (Y7 (ws.map (·.2))) ss[i]) (hLd.same t1) hr0;have hfo0:H fo=none:=s4.free hfo;refine⟨fo,ys,_,rfl,rfl,y2,Zp (by rw[y1,length_map,length_take];omega),YL (sm5.trans t1) hfo0 hr0,?_,?_,?_,_,_,rfl⟩
        . have z:=t1 _ _ fzw;obtain⟨xq,z2,_⟩:=(hLd.same t1).len;rw[Zh (Yk z z2 (by intro y;cases y)),Zh (Zj z hr0)];exact z
        . have z:=t1 _ _ hsl5;rw[Zh (Ne.symm foS),Zh (Zj z hr0)];exact z
        . rw[<- ZU ci,map_append];exact y3
      . rintro σ H5 ⟨sm5,_,_,hLd,v8,v9,rfl⟩;rw[length_map,take_length]at hLd;refine⟨_,rfl,q fo H5 _ sm5 (s4.free hfo) hLd (λ e he=>?_) (by rw[length_map];exact hsl6) ?_⟩
        . obtain⟨x,hx,rfl⟩:=List.mem_map.mp he;obtain⟨w,w1,w2⟩:=List.mem_map.mp (hp.mem_iff.mp hx);have wo:=ZaE hnd w1;have wb:=hwo w w1;subst w2;exact tk_ok Wp Wl (by rw[wo];exact wb.1.1) (by rw[wo];exact wb.1.2) wb.2
        . rw[JA (hp.map _),map_map];have z:=sum_tk Wp ws ws λ w hw=>⟨by have:=(hwo w hw).1.1;omega,ZaE hnd hw⟩;exact z.trans (ZcC Wp)
theorem ZaP {f:Addr}{fd:FuncData}(F:Fun K "_law_due" "_law_due" XB f fd)(T:Txt K g mg)(Qaf:Yx P w0 K g mg base)(Qaa:Yo P w0 K g mg base)(Qae:XL P w0 K g mg base):FnOk P w0 K mg base CX0 4 f fd ["_law_ledger_here","_law_name","_law_takers_here"] (X6 K g):=by
  refine F.ok ZF (λ vs H Q E h=>?_) (λ cdv A outer s H vs Q E hr h=>?_)
  . obtain⟨l,lt,es,ts,k,rfl,_⟩:=h;rfl
  obtain⟨l,lt,es,ts,k,rfl,hL,hok,hk,hT,htk,htl,q⟩:=h;refine⟨_,(
(Zc (Zm (i:=3) ZF.nd rfl (Or.inl rfl) Ji)
 (Zc (Zm (i:=4) ZF.nd rfl (Or.inl rfl) (ZQ (Za Zb (Za Zb Ze))))
 (Zc (Yf PassesOwn.never rfl (Z7 (pv 0)) (XF rfl (Zy (Zv (i:=5) ZF.nd rfl (Or.inl rfl)) (Zy (Zv (i:=6) ZF.nd rfl (Or.inl rfl)) (Zy (Zv (i:=7) ZF.nd rfl (Or.inl rfl)) Y0))))
 (Zf (ZX (Zt JK (pv 5) (pv 1) (Zz _))
 (Zf (Zm (i:=4) ZF.nd rfl (Or.inl rfl) (ZQ (Za (pv 6) (Za (pv 7) Ze)))))
 (Zf (Xp (Z4 hr) (pv 3) (pv 5) (ZQ (Za (pv 6) (Za (pv 7) Ze))) rfl)))))
 (Zc (ZX (Zt JK (Zo Zl (pv 4) Zb (λ _ _=>rfl)) Zb (Zz _))
 (Zf (Zn (Y1 (show YD _ (.type "list") (J1 K) from Xl) rfl T.z_list boot_list (Za (pv 0) Ze))))
 ZH)
 (Zc (Yf PassesOwn.never rfl (Z7 (pv 2)) (XF rfl (Zy (Zv (i:=5) ZF.nd rfl (Or.inl rfl)) (Zy (Zv (i:=6) ZF.nd rfl (Or.inl rfl)) (Zy (Zv (i:=7) ZF.nd rfl (Or.inl rfl)) Y0))))
 (Zc (Zm (i:=8) ZF.nd rfl (Or.inl rfl) (Zu Qaa (h_ hr) (Za (Zk Z1 (Zo Zl (pv 4) Zb (λ _ _=>rfl)) (pv 6)) (Za (Zk Z1 (Zo Zl (pv 4) Zb (λ _ _=>rfl)) (pv 7)) Ze))))
 (Zf (Xp (Z4 hr) (pv 3) (pv 5) (Zu Qae (h_ hr) (Za (Zan (Z4 hr) (pv 3) (pv 5) (ZQ (Za Zb (Za Zb Ze))) ⟨rfl,rfl,rfl,rfl⟩) (Za (pv 8) Ze))) rfl))))
 (Zf (Zn (Zu Qaf (h_ hr) (Za (pv 3) Ze)))))))))),?_⟩
  have hnd:=Zcf hok.1;obtain⟨bk,gg,hz⟩:=Za6 hok k;intro B hB0;have s0:Zx H (upd H B (.dK [])):=Zg hB0 _;refine⟨(by show 2<=sizeLine;decide),λ p0 hp0=>?_⟩;have s1:=s0.trans (Zg hp0 (.tup [.int 0, .int 1]));obtain⟨xs,hl,hx⟩:=hL.len;have hl6:=hok.2.1;refine⟨_,rfl,l,rfl,⟨xs,s1.seq (SqL.of hl)⟩,Yn (xs:=xs) (λ i σ H2=>Zx H H2/\∃(ph:Addr)(v5 v6 v7:Option V),σ=[some (.ref l),some (.str k),some (.ref lt),some (.ref B),some (.ref ph),v5,v6,v7,none]/\SqT K H2 ph [.int (look (es.take i) k).1, .int (look (es.take i) k).2]/\Dic K H2 B ((es.take i).filter λ e=>decide (e.1≠k))) ⟨s1,p0,_,_,_,rfl,SqT.of Zd,[],rfl,Zg hp0 _ _ _ Zd,λ _ h=>nomatch h⟩ ?_ ?_ ?_⟩
  . rintro i σ H2 _ ⟨sm,_⟩;exact sm.seq (SqL.of hl)
  . rintro i x σ H2 hxi ⟨sm,ph,v5,v6,v7,rfl,hph,hD⟩;obtain⟨r,e,rfl,he,hr⟩:=(hL.same sm).at (sm _ _ hl) hxi;have ci:i<es.length:=(List.getElem?_eq_some_iff.mp he).1;have ee:es[i]=e:=(List.getElem?_eq_some_iff.mp he).2;have nk:=Zc1 ci hnd;rw[ee]at nk;have tn:es.take (i+1)=es.take i++[e]:=by rw[<- ZU ci,ee]
    refine⟨r,_,rfl,SqT.of hr,rfl,_,_,rfl,_,_,rfl,_,_,rfl,rfl,?_⟩;refine⟨_,rfl,_,rfl,rfl,_,rfl,Ym (λ c=>?_) (λ c=>?_)⟩
    . have c':e.1=k:=V.str.inj (of_decide_eq_true c);refine⟨_,rfl,_,rfl,(by show 2<=sizeLine;decide),λ rr hrr=>?_⟩;have s3:=Zg hrr (.tup [.int e.2.1, .int e.2.2]);refine⟨sm.trans s3,rr,_,_,_,rfl,?_,?_⟩
      . rw[tn,Zc6 c' (by rw[<- c'];exact nk)];exact SqT.of Zd
      . rw[tn,List.filter_append,List.filter_cons_of_neg (by simp[c']),List.filter_nil,append_nil];exact hD.same s3
    . have c':e.1≠k:=λ z=>c (decide_eq_true (by rw[z]));refine⟨_,rfl,_,rfl,(by show 2<=sizeLine;decide),λ rr hrr=>?_⟩;have s3:=Zg hrr (.tup [.int e.2.1, .int e.2.2]);obtain⟨ws,hw,hW⟩:=id hD;have n1:=s3 _ _ hW.1;have dW:Xx K (upd H2 rr (.tup [.int e.2.1, .int e.2.2])) B ws:=⟨n1,λ w hx=>s3.tupq (hW.2 w hx)⟩;have fl:((es.take i).filter λ e=>decide (e.1≠k)).length<=6:=le_trans (length_filter_le _ _) (by rw[length_take];omega);refine⟨_,rfl,_,rfl,B,_,rfl,XY.k (k:=Sum.inr e.1) n1 (Zp (by rw[XI hw];omega)),ZL (sm.trans s3) hB0,ph,_,_,_,rfl,?_,?_⟩
      . rw[tn,Zc5 c'];exact Zai (s3.tupq hph) n1
      . have z:=Dic.put (k:=e.1) hw dW (SqT.of (Zd (H:=H2) (a:=rr) (o:=.tup [.int e.2.1, .int e.2.2])));rw[Za2 (λ y=>nk (by
          obtain⟨w,y1,y2⟩:=List.mem_map.mp y;exact List.mem_map.mpr ⟨w,(List.mem_filter.mp y1).1,y2⟩))]at z
        rw[tn,List.filter_append,List.filter_cons_of_pos (by simp[c']),List.filter_nil];exact z
  . rintro σ H2 ⟨sm,ph,v5,v6,v7,rfl,hph,hD⟩;rw[hx,take_length]at hph hD;refine⟨_,rfl,ph,_,_,_,rfl,rfl,hph,rfl,rfl,_,rfl,Ym (λ c=>?_) (λ c=>?_)⟩
    . have c':(look es k).1=0:=V.int.inj (of_decide_eq_true c);obtain⟨ws,hw,hlW,htW⟩:=hL.same sm;refine⟨_,rfl,l,_,rfl, .inl (SqL.of hlW),λ nl hnl=>?_⟩;have s2:=Zg hnl (.lst (ws.map λ w=>V.ref w.2));exact q nl _ es (sm.trans s2) (sm.free hnl) ⟨ws,hw,Zd,λ w hx=>s2 _ _ (htW w hx)⟩ (.inl ⟨c',rfl⟩)
    . have c':(look es k).1≠0:=λ z=>c (decide_eq_true (by rw[z]));obtain⟨ys,hy,hyl⟩:=hT.len;have hE:∀ e∈ts.map (pt (look es k)),Ent e:=λ e h=>by
        obtain⟨x,hx,rfl⟩:=List.mem_map.mp h;exact YV bk (htk x hx)
      have hEi:∀ i,∀ e∈(ts.take i).map (pt (look es k)),Ent e:=λ i e h=>by
        obtain⟨x,hx,rfl⟩:=List.mem_map.mp h;exact YV bk (htk x (List.mem_of_mem_take hx))
      refine⟨_,rfl,lt,rfl,⟨ys,sm.seq (SqL.of hy)⟩,Yn (xs:=ys) (λ i σ H4=>Zx H H4/\SqT K H4 ph [.int (look es k).1, .int (look es k).2]/\Dic K H4 B (((ts.take i).map (pt (look es k))).foldl ZW (es.filter λ e=>decide (e.1≠k)))/\∃ v5 v6 v7 v8,σ=[some (.ref l),some (.str k),some (.ref lt),some (.ref B),some (.ref ph),v5,v6,v7,v8]) ⟨sm,hph,hD,_,_,_,_,rfl⟩ ?_ ?_ ?_⟩
      . rintro i σ H4 _ ⟨s4,_⟩;exact s4.seq (SqL.of hy)
      . rintro i x σ H4 hxi ⟨s4,hph4,hD4,v5,v6,v7,v8,rfl⟩;obtain⟨r,e,rfl,he,hr⟩:=(hT.same s4).at (s4 _ _ hy) hxi;have ci:i<ts.length:=(List.getElem?_eq_some_iff.mp he).1;have ee:ts[i]=e:=(List.getElem?_eq_some_iff.mp he).2;have tk:=htk e (mem_of_getElem? he);have PBc:=(Y3 hok k).folds (hEi i);have w2:=Xg (s:=look es k) ci;rw[ee]at w2;have lc:((ts.take i).map (pt (look es k))).length<=5:=by rw[length_map,length_take];omega
        generalize (ts.take i).map (pt (look es k))=F at *;generalize (es.filter λ e=>decide (e.1≠k))=G0 at *;refine⟨r,_,rfl,SqT.of hr,rfl,_,_,rfl,_,_,rfl,_,_,rfl,rfl,?_⟩;obtain⟨x0,y0,bm⟩:=bk.mul tk.2.2.1;have twa:=X2 hph4 hph4 (bk.sh (by decide)) (bk.sh (by decide));have bn:=Yh tk.2.2.1.1 tk.2.2.1.2.1 (by decide);have bd:=Yh (Int.le_of_lt tk.2.2.1.2.2.1) tk.2.2.1.2.2.2 (by decide);have bY:=Z2 (Int.le_of_lt bk.2.2.1) bk.2.2.2 (Int.le_of_lt tk.2.2.1.2.2.1) tk.2.2.1.2.2.2;refine⟨_,rfl,ph,_,_,_,rfl,rfl,hph4,rfl,_,rfl,_,_,rfl,rfl,⟨twa.ba,bn⟩,_,rfl,ph,_,_,_,rfl,rfl,hph4,rfl,_,rfl,_,_,rfl,rfl,⟨twa.bb,bd⟩,_,_,rfl,x0,y0,Yh bY.1 bY.2 (by decide),λ pa hpa=>?_⟩;have t1:=Zg hpa (.tup [.int ((look es k).1 * e.2.1 / Sh.G ((look es k).1 * e.2.1) ((look es k).2 * e.2.2)), .int ((look es k).2 * e.2.2 / Sh.G ((look es k).1 * e.2.1) ((look es k).2 * e.2.2))]);obtain⟨w4,hw4,hW4⟩:=hD4.same t1;refine⟨_,rfl,B,rfl, .inl ⟨_, .inl hW4.1⟩,_,rfl,(by show 2<=sizeLine;decide),λ p1 hp1=>?_⟩;have t2:=Zg hp1 (.tup [.int 0, .int 1]);have hW5:Xx K _ B w4:=⟨t2 _ _ hW4.1,λ w hx=>t2.tupq (hW4.2 w hx)⟩;obtain⟨o,p',o1,o2,o3⟩:∃(o:Option V)(p':Addr),Z5 (upd (upd H4 pa (.tup [.int ((look es k).1 * e.2.1 / Sh.G ((look es k).1 * e.2.1) ((look es k).2 * e.2.2)), .int ((look es k).2 * e.2.2 / Sh.G ((look es k).1 * e.2.1) ((look es k).2 * e.2.2))])) p1 (.tup [.int 0, .int 1])) B (.str e.1) o/\o.getD (.ref p1) = .ref p'/\SqT K (upd (upd H4 pa (.tup [.int ((look es k).1 * e.2.1 / Sh.G ((look es k).1 * e.2.1) ((look es k).2 * e.2.2)), .int ((look es k).2 * e.2.2 / Sh.G ((look es k).1 * e.2.1) ((look es k).2 * e.2.2))])) p1 (.tup [.int 0, .int 1])) p' [.int (look (F.foldl ZW G0) e.1).1, .int (look (F.foldl ZW G0) e.1).2]:=by
          rcases Dic.get (k:=e.1) hw4 hW5 with ⟨p',g1,g2,_⟩|⟨g1,g2,_⟩
          . exact⟨_,p',Z5.k (k:=Sum.inr e.1) hW5.1,by rw[g1];rfl,g2⟩
          . exact⟨_,p1,Z5.k (k:=Sum.inr e.1) hW5.1,by rw[g1];rfl,by rw[g2];exact SqT.of Zd⟩
        have hpaq:=t2.tupq (SqT.of (K:=K) (Zd (H:=H4) (a:=pa) (o:=.tup [.int ((look es k).1 * e.2.1 / Sh.G ((look es k).1 * e.2.1) ((look es k).2 * e.2.2)), .int ((look es k).2 * e.2.2 / Sh.G ((look es k).1 * e.2.1) ((look es k).2 * e.2.2))])));have hE1:=YV bk tk;have twb:=X2 (c:=(pt (look es k) e).2.1) (d:=(pt (look es k) e).2.2) o3 hpaq ((PBc.look e.1).sh (by omega)) (hE1.1.sh (by decide));refine⟨o,o1,_,rfl,p',pa,_,_,_,_,by rw[o2],twb,λ rr hrr=>?_⟩;have t3:=t2.trans (Zg hrr (.tup (Jy ((look (F.foldl ZW G0) e.1).1 * (pt (look es k) e).2.2+(pt (look es k) e).2.1 * (look (F.foldl ZW G0) e.1).2) ((look (F.foldl ZW G0) e.1).2 * (pt (look es k) e).2.2))));have n1:=t3 _ _ hW4.1;have dW:Xx K _ B w4:=⟨n1,λ w hx=>t3.tupq (hW4.2 w hx)⟩;refine⟨_,rfl,_,rfl,B,_,rfl,XY.k (k:=Sum.inr e.1) n1 (Zp (by rw[XI hw4];have:=PBc.2.2.1;omega)),ZL ((s4.trans t1).trans t3) hB0,Zai ((t1.trans t3).tupq hph4) n1,?_,_,_,_,_,rfl⟩;have z:=Dic.put (k:=e.1) hw4 dW (SqT.of (Zd (a:=rr) (o:=.tup (Jy ((look (F.foldl ZW G0) e.1).1 * (pt (look es k) e).2.2+(pt (look es k) e).2.1 * (look (F.foldl ZW G0) e.1).2) ((look (F.foldl ZW G0) e.1).2 * (pt (look es k) e).2.2)))));rw[w2,JF];exact z
      . rintro σ H4 ⟨s4,hph4,hD4,v5,v6,v7,v8,rfl⟩;rw[hyl,take_length]at hD4;have p:=(Y3 hok k).folds hE;have pl:=p.2.2.1;rw[length_map]at pl;refine⟨_,rfl,B,_,rfl,hD4,p.2.1,by omega,λ e he=>(p.1 e he).1,λ l' H' es' s' hl' hL' hc=>q l' H' es' (s4.trans s') (s4.free hl') hL' (.inr ⟨c',hc⟩)⟩
theorem ok_law {f:Addr}{fd:FuncData}(F:Fun K "law" "law" Zak f fd)(T:Txt K g mg)(Qav:Xu P w0 K g mg base)(Qag:Js P w0 K g mg base)(Qab:Yw P w0 K g mg base)(Qaw:Xt P w0 K g mg base)(Qak:ZaA P w0 K g mg base)(Qah:Xh P w0 K g mg base)(Qax:YC P w0 K g mg base)(Qal:JP P w0 K g mg base)(Qam:XU P w0 K g mg base):FnOk P w0 K mg base CX0 6 f fd ["_law_script"] (JX K g):=by
  refine F.ok Yr (λ vs H Q E h=>?_) (λ cdv A outer s H vs Q E hr h=>?_)
  . obtain⟨a,ns,rfl,_⟩:=h;rfl
  obtain⟨a,ns,rfl,hS,h63,k⟩:=h;have rest4:PSs (ZaS CX0 P w0 K mg base ["_law_script","_law_ledger_here","_law_n","_law_name","_law_takers_here","_law_handed","_law_hands","_law_found"] "law" (Zi Zak) f cdv A outer s H E).nox ((Z3 Zak).drop 4)
      (λ D σ H1=>∃(l:Addr)(es:List En)(t:Str)(v2:Option V),σ=[some (.ref a),some (.ref l),v2,some (.str t),none,none,none,none]/\SqL K H1 a (ns.map V.int)/\Led H1 l es/\OkL es/\PyData.strOk t=true/\∀ H',D.rt (.bl true) H'):=by
    refine @Zdj _ _ _ _ ((Zc (Zm (i:=4) Yr.nd rfl (Or.inl rfl) (Zu Qaw (h_ hr) (Za (pv 1) (Za (pv 3) (Za (Zu Qag (h_ hr) (Za (Zu Qah (h_ hr) (Za (pv 0) (Za Zb Ze))) (Za Zb Ze))) Ze)))))
 (Zc (Zm (i:=5) Yr.nd rfl (Or.inl rfl) (Y1 (show YD _ (.type "list") (J1 K) from Xl) rfl T.z_list boot_list (Za (pv 1) Ze)))
 (Zc (Zm (i:=6) Yr.nd rfl (Or.inl rfl) (Y1 (show YD _ (.type "list") (J1 K) from Xl) rfl T.z_list boot_list (Za (pv 4) Ze)))
 (Zc (Zm (i:=7) Yr.nd rfl (Or.inl rfl) (Zu Qak (h_ hr) (Za (pv 5) (Za (pv 3) (Za (pv 6) Ze)))))
 (Zc (ZX (PW.pt (Xe (YR (YQ (Zu Qax (h_ hr) (Za (pv 7) Ze)))) (Xe (Zt (Jj hr.units) (pv 5) (pv 1) (Zz _)) (YO (Zt (Jj hr.units) (pv 6) (pv 4) (Zz _))))))
 (Zf (Zn Xf))
 ZH)
 (Zc (ZX (PW.pt (Xe (Zt (Jj hr.units) (pv 7) (Zu Qal (h_ hr) (Za (pv 1) (Za (pv 3) (Za (pv 4) Ze)))) (Zz _)) (YO (Zt (Jj hr.units) (Zu Qam (h_ hr) (Za (pv 7) Ze)) (Zu Qam (h_ hr) (Za (pv 1) Ze)) (Zz _)))))
 (Zf (Zn Xf))
 ZH)
 (Zc (J2 (Zb5 plainAttrs_list PySem.F.slot_list_append PySem.F.type_list_append Y5 (pv 7) (Za (ZQ (Za Yg (Za Zb (Za Zb Ze)))) Ze)))
 (Zf (Zn (Zb6 (J4 (Zb8 hr.units) (Zu Qak (h_ hr) (Za (pv 5) (Za (pv 3) (Za (pv 6) Ze)))) (Zu Qal (h_ hr) (Za (pv 1) (Za (pv 3) (Za (pv 4) Ze)))) (Zz _)) (Zb3 (J4 (Zb8 hr.units) (pv 5) (pv 1) (Zz _)))))))))))))) ?_
    rintro D σ H1 ⟨l,es,t,v2,rfl,hS1,hL,hok,ht,k⟩;have hst:∀ e∈es,PyData.strOk e.1=true:=λ e he=>(hok.2.2 e he).1.2.2.2;have hl6:=hok.2.1;refine⟨_,rfl,_,rfl,_,rfl,a,ns,2,rfl,hS1,by decide,λ c=>⟨c,3,rfl,λ m=>⟨l,es,t,m,rfl,hL,hl6,hst,ht,λ lt H2 ts s2 hlt hT htk htl hsum=>?_⟩⟩⟩;have htst:=tk_st htk;obtain⟨ws,hw,hlW,htW⟩:=hL.same s2;refine⟨_,rfl,l,_,rfl, .inl (SqL.of hlW),λ hd hhd=>?_⟩;have s3:=Zg hhd (.lst (ws.map λ w=>V.ref w.2));have hH:Led (upd H2 hd (.lst (ws.map λ w=>V.ref w.2))) hd es:=⟨ws,hw,Zd,λ w hx=>s3 _ _ (htW w hx)⟩;generalize upd H2 hd (.lst (ws.map λ w=>V.ref w.2))=H3 at *;obtain⟨us,hu,huW,hutW⟩:=hT.same s3;refine⟨_,rfl,lt,_,rfl, .inl (SqL.of huW),λ hs hhs=>?_⟩;have s4:=Zg hhs (.lst (us.map λ w=>V.ref w.2));have hHs:Led (upd H3 hs (.lst (us.map λ w=>V.ref w.2))) hs ts:=⟨us,hu,Zd,λ w hx=>s4 _ _ (hutW w hx)⟩;generalize upd H3 hs (.lst (us.map λ w=>V.ref w.2))=H4 at *;have jL:Led H4 l es:=((hL.same s2).same s3).same s4;have jH:Led H4 hd es:=hH.same s4;have jT:Led H4 lt ts:=(hT.same s3).same s4;refine⟨_,rfl,_,rfl,_,rfl,hd,hs,es,ts,t,rfl,jH,hok,ht,hHs,htk,htl,λ fo H5 e1 s5 hfo hF hDue=>?_⟩;obtain⟨oP,oN,oS,oLn,oSum,oB⟩:=hDue.ok hok htk htl hsum;refine⟨_,rfl,fo,e1,rfl,hF,oP,oN,λ H6 s6=>⟨_,rfl,Y6 ?_⟩⟩;have i6:=s5.trans s6;refine⟨_,rfl,_,rfl,_,_,(jH.same i6).rds,(jL.same i6).rds,ZE hst,ZE hst,_,rfl,Ym (λ c=>absurd c (Zcb hst)) (λ _=>?_)⟩;refine⟨_,rfl,_,rfl,_,_,(hHs.same i6).rds,(jT.same i6).rds,ZE htst,ZE htst,_,rfl,Ym (λ c=>absurd c (Zcb htst)) (λ _=>?_)⟩;refine⟨_,rfl,_,rfl,_,rfl,_,rfl,l,lt,es,ts,t,rfl,jL.same i6,hok,ht,jT.same i6,htk,htl,λ l2 H7 e2 s7 hl2 hL2 hD2=>?_⟩;obtain rfl:=hDue.uniq hD2;refine⟨_,_,(hF.same (s6.trans s7)).rds,hL2.rds,ZE oS,ZE oS,_,rfl,Ym (λ c=>absurd c (Zcb oS)) (λ _=>?_)⟩;have i7:=i6.trans s7;refine⟨_,rfl,fo,e1,rfl,hF.same (s6.trans s7),oLn,oB,λ p1 H8 n1 d1 s8 q1 n10 d10 g1 v1=>?_⟩;refine⟨_,rfl,l,es,rfl,jL.same (i7.trans s8),by omega,okl_bk hok,λ p2 H9 n2 d2 s9 q2 n20 d20 g2 v2=>?_⟩;obtain⟨rfl,rfl⟩:=vl_inj n10 d10 g1 n20 d20 g2 ((v1.trans oSum).trans v2.symm);refine⟨_,_,J0 (s9.tupq q1),J0 q2,YY _ _,YY _ _,_,rfl,Ym (λ c=>absurd c (no_ne2 _ _)) (λ _=>?_)⟩;have i9:=(i7.trans s8).trans s9;have f9:=((s6.trans s7).trans s8).trans s9;obtain⟨fx,hf1,hf2⟩:=(hF.same f9).len;refine⟨_,rfl, .inl ⟨rfl,_,SqL.of hf1⟩,(by show 3<=sizeLine;decide),λ r hr0=>?_⟩;refine⟨fo,fx,_,rfl,rfl,by rw[Zh (Zj hf1 hr0)];exact hf1,Zp (by omega),?_⟩;have gr:∀(x:Addr)(fs:List En),Led H4 x fs->∀ o u,Led (upd (upd H9 r o) fo u) x fs:=λ x fs h o u=>by
      obtain⟨_,z,_⟩:=h.len;exact Zcl (h.same i9) hr0 hf1 (Zj z hfo)
    refine⟨_,rfl,_,rfl,_,rfl,hd,hs,es,ts,t,rfl,gr _ _ jH _ _,hok,ht,gr _ _ hHs _ _,htk,htl,λ fo3 H11 e3 s11 hfo3 hF3 hDue3=>?_⟩;obtain rfl:=hDue.uniq hDue3;refine⟨_,rfl,_,rfl,_,rfl,l,lt,es,ts,t,rfl,(gr _ _ jL _ _).same s11,hok,ht,(gr _ _ jT _ _).same s11,htk,htl,λ l4 H12 e4 s12 hl4 hL4 hD4=>?_⟩;obtain rfl:=hDue.uniq hD4;refine⟨_,_,(hF3.same s12).rds,hL4.rds,ZE oS,ZE oS,_,rfl,Ym (λ _=>?_) (λ c=>absurd (Zaa oS) c)⟩;have fin:∀ b,b=true->D.rt (.bl b) H12:=λ b hb=>by rw[hb];exact k H12
    exact⟨_,rfl,_,rfl,_,_,((gr _ _ jH _ _).same (s11.trans s12)).rds,((gr _ _ jL _ _).same (s11.trans s12)).rds,ZE hst,ZE hst,fin _ (Zaa hst)⟩
  refine⟨_,(Zc (Zm (i:=1) Yr.nd rfl (Or.inl rfl) (Zu Qav (h_ hr) (Za (Zu Qag (h_ hr) (Za (Zu Qah (h_ hr) (Za (pv 0) (Za Zb Ze))) (Za Zb Ze))) (Za Zb Ze))))
 (Zc (Zm (i:=2) Yr.nd rfl (Or.inl rfl) (Zu Qag (h_ hr) (Za (Zu Qah (h_ hr) (Za (pv 0) (Za Zb Ze))) (Za Zb Ze))))
 (Zc (Zm (i:=3) Yr.nd rfl (Or.inl rfl) (Zu Qab (h_ hr) (Za (Zk ZV (pv 2) Zb) Ze)))
 (Zc (ZX (PW.pt (ZbY (Zt JJ (ZC Yp rfl T.z_len boot_len (Za (pv 1) Ze)) Zb (Zz _)) (Za1 (Zt JJ (Zk ZS (pv 2) Zb) Zb (Zz _)))))
 (Zf (Zm (i:=3) Yr.nd rfl (Or.inl rfl) (Zo Zl (Zo X0 (pv 1) (Zk ZS (Zk ZV (pv 2) Zb) (ZC Yp rfl T.z_len boot_len (Za (pv 1) Ze))) (λ _ _=>rfl)) Zb (λ _ _=>rfl))))
 ZH)
 @rest4)))),?_⟩
  refine⟨_,rfl,a,ns,0,rfl,hS,by decide,λ c1=>⟨c1,1,rfl,λ r1=>⟨r1,6,rfl,by decide,by decide,λ l H2 es s2 hl0 hL hP hN hlen=>?_⟩⟩⟩;have hok:OkL es:=⟨hP,by omega,hN⟩;refine⟨_,rfl,a,ns,1,rfl,s2.seq hS,by decide,λ c2=>⟨c2,2,rfl,λ n=>?_⟩⟩;refine⟨_,rfl,_,_,rfl,rfl,⟨by decide,by decide⟩,_,rfl,λ z hz1 hz2=>?_⟩;obtain⟨xs,hl,hx⟩:=hL.len;refine⟨_,rfl,_,_,rfl, .inl ⟨_,SqL.of hl,rfl⟩,_,_,rfl,rfl,_,rfl,?_⟩;refine Ym (λ c=>?_) (λ _=>Y6 ⟨l,es,z,_,rfl,s2.seq hS,hL,hok,hz2,k⟩);refine⟨_,rfl,_,_,rfl,rfl,(by show(0:Int)<4;decide),_,_,rfl,rfl,_,rfl,?_⟩;refine Ym (λ _=>?_) (λ _=>⟨l,es,z,_,rfl,s2.seq hS,hL,hok,hz2,k⟩);have c':(0:Int)<((xs.length:Nat):Int):=of_decide_eq_true c;have g1:=emod_lt_of_pos (n / 4) c';have g0:=emod_nonneg (n / 4) (show((xs.length:Nat):Int)≠0 by omega);have gi:(n / 4 % ((xs.length:Nat):Int)).toNat<xs.length:=by omega
  obtain⟨p,e,ep,he,hp⟩:=hL.at hl (getElem?_eq_getElem gi);have hat:atI xs (n / 4 % ((xs.length:Nat):Int))=some (.ref p):=by
    have q:atI xs (((n / 4 % ((xs.length:Nat):Int)).toNat:Nat):Int)=some (.ref p):=X1 (by rw[getElem?_eq_getElem gi,ep]);rw[show(((n / 4 % ((xs.length:Nat):Int)).toNat:Nat):Int)=n / 4 % ((xs.length:Nat):Int) by omega]at q;exact q
  exact⟨_,rfl,_,rfl,_,_,rfl,rfl,⟨by decide,by decide⟩,_,rfl,_,_,rfl, .inl ⟨_,SqL.of hl,rfl⟩,_,_,rfl,rfl,c',l,_,_,_,rfl,rfl,SqL.of hl,hat,p,_,_,_,rfl,rfl,SqT.of hp,rfl,l,es,e.1,_,rfl,s2.seq hS,hL,hok,((hN e (mem_of_getElem? he)).1).2.2.2,k⟩
end
local macro_rules|`(tactic| walk_at "b1") => `(tactic| exact λ _ _ _ _ _ _ us hl=>by(obtain⟨_,h⟩:=L2.us1 us hl;subst h;rfl))
local macro_rules|`(tactic| walk_at "b2") => `(tactic| exact λ _ _ _ _ _ _ us hl=>by(obtain⟨_,_,h⟩:=L2.us2 us hl;subst h;rfl))
local macro_rules|`(tactic| walk_at "b3") => `(tactic| exact λ _ _ _ _ _ _ us hl=>by(obtain⟨_,_,_,h⟩:=L2.us3 us hl;subst h;rfl))
theorem all_mk {l:PySem.W.OpenLaw}{w:World}{K:Frag}{h:Heap}{mg:Str->Option Value}{fa:Addr}(X:K.In h)(G:h.Ns mainGlobals mg)(hfa:mg "law"=some (.ref fa)){Qai:Addr}{QaM:Option Addr}{QaN:Nat}{QaO:Array (Option Value)}{QaP QaQ:Tok}(Qaz:nsIn K mainGlobals "isinstance"=some none)(QaA:nsIn K mainGlobals "int"=some none)(QaB:nsIn K mainGlobals "bool"=some none)(QaC:nsIn K mainGlobals "tuple"=some none)(QaD:nsIn K mainGlobals "len"=some none)(QaE:nsIn K mainGlobals "range"=some none)(QaF:nsIn K mainGlobals "list"=some none)(QaG:nsIn K mainGlobals "str"=some none)(QaH:nsIn K mainGlobals "sorted"=some none)(QaI:nsIn K mainGlobals "dict"=some none)(QaJ:nsIn K mainGlobals "enumerate"=some none)(QaK:nsIn K mainGlobals "sum"=some none)(QaL:nsIn K mainGlobals "NOUGHT"=some (some (.ref Qai)))(lk_NOUGHT:K.lookup Qai=some ⟨.type "tuple",QaM, .seq #[.int 0 QaP, .int 1 QaQ] QaN,QaO⟩)(p0:GlP K "common" Jc)(p1:GlP K "lowest" Jb)(p2:GlP K "plus" ZaK)(p3:GlP K "times" JZ)(p4:GlP K "held_in" XC)(p5:GlP K "ledger_of" YM)(p6:GlP K "held_passed" Yd)(p7:GlP K "passed" Ja)(p8:GlP K "_law_num" Xz)(p9:GlP K "_law_cell_at" Yc)(p10:GlP K "_law_rich" Xk)(p11:GlP K "_law_word" Xj)(p12:GlP K "_law_common" Yv)(p13:GlP K "_law_low" XA)(p14:GlP K "_law_sum" Xy)(p15:GlP K "_law_is_share" Z9)(p16:GlP K "_law_is_ledger" Z6)(p17:GlP K "_law_total" YN)(p18:GlP K "_law_listed" Yt)(p19:GlP K "_law_ledger" Yu)(p20:GlP K "_law_takers" Ys)(p21:GlP K "_law_due" XB)(p22:GlP K "law" Zak)
    : ∃(g:Ga)(fd:FuncData),(∀(s:Shared)(v:Value),BindsTo s fd ⟨[v],[]⟩ [("_law_script",v)])/\∀ base:Heap,K.In base->base.Ns mainGlobals mg->FnOk l.prog w K mg base CX0 6 fa fd ["_law_script"] (JX K g):=by
  have T:Txt K ({ NOUGHT:=Qai }:Ga) mg:=⟨mg_none_of X G Qaz,mg_none_of X G QaA,mg_none_of X G QaB,mg_none_of X G QaC,mg_none_of X G QaD,mg_none_of X G QaE,mg_none_of X G QaF,mg_none_of X G QaG,mg_none_of X G QaH,mg_none_of X G QaI,mg_none_of X G QaJ,mg_none_of X G QaK,mg_of X G QaL,λ _ => .inr ⟨_,_,_,lk_NOUGHT,rfl,rfl,by show 2<=sizeLine;decide, .cons ⟨_,rfl⟩ (.cons ⟨_,rfl⟩ (.nil))⟩⟩;obtain⟨fd,bl,Fl⟩:=la_gl (l:="_law_script") X G hfa p22 (λ _ _ _ _ _ _ s v => .of_eq rfl);refine⟨{ NOUGHT:=Qai },fd,bl,λ base _ _=>?_⟩;generalize hg:({ NOUGHT:=Qai }:Ga)=g at T;have Qao:ZaB l.prog w K g mg base:=ZP X G p0 (Zbw · T) (by walk_at "b2");have Qac:Jr l.prog w K g mg base:=ZP X G p1 (Zbv · T Qao) (by walk_at "b2");have Qap:Zcz l.prog w K g mg base:=ZP X G p2 (ZcZ · T Qac) (by walk_at "b2");have Qaq:Zbd l.prog w K g mg base:=ZP X G p3 (Zb9 · T Qac) (by walk_at "b2");have Qat:JQ l.prog w K g mg base:=ZP X G p4 (ZaQ · T) (by walk_at "b1");have Qar:XT l.prog w K g mg base:=ZP X G p5 (J5 · T) (by walk_at "b1");have Qas:Xi l.prog w K g mg base:=ZP X G p6 (Jm · T Qap Qaq) (by walk_at "b3");have Qak:ZaA l.prog w K g mg base:=ZP X G p7 (Zbu · T Qar Qas Qat) (by walk_at "b3");have Qaj:JO l.prog w K g mg base:=ZP X G p8 (ZaN · T) (by walk_at "b1");have Qah:Xh l.prog w K g mg base:=ZP X G p9 (Jl · T) (by walk_at "b2");have Qag:Js l.prog w K g mg base:=ZP X G p10 (Zap · T) (by walk_at "b2");have Qab:Yw l.prog w K g mg base:=ZP X G p11 (Zao · T) (by walk_at "b1");have Qad:Yy l.prog w K g mg base:=ZP X G p12 (Jx · T) (by walk_at "b2");have Qaa:Yo l.prog w K g mg base:=ZP X G p13 (ZaO · T Qad) (by walk_at "b2");have Qae:XL l.prog w K g mg base:=ZP X G p14 (ZaM · T Qaa) (by walk_at "b2");have Qau:YW l.prog w K g mg base:=ZP X G p15 (XW · T Qad Qaj) (by walk_at "b1");have Qax:YC l.prog w K g mg base:=ZP X G p16 (XG · T Qau) (by walk_at "b1");have Qam:XU l.prog w K g mg base:=ZP X G p17 (J6 · T Qae) (by walk_at "b1");have Qaf:Yx l.prog w K g mg base:=ZP X G p18 (Jv · T) (by walk_at "b1");have Qav:Xu l.prog w K g mg base:=ZP X G p19 (Jw · T Qaf Qaa Qab) (by walk_at "b2");have Qaw:Xt l.prog w K g mg base:=ZP X G p20 (Ju · T Qaa Qab) (by walk_at "b3");have Qal:JP l.prog w K g mg base:=ZP X G p21 (ZaP · T Qaf Qaa Qae) (by walk_at "b3");exact ok_law Fl T Qav Qag Qab Qaw Qak Qah Qax Qal Qam
theorem walk {l:PySem.W.OpenLaw}{q:Program}{loose:List Str}{XP:(Str->Option Value)->Heap->Prop}{YP:World->Heap->Prop}{d:DefRec}{K:Params->Frag}(hn:l.most=some 63)(hdf:d.params.defaults=[])(hY:∀(w:World)(h:Heap),YP w h->(K w.params).In h)(F:∀(w:World)(mg:Str->Option Value)(fa:Addr)(h:Heap),(K w.params).In h->h.Ns mainGlobals mg->mg d.name=some (.ref fa) ->
      ∃(g:Ga)(fd:FuncData),(∀(s:Shared)(u:Value),BindsTo s fd ⟨[u],[]⟩ [("_law_script",u)])/\∀ base:Heap,(K w.params).In base->base.Ns mainGlobals mg->FnOk l.prog w (K w.params) mg base CX0 6 fa fd ["_law_script"] (JX (K w.params) g)) :
    PySem.W.WalkO q loose XP YP l.row.toRowW d [] (λ f vs=>PySem.call f vs):=
  L2.walk_of (n:=63) (k:=6) (x:="_law_script") (CX:=λ _=>CX0) (sp:=λ w=>JX (K w.params) {}) hn (by decide) hdf ⟨rfl,by decide,by decide⟩ hY (λ w mg fa h a b c=>(F w mg fa h a b c).elim λ _ z=>z) (λ _ _ a ns hl _ hS=>⟨a,ns,rfl,hS,hl,λ _=>rfl⟩) λ _ _ _ _ _ z=>z
end My
open PySem PySem.W PyProof.Rows
set_option maxRecDepth 100000 in
set_option maxHeartbeats 0 in
theorem PySem.Challenge.cw_deadhand_k04_share_passed_holds : PySem.Challenge.rw_deadhand_k04_share_passed.Holds := by
  w_on; o_law; z_head; (case hw=>w_witness2)
  refine L2.walkX_of (by intro P; exact rfl) (My.walk (l:=PySem.Challenge.rw_deadhand_k04_share_passed) rfl rfl (fun w h Y=>Y) ?F)
  case F =>
    intro w mg fa h KX G hmg;refine' My.all_mk KX G hmg ?Qaz ?QaA ?QaB ?QaC ?QaD ?QaE ?QaF ?QaG ?QaH ?QaI ?QaJ ?QaK ?QaL ?lk_NOUGHT ?p0 ?p1 ?p2 ?p3 ?p4 ?p5 ?p6 ?p7 ?p8 ?p9 ?p10 ?p11 ?p12 ?p13 ?p14 ?p15 ?p16 ?p17 ?p18 ?p19 ?p20 ?p21 ?p22
    all_goals (try first | (refine' L2.glp_mk ?a ?l ?c ?k; (case a=>k_is); (case l=>k_is); (case c=>k_is); (case k=>k_is)) | (refine' L2.mtp_mk ?a ?i ?l ?c ?k; (case a=>k_is); (case i=>k_is); (case l=>k_is); (case c=>k_is); (case k=>k_is)) | k_is)
