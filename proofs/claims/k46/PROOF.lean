import PyProof.Rows.All
import Wide.All
import OpenK.AllK
import Wide.FinOn
import Lean
import PyProof.EqAt
import PyProof.EqKinds
import PyProof.TupleCall
import KE.KDictList
import PyProof.Rows.StrCountLaw
import KE.KIntText
import PyProof.P3In
import PySem.Challenge.RW_deadhand_k46_rows_written
open PySem.W (instObj hideAll Frag lookIn plainGet findIn isFn keepIn fnOf codeIn excIn nsIn subIn mg_of mg_none_of)
open Nat (lt_of_lt_of_le lt_irrefl ne_of_lt le_trans le_of_lt le_refl zero_le sub_self lt_or_ge)
open List (mem_cons_self mem_cons_of_mem mem_append_right size_toArray length_cons map_cons length_map append_nil length_take getElem?_append_right getElem?_append_left getElem?_map mem_of_getElem? length_append find?_cons any_cons map_nil append_assoc length_singleton take_succ getElem?_eq_getElem take_length all_append map_append map_map eq_nil_or_concat mem_cons not_mem_nil getElem_mem mem_of_mem_take)
open Array (length_toList getElem?_toList)
open Int (toNat_natCast emod_lt_of_pos emod_nonneg)
open Bool (and_eq_true)
open Option (map_some)
open PySem (boot_len)
open PySem.F (plainAttrs_str)
open PyProof.Rows (boot_list boot_str)
set_option compiler.extract_closed false
set_option genSizeOf false
set_option Elab.async false
set_option linter.all false
set_option maxRecDepth 100000
namespace L2
open PySem PySem.Spec PyProof.Rows
noncomputable abbrev Key:=Sum Int Str
noncomputable def Zcb:Key->Value->Bool
  |.inl k,v=>Value.isInt k v
  |.inr x,v=>Value.isStrOf x v
noncomputable def keyH (w:World):Key->Int
  |.inl k=>hashInt k
  |.inr x=>hashStr w x
theorem ZU:∀ {k:Key} {v:Value},Zcb k v=true->(∃ i t,k=Sum.inl i/\v=Value.int i t)\/(∃ x t,k=Sum.inr x/\v=Value.str x t)
  | .inl i,v,h=>by
    obtain⟨t,e⟩:=Value.isInt_shape (k:=i) (v:=v) h;exact .inl ⟨i,t,rfl,e⟩
  | .inr x,v,h=>by
    obtain⟨t,e⟩:=Value.isStrOf_shape (x:=x) (v:=v) h;exact .inr ⟨x,t,rfl,e⟩
theorem Zey (i:Int)(t:Tok):Zcb (.inl i) (.int i t)=true:=by simp[Zcb,Value.isInt]
theorem Zex (x:Str)(t:Tok):Zcb (.inr x) (.str x t)=true:=by simp[Zcb,Value.isStrOf]
theorem key_ll (a b:Int):decide ((Sum.inl a:Key)=Sum.inl b)=(a == b):=by
  by_cases e:a=b
  . subst e;simp
  . have h:¬ (Sum.inl a:Key)=Sum.inl b:=λ q=>e (Sum.inl.inj q);rw[decide_eq_false h];exact(beq_eq_false_iff_ne.mpr e).symm
theorem key_rr (a b:Str):decide ((Sum.inr a:Key)=Sum.inr b)=decide (a=b):=by
  by_cases e:a=b
  . subst e;simp
  . have h:¬ (Sum.inr a:Key)=Sum.inr b:=λ q=>e (Sum.inr.inj q);rw[decide_eq_false h,decide_eq_false e]
theorem key_lr (a:Int)(b:Str):decide ((Sum.inl a:Key)=Sum.inr b)=false:=decide_eq_false (λ q=>nomatch q)
theorem key_rl (a:Str)(b:Int):decide ((Sum.inr a:Key)=Sum.inl b)=false:=decide_eq_false (λ q=>nomatch q)
noncomputable def Yr (prog:Program)(w:World):PySem.KeyKind prog w Key where
  is:=Zcb
  hash:=keyH w
  inj:=λ v a b ha hb=>by
    rcases ZU ha with ⟨i,t,rfl,rfl⟩|⟨x,t,rfl,rfl⟩
    . rcases ZU hb with ⟨j,u,rfl,e⟩|⟨y,u,rfl,e⟩
      . injection e with e1 _;rw[e1]
      . exact nomatch e
    . rcases ZU hb with ⟨j,u,rfl,e⟩|⟨y,u,rfl,e⟩
      . exact nomatch e
      . injection e with e1 _;rw[e1]
  byValue:=λ k v h=>by
    rcases ZU h with ⟨i,t,rfl,rfl⟩|⟨x,t,rfl,rfl⟩ <;> rfl
  pyHash:=λ hv h=>by
    rcases ZU hv with ⟨i,t,rfl,rfl⟩|⟨x,t,rfl,rfl⟩
    . exact wpAny_pyHash_int h
    . exact wpAny_pyHash_str h
  eqBool:=λ hu hv h=>by
    rcases ZU hu with ⟨i,t,rfl,rfl⟩|⟨x,t,rfl,rfl⟩
    . rcases ZU hv with ⟨j,u,rfl,rfl⟩|⟨y,u,rfl,rfl⟩
      . rw[key_ll]at h;exact wpAny_eqBool_int h
      . rw[key_lr]at h;exact SeqAt.EqAt.int_str i t y u _ _ _ _ h
    . rcases ZU hv with ⟨j,u,rfl,rfl⟩|⟨y,u,rfl,rfl⟩
      . rw[key_rl]at h;exact SeqAt.EqAt.str_int x t j u _ _ _ _ h
      . rw[key_rr]at h;exact wpAny_eqBool_str h
  «strs»:=λ k x t v h=>by
    rcases ZU h with ⟨i,u,rfl,e⟩|⟨y,u,rfl,e⟩
    . exact nomatch e
    . injection e with e1 _;subst e1;cases v <;> rfl
theorem Zdg (prog:Program)(w:World)(i:Int)(t:Tok):(Yr prog w).is (.inl i) (.int i t)=true:=Zey i t
theorem X7 (prog:Program)(w:World)(x:Str)(t:Tok):(Yr prog w).is (.inr x) (.str x t)=true:=Zex x t
open PySem PySem.Spec PyProof.Rows
inductive V where
  | non|bl (b:Bool)|int (i:Int)|str (x:Str)|byt (b:Array UInt8)|flt (b:UInt64)|ref (a:Addr)|ty (n:String)
  deriving DecidableEq
noncomputable def ZM:V->Value->Prop
  |.non,u=>u=Value.none
  |.bl b,u=>u=Value.bool b
  |.int i,u=>∃ t,u=Value.int i t
  |.str x,u=>∃ t,u=Value.str x t
  |.byt b,u=>∃ t,u=Value.bytes b t
  |.flt b,u=>∃ t,u=Value.float b t
  |.ref a,u=>u=Value.ref a
  |.ty n,u=>u=Value.type n
noncomputable abbrev ZH:List V->List Value->Prop:=Paired ZM
theorem ZH.length {xs:List V}{us:List Value}(r:ZH xs us):xs.length=us.length:=Paired.length r
theorem ZH.get:∀ {xs:List V} {us:List Value} {i:Nat} {x:V},ZH xs us->xs[i]? = some x->∃ u,us[i]? = some u/\ZM x u
  |_,_,_,_, .nil,e=>by simp at e
  |_,_,0,_, .cons r _,e=>by simp at e;subst e;exact⟨_,rfl,r⟩
  | _,_,i+1,x, .cons _ t,e=>by
    obtain⟨u,h1,h2⟩:=ZH.get (i:=i) (x:=x) t (by simpa using e);exact⟨u,by simpa using h1,h2⟩
theorem ZH.append:∀ {xs ys:List V} {us ws:List Value},ZH xs us->ZH ys ws->ZH (xs++ys) (us++ws)
  |_,_,_,_, .nil,s=>s
  |_,_,_,_, .cons r t,s => .cons r (ZH.append t s)
theorem ZH.take:∀ {xs:List V} {us:List Value} (n:Nat),ZH xs us->ZH (xs.take n) (us.take n)
  |_,_,0,_ => .nil
  |_,_,_+1, .nil => .nil
  |_,_,n+1, .cons r t => .cons r (ZH.take n t)
theorem ZH.drop:∀ {xs:List V} {us:List Value} (n:Nat),ZH xs us->ZH (xs.drop n) (us.drop n)
  |_,_,0,r=>r
  |_,_,_+1, .nil => .nil
  |_,_,n+1, .cons _ t=>ZH.drop n t
noncomputable def ZcW:Option V->Option Value->Prop
  |some v,some u=>ZM v u
  |none,none=>True
  |_,_=>False
noncomputable def KV {κ:Type}:List (κ×V)->List (κ×Value)->Prop:=Paired λ(p:κ×V)(q:κ×Value)=>p.1=q.1/\ZM p.2 q.2
noncomputable def kV:Key->V
  |.inl i => .int i
  |.inr x => .str x
inductive HO where
    | lst (xs:List V)
    | tup (xs:List V)
    | dK (kvs:List (Key×V))|dT (kvs:List (List Key×V))
    | set (S:Int->Bool) (n:Nat)
    | ins (C dx:Addr) (fs:List (Str×V))
    | own (x:Addr)
    | xd (fs:List (Str×V))
    | met (f x:Addr)
    | rng (lo hi:Int)
    | frz (o:Obj) (u:HO)
    | tbl (ps:Array Value)
    | ext (φ:Heap->Prop)
noncomputable abbrev Hp:=Addr->Option HO
noncomputable def upd (H:Hp)(a:Addr)(o:HO):Hp:=λ b=>if b=a then some o else H b
theorem Zc {H:Hp}{a:Addr}{o:HO}:upd H a o a=some o:=by unfold upd;rw[if_pos rfl]
theorem ZT {H:Hp}{a b:Addr}{o:HO}(h:b≠a):upd H a o b=H b:=by unfold upd;rw[if_neg h]
theorem Yf {H:Hp}{a b:Addr}{o:HO}(h:H a=some o)(h':H b=none):a≠b:=by
 intro e;subst e;rw[h]at h';cases h'
section
variable (P:Program)(w:World)
noncomputable def Z2 (H:Hp)(h:Heap)(a:Addr):HO->Prop
  |.lst xs=>xs.length<=sizeLine/\∃(its:List Value)(n:Nat),ZH xs its/\h.get? a=some { cls:=.type "list",data:=.seq its.toArray n }
  |.tup xs=>xs.length<=sizeLine/\∃ its:List Value,ZH xs its/\IsTup h a its.toArray
  |.dK kvs=>kvs.length<=sizeLine/\(a == sysModules)=false/\∃ vs,KV kvs vs/\h.DictOf (Yr P w) a vs
  | .dT kvs=>kvs.length<=sizeLine/\(a == sysModules)=false/\∃ xs:List (List Key×Addr×Value),
      Paired (λ(p:List Key×V)(q:List Key×Addr×Value)=>p.1=q.1/\H q.2.1=some (.tup (p.1.map kV))/\ZM p.2 q.2.2) kvs xs /\
      ∃ o es ep,h.get? a=some o/\o.ExactDict/\o.data = .dict es ep/\es.toList=xs.map (entryOfKey (tupleKind (Yr P w)))/\(xs.map (·.1)).Nodup
  |.set S n=>h.SetOf (intKind P w) a S n
  | .ins C dx fs=>H dx=some (.own a)/\fs.length<=1000/\dx≠a/\h.get? a=some (instObj C dx) /\
      ∃ mA,h.Ns1 dx mA/\(∀ f,ZcW (fs.lookup f) (mA f))/\PySem.Within mA (fs.map (·.1))
  |.own _=>∃ o,h.get? a=some o
  |.xd fs=>∃ mA,h.Ns1 a mA/\∀ f,ZcW (fs.lookup f) (mA f)
  |.rng lo hi=>∃ t u v,h.get? a=some { cls:=.type "range",data:=.fields #[.int lo t, .int hi u, .int 1 v] }
  |.frz o u=>h.get? a=some o/\Z2 H h a u
  |.tbl ps=>h.get? a=some { cls:=.none,data:=.fields ps }
  |.met f x=>h.get? a=some (PySem.W.methodObj (.ref f) (.ref x))
  |.ext φ=>φ h/\(∃ o,h.get? a=some o)/\∀ h1 h2:Heap,φ h1->(∀ o,h1.get? a=some o->h2.get? a=some o)->φ h2
noncomputable def HOk (H:Hp)(h:Heap):Prop:=∀ a o,H a=some o->Z2 P w H h a o
end
section
variable {P:Program}{w:World}{H H':Hp}{h h':Heap}{a:Addr}{o:HO}
theorem Z2.lt (x:Z2 P w H h a o):a<h.objs.size:=by
  cases o with
  |lst xs=>obtain⟨_,_,_,_,e⟩:=x;exact Heap.lt_size e
  |tup xs=>obtain⟨_,_,_,p⟩:=x;exact p.lt
  |dK kvs=>obtain⟨_,_,_,_,o,_,_,e,_⟩:=x;exact Heap.lt_size e
  |dT kvs=>obtain⟨_,_,_,_,o,_,_,e,_⟩:=x;exact Heap.lt_size e
  |set S n=>obtain⟨o,_,_,_,e,_⟩:=x;exact Heap.lt_size e
  |ins C dx fs=>obtain⟨_,_,_,e,_⟩:=x;exact Heap.lt_size e
  |own y=>obtain⟨_,e⟩:=x;exact Heap.lt_size e
  |xd fs=>obtain⟨_,⟨_,_,_,e,_⟩,_⟩:=x;exact Heap.lt_size e
  |rng lo hi=>obtain⟨_,_,_,e⟩:=x;exact Heap.lt_size e
  |frz ob u=>obtain⟨e,_⟩:=x;exact Heap.lt_size e
  |tbl ps=>exact Heap.lt_size (show h.get? a=some _ from x)
  |met f y=>exact Heap.lt_size (show h.get? a=some _ from x)
  |ext φ=>obtain⟨_,⟨_,e⟩,_⟩:=x;exact Heap.lt_size e
theorem Paired.mapP {α β:Type}{F G:α->β->Prop}:∀ {l₁:List α} {l₂:List β},Paired F l₁ l₂->(∀ a b,F a b->G a b)->Paired G l₁ l₂
  |_,_, .nil,_ => .nil
  |_,_, .cons r t,f => .cons (f _ _ r) (Paired.mapP t f)
theorem Z2.stay (x:Z2 P w H h a o)(k:∀ b u,(b=a\/H b=some (.own a))->h.get? b=some u->h'.get? b=some u)(ho:∀ b,H b=some (.own a)->H' b=some (.own a))(ht:∀ b xs,H b=some (.tup xs)->H' b=some (.tup xs)):Z2 P w H' h' a o:=by
  induction o with
  |lst xs=>obtain⟨z,its,n,r,e⟩:=x;exact⟨z,its,n,r,k _ _ (.inl rfl) e⟩
  |tup xs=>obtain⟨z,its,r,ob,e,c⟩:=x;exact⟨z,its,r,ob,k _ _ (.inl rfl) e,c⟩
  |dK kvs=>obtain⟨z,y,vs,r,ob,es,ep,e,c⟩:=x;exact⟨z,y,vs,r,ob,es,ep,k _ _ (.inl rfl) e,c⟩
  |dT kvs=>
    obtain⟨z,y,xs,r,ob,es,ep,e,c⟩:=x;exact⟨z,y,xs,Paired.mapP r λ p q z=>⟨z.1,ht _ _ z.2.1,z.2.2⟩,ob,es,ep,k _ _ (.inl rfl) e,c⟩
  |set S n=>obtain⟨ob,es,ep,t,e,c⟩:=x;exact⟨ob,es,ep,t,k _ _ (.inl rfl) e,c⟩
  |ins C dx fs=>
    obtain⟨d,z,ne,e,mA,⟨od,es,ep,e2,c⟩,r⟩:=x;exact⟨ho _ d,z,ne,k _ _ (.inl rfl) e,mA,⟨od,es,ep,k _ _ (.inr d) e2,c⟩,r⟩
  |own y=>obtain⟨ob,e⟩:=x;exact⟨ob,k _ _ (.inl rfl) e⟩
  |xd fs=>obtain⟨mA,⟨od,es,ep,e,c⟩,r⟩:=x;exact⟨mA,⟨od,es,ep,k _ _ (.inl rfl) e,c⟩,r⟩
  |rng lo hi=>obtain⟨t,u,v,e⟩:=x;exact⟨t,u,v,k _ _ (.inl rfl) e⟩
  |frz ob u ih=>obtain⟨e,q⟩:=x;exact⟨k _ _ (.inl rfl) e,ih q⟩
  |tbl ps=>
    have e:h.get? a=some { cls:=.none,data:=.fields ps }:=x;show h'.get? a=some { cls:=.none,data:=.fields ps };exact k a _ (.inl rfl) e
  |met f y=>
    have e:h.get? a=some (PySem.W.methodObj (.ref f) (.ref y)):=x;show h'.get? a=some (PySem.W.methodObj (.ref f) (.ref y));exact k a _ (.inl rfl) e
  |ext φ=>obtain⟨p,⟨o,e⟩,st⟩:=x;exact⟨st _ _ p λ o q=>k _ _ (.inl rfl) q,⟨o,k _ _ (.inl rfl) e⟩,st⟩
theorem HOk.lt (x:HOk P w H h)(e:H a=some o):a<h.objs.size:=(x a o e).lt
theorem HOk.fresh (x:HOk P w H h)(e:h.objs.size<=a):H a=none:=by
  cases q:H a with
  |none=>rfl
  |some u=>exact absurd (lt_of_lt_of_le (x.lt q) e) (lt_irrefl _)
theorem HOk.kept (x:HOk P w H h)(k:∀ b u,h.get? b=some u->h'.get? b=some u):HOk P w H h':=λ a o e=>
 (x a o e).stay (λ b u _ q=>k b u q) (λ _ q=>q) λ _ _ q=>q
theorem HOk.laid (x:HOk P w H h)(k:∀ b u,h.get? b=some u->h'.get? b=some u)(hp:h.objs.size<=a)(new:Z2 P w (upd H a o) h' a o):HOk P w (upd H a o) h':=λ b u e=>by
  have hn:=x.fresh hp
  by_cases hb:b=a
  . subst hb;rw[Zc]at e;cases e;exact new
  . rw[ZT hb]at e;exact(x b u e).stay (λ c v _ q=>k c v q) (λ c q=>by rw[ZT (Yf q hn)];exact q) λ c xs q=>by rw[ZT (Yf q hn)];exact q
end
noncomputable def Rd (H:Hp)(a:Addr)(u:HO):Prop:=H a=some u\/∃ o,H a=some (.frz o u)
theorem Rd.ok {P:Program}{w:World}{H:Hp}{h:Heap}{a:Addr}{u:HO}(r:Rd H a u)(x:HOk P w H h):Z2 P w H h a u:=by
  rcases r with r|⟨o,r⟩
  . exact x a u r
  . obtain⟨_,q⟩:=x a _ r;exact q
noncomputable def Mut:Option HO->Prop
  |some (.lst _)=>True
  |some (.dK _)=>True
  |some (.dT _)=>True
  |some (.set _ _)=>True
  |some (.ins _ _ _)=>True
  |some (.ext _)=>True
  |_=>False
section
variable {P:Program}{w:World}{H:Hp}{h h':Heap}{x e:Addr}{o':HO}
theorem HOk.write (ok:HOk P w H h)(mu:Mut (H x))(he:e=x\/H e=some (.own x))(k:∀ b u,b≠e->h.get? b=some u->h'.get? b=some u)(heo:∃ u,h'.get? e=some u)(new:Z2 P w (upd H x o') h' x o'):HOk P w (upd H x o') h':=λ b u q=>by
  have nown:∀ c y,H c=some (.own y)->c≠x:=λ c y r z=>by subst z;rw[r]at mu;exact mu
  have ntup:∀ c xs,H c=some (.tup xs)->c≠x:=λ c xs r z=>by subst z;rw[r]at mu;exact mu
  by_cases hb:b=x
  . subst hb;rw[Zc]at q;cases q;exact new
  . rw[ZT hb]at q
    by_cases hbe:b=e
    . have q':H b=some (.own x):=by
        rcases he with z|z
        . exact absurd (hbe.trans z) hb
        . rw[hbe];exact z
      rw[q]at q';cases q';obtain⟨v,hv⟩:=heo;exact⟨v,by rw[hbe];exact hv⟩
    . refine(ok b u q).stay (λ c v hc r=>k c v ?_ r) (λ c r=>by rw[ZT (nown c b r)];exact r) λ c xs r=>by rw[ZT (ntup c xs r)];exact r
      rcases hc with rfl|hc
      . exact hbe
      . rintro rfl;rcases he with z|z
        . exact nown c b hc z
        . rw[hc]at z;cases z;exact hb rfl
end
structure Un (fs ex:List Addr)(H H':Hp)(h h':Heap):Prop where
  keep:∀ b o,h.get? b=some o->H b=none->b∉fs->b∉ex->h'.get? b=some o
  slot:∀ b o,h.get? b=some o->H b=none->b∈fs->b∉ex->∃ sl,h'.get? b=some { o with slots:=sl }
  free:∀ b o,h.get? b=some o->H b=none->b∉ex->H' b=none
  there:∀ b o,h.get? b=some o->b∉ex->∃ o',h'.get? b=some o'
  tups:∀ b xs,H b=some (.tup xs)->H' b=some (.tup xs)
  frzs:∀ b o u,H b=some (.frz o u)->H' b=some (.frz o u)
  tbls:∀ b ps,H b=some (.tbl ps)->∃ more,H' b=some (.tbl (ps++more))
section
variable {fs fs' ex ex':List Addr}{H H1 H2:Hp}{h h1 h2 h':Heap}{a x e:Addr}{o:HO}
theorem Un.any (u:Un fs ex H H1 h h1){b:Addr}{ob:Obj}(q:h.get? b=some ob)(n:H b=none)(hx:b∉ex):∃ sl,h1.get? b=some { ob with slots:=sl }:=by
  by_cases hb:b∈fs
  . exact u.slot b ob q n hb hx
  . exact⟨ob.slots,u.keep b ob q n hb hx⟩
theorem Un.trans (a:Un fs ex H H1 h h1)(b:Un fs ex H1 H2 h1 h2):Un fs ex H H2 h h2 where
  keep:=λ c ob q n hc hx=>b.keep c ob (a.keep c ob q n hc hx) (a.free c ob q n hx) hc hx
  slot:=λ c ob q n hc hx=>by
    obtain⟨sl,e1⟩:=a.slot c ob q n hc hx;obtain⟨sl',e2⟩:=b.slot c _ e1 (a.free c ob q n hx) hc hx;exact⟨sl',e2⟩
  free:=λ c ob q n hx=>by
    obtain⟨o',e1⟩:=a.there c ob q hx;exact b.free c o' e1 (a.free c ob q n hx) hx
  there:=λ c ob q hx=>by
    obtain⟨o',e1⟩:=a.there c ob q hx;exact b.there c o' e1 hx
  tups:=λ c xs q=>b.tups c xs (a.tups c xs q)
  frzs:=λ c ob xs q=>b.frzs c ob xs (a.frzs c ob xs q)
  tbls:=λ c ps q=>by
    obtain⟨m1,e1⟩:=a.tbls c ps q;obtain⟨m2,e2⟩:=b.tbls c _ e1;exact⟨m1++m2,by rw[e2,Array.append_assoc]⟩
theorem Un.kept (k:∀ b u,h.get? b=some u->h'.get? b=some u):Un fs ex H H h h':=
 ⟨λ b ob q _ _ _=>k b ob q,λ b ob q _ _ _=>⟨ob.slots,k b ob q⟩,λ _ _ _ n _=>n,λ b ob q _=>⟨ob,k b ob q⟩,λ _ _ q=>q,λ _ _ _ q=>q,λ _ ps q=>⟨#[],by rw[q];simp⟩⟩
theorem Un.refl:Un fs ex H H h h:=Un.kept λ _ _ q=>q
theorem Un.laid (k:∀ b u,h.get? b=some u->h'.get? b=some u)(hp:h.objs.size<=a)(hn:H a=none):Un fs ex H (upd H a o) h h' where
 keep:=λ b u q _ _ _=>k b u q
 slot:=λ b u q _ _ _=>⟨u.slots,k b u q⟩
 free:=λ b u q n _=>by rw[ZT (ne_of_lt (lt_of_lt_of_le (Heap.lt_size q) hp))];exact n
 there:=λ b u q _=>⟨u,k b u q⟩
 tups:=λ b xs q=>by rw[ZT (Yf q hn)];exact q
 frzs:=λ b u xs q=>by rw[ZT (Yf q hn)];exact q
 tbls:=λ b ps q=>⟨#[],by rw[ZT (Yf q hn),q];simp⟩
theorem Un.write (mu:Mut (H x))(he:e=x\/H e=some (.own x))(k:∀ b u,b≠e->h.get? b=some u->h'.get? b=some u)(heo:∃ u,h'.get? e=some u):Un fs ex H (upd H x o) h h':=by
  have hx:∀ b,H b=none->b≠x:=λ b n z=>by subst z;rw[n]at mu;exact mu
  have hb:∀ b,H b=none->b≠e:=λ b n z=>by
    subst z;rcases he with r|r
    . exact hx b n r
    . rw[n]at r;cases r
  have hm:∀ b u,H b=some u->¬ Mut (some u)->b≠x:=λ b u q nm z=>by subst z;rw[q]at mu;exact nm mu
  refine⟨λ b u q n _ _=>k b u (hb b n) q,λ b u q n _ _=>⟨u.slots,k b u (hb b n) q⟩,λ b u q n _=>by rw[ZT (hx b n)];exact n,λ b u q _=>?_,
    λ b xs q=>by rw[ZT (hm b _ q λ z=>z)];exact q,λ b u xs q=>by rw[ZT (hm b _ q λ z=>z)];exact q,λ b ps q=>⟨#[],by rw[ZT (hm b _ q λ z=>z),q];simp⟩⟩
  by_cases hbe:b=e
  . subst hbe;exact heo
  . exact⟨u,k b u hbe q⟩
theorem Un.mono (u:Un fs ex H H1 h h1)(hs:∀ b∈fs,b∈fs')(hx:∀ b∈ex,b∈ex'):Un fs' ex' H H1 h h1:=
 ⟨λ b ob q n hb he=>u.keep b ob q n (λ z=>hb (hs b z)) λ z=>he (hx b z),λ _ _ q n _ he=>u.any q n λ z=>he (hx _ z),λ b ob q n he=>u.free b ob q n λ z=>he (hx b z),λ b ob q he=>u.there b ob q λ z=>he (hx b z),u.tups,u.frzs,u.tbls⟩
end
noncomputable def trk (h:Heap)(H:Hp):List Addr:=(List.range h.objs.size).filter λ a=>(H a).isSome
noncomputable def ZcQ (h:Heap)(H:Hp):Heap:=hideAll h (trk h H)
theorem ZeB (h:Heap)(H:Hp):(ZcQ h H).objs.size=h.objs.size:=PySem.W.hideAll_size _ _
theorem Zfs {h:Heap}{H:Hp}{b:Addr}{o:Obj}(e:h.get? b=some o)(n:H b=none):(ZcQ h H).get? b=some o:=
  PySem.W.hideAll_get _ e λ hm=>by
    have q:(H b).isSome=true:=(List.mem_filter.mp hm).2;rw[n]at q;simp at q
theorem Zf2 {h:Heap}{H:Hp}{b:Addr}{o:Obj}(e:(ZcQ h H).get? b=some o):h.get? b=some o/\H b=none:=by
  have e':h.get? b=some o:=PySem.W.of_hideAll (trk h H) e;refine⟨e',?_⟩;cases q:H b with
  |none=>rfl
  |some x=>
    have hm:b∈trk h H:=List.mem_filter.mpr ⟨List.mem_range.mpr (Heap.lt_size e'),by simp[q]⟩;have z:(ZcQ h H).get? b=none:=PySem.W.hideAll_none (trk h H) hm;rw[z]at e;cases e
noncomputable def Zgk (g h:Heap)(L:Addr):List (Addr×Obj):=(List.range h.objs.size).filterMap λ a=>if a=L\/(g.get? a).isSome=true then none else (h.get? a).map λ o=>(a,o)
noncomputable def J8 (g h:Heap)(L d:Addr):List (Addr×Obj):=(Zgk g h L).filter λ p=>decide (p.1≠d)
open PySem PySem.Spec PyProof.Rows
structure Mod (K:Frag)(mg:Str->Option Value)(base:Heap):Prop where
  kin:K.In base
  glob:base.Ns mainGlobals mg
  blt:∃ mb,base.Ns builtinsNs mb/\∀ x:Str,x≠"__name__"->mb x=bootBuiltins x
  nolimit:base.NoLimit
structure Cx where
  prog:Program
  w:World
  K:Frag
  mg:Str->Option Value
  base:Heap
  A:Around
  N:List Str
  s₀:Shared
  H₀:Hp
  env:Env
  outer:List Env
  stack:List Env
  ex:List Addr
  fn:Str->Bool
  calm:Bool
  pn:List (Addr×Obj)
  xe:Value->Shared->Prop
noncomputable def frs (l:List Env):List Addr:=l.filterMap (·.frame)
noncomputable abbrev Cx.fs (X:Cx):List Addr:=frs X.outer
noncomputable def Vis (sc:Scope)(x:Str):Prop:=sc.names.lookup x=some .local\/sc.names.lookup x=some .cell\/sc.names.lookup x=some .free
noncomputable def Loc (sc:Scope)(x:Str):Prop:=sc.names.lookup x=some .local\/sc.names.lookup x=some .cell
noncomputable def Look (env:Env)(h:Heap)(m:Str->Option Value)(x:Str)(u:Value):Prop:=
 (env.kindOf x=some .local/\m x=some u)\/((env.kindOf x=some .cell\/env.kindOf x=some .free)/\∃ c,env.cells.lookup x=some c/\h.IsCell c (some u))
structure Cx.Ok (X:Cx):Prop where
  mod:Mod X.K X.mg X.base
  kind:X.env.scope.kind = .function
  glob:X.env.globals=mainGlobals
  blt:X.env.builtins=builtinsNs
  above:X.s₀.heap.objs.size<=X.env.locals
  inj:∀ x y c,X.env.cells.lookup x=some c->X.env.cells.lookup y=some c->x=y
  has:∀ x,(X.env.kindOf x=some .cell\/X.env.kindOf x=some .free)->∃ c,X.env.cells.lookup x=some c
  cab:∀ x c,X.fn x=true->X.env.cells.lookup x=some c->X.s₀.heap.objs.size<=c
  hd:X.calm=true->X.A.handled=none
  frames:X.A.frames=some X.stack
  stk:X.stack=X.outer\/(X.stack=X.env::X.outer/\X.env.frame=some X.env.locals)
  exf:∀ b∈X.ex,b≠X.env.locals/\∀ x c,X.env.cells.lookup x=some c->c≠b
  bs:∀ b o,X.base.get? b=some o->X.s₀.heap.get? b=some o/\X.H₀ b=none
  bsz:X.base.objs.size<=X.s₀.heap.objs.size
  noex:∀ b o,X.base.get? b=some o->b∉X.ex
  exfs:∀ b∈X.ex,b∉X.fs
  funs:X.s₀.heap.FunFrames X.base X.outer
  frf:∀ b∈X.fs,X.H₀ b=none
structure Inv (X:Cx)(pins:List (Addr×Obj))(σ:List (Option V))(H:Hp)(s:Shared):Prop where
  ok:X.Ok
  os:s.os=X.s₀.os
  bare:AllBare s.gens
  base:Un X.fs X.ex X.H₀ H X.s₀.heap s.heap
  loc:∃ m,s.heap.Ns X.env.locals m/\∀(i:Nat)(x:Str)(v:V),X.N[i]? = some x->σ[i]? = some (some v)->Vis X.env.scope x->∃ u,ZM v u/\Look X.env s.heap m x u
  cell:∀ x c,X.env.cells.lookup x=some c->∃ v,s.heap.IsCell c v
  free:H X.env.locals=none
  freeC:∀ x c,X.env.cells.lookup x=some c->H c=none
  pin:∀ p∈X.pn++pins,s.heap.get? p.1=some p.2/\H p.1=none/\p.1≠X.env.locals/\p.1∉X.fs/\∀ v,p.2.data ≠ .cell v
  hok:HOk X.prog X.w H s.heap
  len:σ.length=X.N.length
section
variable {X:Cx}{pins:List (Addr×Obj)}{σ:List (Option V)}{H H':Hp}{s:Shared}{h':Heap}
theorem Cx.Ok.nofr (ok:X.Ok){b:Addr}{o:Obj}(e:X.base.get? b=some o):b∉X.fs:=λ hb=>by
 have:=(ok.funs.mem hb).1;rw[e]at this;cases this
theorem Inv.bs (I:Inv X pins σ H s):∀ b o,X.base.get? b=some o->s.heap.get? b=some o/\H b=none:=λ b o e=>
 ⟨I.base.keep b o (I.ok.bs b o e).1 (I.ok.bs b o e).2 (I.ok.nofr e) (I.ok.noex b o e),I.base.free b o (I.ok.bs b o e).1 (I.ok.bs b o e).2 (I.ok.noex b o e)⟩
theorem Inv.bk (I:Inv X pins σ H s):∀ b o,X.base.get? b=some o->s.heap.get? b=some o:=λ b o e=>(I.bs b o e).1
theorem Inv.mod (I:Inv X pins σ H s):Mod X.K X.mg X.base:=I.ok.mod
theorem Inv.kIn (I:Inv X pins σ H s):X.K.In s.heap:=I.ok.mod.kin.keeps I.bk
theorem Inv.lt (I:Inv X pins σ H s):X.env.locals<s.heap.objs.size:=let ⟨_,hn,_⟩:=I.loc;hn.lt
theorem Inv.sz (I:Inv X pins σ H s):X.s₀.heap.objs.size<=s.heap.objs.size:=le_trans I.ok.above (le_of_lt I.lt)
theorem Inv.nofs (I:Inv X pins σ H s){a:Addr}(h:s.heap.objs.size<=a):a∉X.fs:=λ hb=>by
 obtain⟨_,o,ho,_⟩:=I.ok.funs.mem hb;exact absurd (lt_of_lt_of_le (Heap.lt_size ho) (le_trans I.sz h)) (lt_irrefl _)
theorem Inv.cne (I:Inv X pins σ H s):∀ x c,X.env.cells.lookup x=some c->c≠X.env.locals:=λ x c e z=>by
 obtain⟨v,o,ho,hd⟩:=I.cell x c e;obtain⟨m,⟨o',es,ep,ho',hd',_⟩,_⟩:=I.loc;rw[z,ho']at ho;cases ho;rw[hd']at hd;cases hd
theorem Inv.funs (I:Inv X pins σ H s):s.heap.FunFrames X.base X.outer:=by
  have all:∀(l:List Env),(∀ b∈frs l,b∈X.fs)->X.s₀.heap.FunFrames X.base l->s.heap.FunFrames X.base l:=by
    intro l
    induction l with
    |nil=>intro _ _;trivial
    |cons env r ih=>
      intro hs hl;obtain⟨hk,⟨L,o,hf,hn,ho,hd⟩,hr⟩:=hl;have hL:L∈X.fs:=hs L (by unfold frs;rw[List.filterMap_cons,hf];exact mem_cons_self);obtain⟨sl,e⟩:=I.base.slot L o ho (I.ok.frf L hL) hL λ z=>I.ok.exfs L z hL;exact⟨hk,⟨L,_,hf,hn,e,hd⟩,ih (λ b hb=>hs b (by unfold frs;rw[List.filterMap_cons,hf];exact mem_cons_of_mem _ hb)) hr⟩
  exact all X.outer (λ _ hb=>hb) I.ok.funs
theorem Inv.stack (I:Inv X pins σ H s):s.heap.FunFrames X.base X.stack:=by
  rcases I.ok.stk with e|⟨e,hf⟩
  . rw[e];exact I.funs
  . rw[e];obtain⟨m,hn,_⟩:=I.loc;refine .cons (by rw[I.ok.kind];decide) hf hn ?_ I.funs;exact Heap.get?_none_of_le (le_trans I.ok.bsz I.ok.above)
theorem Inv.stkSub (I:Inv X pins σ H s):∀ b∈frs X.stack,b∈X.env.locals::X.fs:=λ b hb=>by
  rcases I.ok.stk with e|⟨e,hf⟩
  . rw[e]at hb;exact mem_cons_of_mem _ hb
  . rw[e]at hb;unfold frs at hb;rw[List.filterMap_cons,hf]at hb;exact hb
theorem Inv.stkFree (I:Inv X pins σ H s):∀ b∈frs X.stack,H b=none:=λ b hb=>by
  rcases List.mem_cons.mp (I.stkSub b hb) with e|hb
  . rw[e];exact I.free
  . obtain⟨_,o,ho,_⟩:=I.ok.funs.mem hb;exact I.base.free b o ho (I.ok.frf b hb) λ z=>I.ok.exfs b z hb
theorem Inv.step {g':Array GenState}{t':Nat}{d':Drawn}{ch:List Addr}(I:Inv X pins σ H s)(hch:∀ b∈ch,(b∈X.ex\/X.s₀.heap.objs.size<=b)/\b≠X.env.locals/\(∀ x c,X.env.cells.lookup x=some c->c≠b)/\∀ p∈X.pn++pins,p.1≠b)(keep:∀ b o,b≠X.env.locals->b∉X.fs->b∉ch->s.heap.get? b=some o->H b=none->h'.get? b=some o)(slot:∀ b o,b≠X.env.locals->b∈X.fs->b∉ch->s.heap.get? b=some o->H b=none->∃ sl,h'.get? b=some { o with slots:=sl })(free:∀ b o,b∉ch->s.heap.get? b=some o->H b=none->H' b=none)(there:∀ b o,b∉ch->s.heap.get? b=some o->∃ o',h'.get? b=some o')(tups:∀ b xs,H b=some (.tup xs)->H' b=some (.tup xs))(frzs:∀ b o u,H b=some (.frz o u)->H' b=some (.frz o u))(tbls:∀ b ps,H b=some (.tbl ps)->∃ more,H' b=some (.tbl (ps++more)))(ns:∀ m,s.heap.Ns X.env.locals m->h'.Ns X.env.locals m)(hok:HOk X.prog X.w H' h')(hg:AllBare g') :
    Inv X pins σ H' { s with heap:=h',gens:=g',drawn:=d',toks:=t' }:=by
  have neL:∀ b o,X.s₀.heap.get? b=some o->b≠X.env.locals:=λ b o e=>ne_of_lt (lt_of_lt_of_le (Heap.lt_size e) I.ok.above);have neC:∀ b o,X.s₀.heap.get? b=some o->b∉X.ex->b∉ch:=λ b o e hx hb=>by
    rcases(hch b hb).1 with z|z
    . exact hx z
    . exact absurd (lt_of_lt_of_le (Heap.lt_size e) z) (lt_irrefl _)
  have cellK:∀ x c,X.env.cells.lookup x=some c->∀ v,s.heap.IsCell c v->h'.IsCell c v:=λ x c e v ⟨o,ho,hd⟩=>by
    have nch:c∉ch:=λ z=>(hch c z).2.2.1 x c e rfl
    by_cases hc:c∈X.fs
    . obtain⟨sl,q⟩:=slot c o (I.cne x c e) hc nch ho (I.freeC x c e);exact⟨_,q,hd⟩
    . exact⟨o,keep c o (I.cne x c e) hc nch ho (I.freeC x c e),hd⟩
  refine⟨I.ok,I.os,hg,⟨λ b o e n hb hx=>?_,λ b o e n hb hx=>?_,λ b o e n hx=>?_,λ b o e hx=>?_,λ b xs e=>tups b xs (I.base.tups b xs e),λ b o xs e=>frzs b o xs (I.base.frzs b o xs e),λ b ps e=>?_⟩,?_,λ x c e=>?_,?_,λ x c e=>?_,λ p hp=>?_,hok,I.len⟩
  . exact keep b o (neL b o e) hb (neC b o e hx) (I.base.keep b o e n hb hx) (I.base.free b o e n hx)
  . obtain⟨sl,e1⟩:=I.base.slot b o e n hb hx;obtain⟨sl',e2⟩:=slot b _ (neL b o e) hb (neC b o e hx) e1 (I.base.free b o e n hx);exact⟨sl',e2⟩
  . obtain⟨o',e1⟩:=I.base.there b o e hx;exact free b o' (neC b o e hx) e1 (I.base.free b o e n hx)
  . obtain⟨o',e1⟩:=I.base.there b o e hx;exact there b o' (neC b o e hx) e1
  . obtain⟨m1,e1⟩:=I.base.tbls b ps e;obtain⟨m2,e2⟩:=tbls b _ e1;exact⟨m1++m2,by rw[e2,Array.append_assoc]⟩
  . obtain⟨m,hn,hl⟩:=I.loc;refine⟨m,ns m hn,λ i x v e1 e2 e3=>?_⟩;obtain⟨u,r,l⟩:=hl i x v e1 e2 e3;refine⟨u,r,?_⟩;rcases l with l|⟨k,c,e,z⟩
    . exact .inl l
    . exact .inr ⟨k,c,e,cellK x c e _ z⟩
  . obtain⟨v,z⟩:=I.cell x c e;exact⟨v,cellK x c e v z⟩
  . obtain⟨m,⟨o,_,_,ho,_⟩,_⟩:=I.loc;exact free _ o (λ z=>(hch _ z).2.1 rfl) ho I.free
  . obtain⟨v,o,ho,hd⟩:=I.cell x c e;exact free c o (λ z=>(hch c z).2.2.1 x c e rfl) ho (I.freeC x c e)
  . obtain⟨e,n,ne,nf,d⟩:=I.pin p hp;have nch:p.1∉ch:=λ z=>(hch p.1 z).2.2.2 p hp rfl;exact⟨keep p.1 p.2 ne nf nch e n,free p.1 p.2 nch e n,ne,nf,d⟩
theorem Inv.un {t':Nat}(I:Inv X pins σ H s)(u:Un X.fs [] H H' s.heap h')(hok:HOk X.prog X.w H' h'):Inv X pins σ H' { s with heap:=h',toks:=t' }:=by
  obtain⟨m,⟨o,es,ep,ho,r⟩,_⟩:=id I.loc;obtain⟨sl,hL⟩:=u.any ho I.free (by simp);exact I.step (g':=s.gens) (d':=s.drawn) (ch:=[]) (λ _ z=>nomatch z) (λ b o _ hb _ e n=>u.keep b o e n hb (by simp)) (λ b o _ hb _ e n=>u.slot b o e n hb (by simp)) (λ b o _ e n=>u.free b o e n (by simp)) (λ b o _ e=>u.there b o e (by simp)) u.tups u.frzs u.tbls (λ m' hm=>by
    obtain⟨o',es',ep',ho',r'⟩:=hm;rw[ho]at ho';cases ho';exact⟨_,es',ep',hL,r'⟩) hok I.bare
theorem Inv.call {g':Array GenState}{t':Nat}{d':Drawn}{ch:List Addr}(I:Inv X pins σ H s)(u:Un (frs X.stack) ch H H' s.heap h')(hok:HOk X.prog X.w H' h')(hg:AllBare g')(hch:∀ b∈ch,(b∈X.ex\/X.s₀.heap.objs.size<=b)/\b≠X.env.locals/\(∀ x c,X.env.cells.lookup x=some c->c≠b)/\∀ p∈X.pn++pins,p.1≠b) :
    Inv X pins σ H' { s with heap:=h',gens:=g',drawn:=d',toks:=t' }:=by
  obtain⟨m,⟨o,es,ep,ho,r⟩,_⟩:=id I.loc;obtain⟨sl,hL⟩:=u.any ho I.free λ z=>(hch _ z).2.1 rfl;exact I.step (ch:=ch) hch (λ b o hL hb hc e n=>u.keep b o e n (λ z=>(List.mem_cons.mp (I.stkSub b z)).elim hL hb) hc) (λ b o _ _ hc e n=>u.any e n hc) (λ b o hc e n=>u.free b o e n hc) (λ b o hc e=>u.there b o e hc) u.tups u.frzs u.tbls (λ m' hm=>by
    obtain⟨o',es',ep',ho',r'⟩:=hm;rw[ho]at ho';cases ho';exact⟨_,es',ep',hL,r'⟩) hok hg
theorem Inv.turned {t':Nat}{it:Addr}(I:Inv X pins σ H s)(k:∀ b o,b≠it->s.heap.get? b=some o->h'.get? b=some o)(hn:H it=none)(hL:it≠X.env.locals)(h1:it∈X.ex\/X.s₀.heap.objs.size<=it)(h2:∀ x c,X.env.cells.lookup x=some c->c≠it)(h3:∀ p∈X.pn++pins,p.1≠it):Inv X pins σ H { s with heap:=h',toks:=t' }:=by
  have nit:∀ b u,H b=some u->b≠it:=λ b u e z=>by rw[z,hn]at e;cases e
  refine I.step (g':=s.gens) (d':=s.drawn) (ch:=[it]) (λ b hb=>?_) (λ b o _ _ hc e _=>k b o (λ z=>hc (by simp[z])) e) (λ b o _ _ hc e _=>⟨o.slots,k b o (λ z=>hc (by simp[z])) e⟩) (λ _ _ _ _ n=>n)
    (λ b o hc e=>⟨o,k b o (λ z=>hc (by simp[z])) e⟩) (λ _ _ e=>e) (λ _ _ _ e=>e) (λ b ps e=>⟨#[],by rw[e];simp⟩) (λ m hm=>?_) (λ b u e=>?_) I.bare
  . have e:b=it:=by simpa using hb
    subst e;exact⟨h1,hL,h2,h3⟩
  . obtain⟨o,es,ep,ho,r⟩:=hm;exact⟨o,es,ep,k _ o (Ne.symm hL) ho,r⟩
  . refine(I.hok b u e).stay (λ c v hc q=>k c v ?_ q) (λ _ q=>q) λ _ _ q=>q;rcases hc with z|z
    . rw[z];exact nit b u e
    . exact nit c _ z
theorem Inv.tok (I:Inv X pins σ H s)(t:Nat):Inv X pins σ H { s with toks:=t }:=I.un (h':=s.heap) (t':=t) Un.refl I.hok
theorem Inv.kept {t':Nat}(I:Inv X pins σ H s)(k:∀ b u,s.heap.get? b=some u->h'.get? b=some u):Inv X pins σ H { s with heap:=h',toks:=t' }:=I.un (Un.kept k) (I.hok.kept k)
theorem Inv.laid {a:Addr}{o:HO}{t':Nat}(I:Inv X pins σ H s)(k:∀ b u,s.heap.get? b=some u->h'.get? b=some u)(hp:s.heap.objs.size<=a)(new:Z2 X.prog X.w (upd H a o) h' a o) :
    Inv X pins σ (upd H a o) { s with heap:=h',toks:=t' }:=I.un (Un.laid k hp (I.hok.fresh hp)) (I.hok.laid k hp new)
theorem Inv.write {x e:Addr}{o:HO}{t':Nat}(I:Inv X pins σ H s)(mu:Mut (H x))(he:e=x\/H e=some (.own x))(k:∀ b u,b≠e->s.heap.get? b=some u->h'.get? b=some u)(heo:∃ u,h'.get? e=some u)(new:Z2 X.prog X.w (upd H x o) h' x o):Inv X pins σ (upd H x o) { s with heap:=h',toks:=t' }:=I.un (Un.write mu he k heo) (I.hok.write mu he k heo new)
theorem Inv.pins_of {pins':List (Addr×Obj)}(I:Inv X pins σ H s)(h:∀ p∈pins',s.heap.get? p.1=some p.2/\H p.1=none/\p.1≠X.env.locals/\p.1∉X.fs/\∀ v,p.2.data ≠ .cell v):Inv X pins' σ H s:=
 ⟨I.ok,I.os,I.bare,I.base,I.loc,I.cell,I.free,I.freeC,λ p hp=>(List.mem_append.mp hp).elim (λ z=>I.pin p (List.mem_append_left _ z)) (h p),I.hok,I.len⟩
theorem Zdf {N:List Str}(hN:N.Nodup){i j:Nat}{x:Str}(a:N[i]? = some x)(b:N[j]? = some x):i=j:=by
 obtain⟨h1,e1⟩:=List.getElem?_eq_some_iff.mp a;obtain⟨h2,e2⟩:=List.getElem?_eq_some_iff.mp b;exact(List.getElem_inj hN).mp (e1.trans e2.symm)
theorem Zee {M:Model}{A:Around}{E:Value->Shared->Prop}{i:Nat}{x:Str}{v:V}{u:Value}{Q:Unit->Shared->Prop}(I:Inv X pins σ H s)(hN:X.N.Nodup)(hi:X.N[i]? = some x)(hx:Loc X.env.scope x)(r:ZM v u)(h:∀ s',Inv X pins (σ.set i (some v)) H s'->(∃ a,Heap.SameBut a s.heap s'.heap/\(a=X.env.locals\/X.env.cells.lookup x=some a))->Q () s')(hf:X.fn x=true\/X.env.scope.names.lookup x=some .local:=by first|exact .inl rfl|exact .inr rfl|assumption):wpAny M A (storeName X.env x u) Q E s:=by
  obtain⟨m,hn,hl⟩:=id I.loc;have hcls:(X.env.scope.kind == .class || (X.env.scope.kind == .module && X.env.locals != X.env.globals))=false:=by rw[I.ok.kind];rfl
  have hiσ:i<σ.length:=by rw[I.len];exact(List.getElem?_eq_some_iff.mp hi).1
  have cne:=I.cne;have tracked:∀ {a:Addr} {h':Heap},(∃ o,s.heap.get? a=some o/\H a=none)->Heap.SameBut a s.heap h'->HOk X.prog X.w H h':=λ {a h'} ha hs b ob e=>by
    obtain⟨_,_,hfree⟩:=ha;refine(I.hok b ob e).stay (λ c w' hc q=>(hs.2 c ?_).trans q) (λ _ q=>q) λ _ _ q=>q;rintro rfl;rcases hc with rfl|hc
    . rw[hfree]at e;cases e
    . rw[hfree]at hc;cases hc
  rcases hx with hk|hk
  . refine wpAny_storeName_local hk hn (λ h' hn' hs=>?_) hcls;obtain⟨oL,_,_,hoL,_⟩:=id hn;refine h _ ⟨I.ok,I.os,I.bare,⟨λ b o e n hb hx=>?_,λ b o e n hb hx=>?_,I.base.free,λ b o e hx=>?_,I.base.tups,I.base.frzs,I.base.tbls⟩,⟨_,hn',λ j y v' e1 e2 e3=>?_⟩,λ y c e=>?_,I.free,I.freeC,λ p hp=>?_,tracked ⟨oL,hoL,I.free⟩ hs,by simpa using I.len⟩ ⟨_,hs, .inl rfl⟩
    . exact(hs.2 b (ne_of_lt (lt_of_lt_of_le (Heap.lt_size e) I.ok.above))).trans (I.base.keep b o e n hb hx)
    . obtain⟨sl,e1⟩:=I.base.slot b o e n hb hx;exact⟨sl,(hs.2 b (ne_of_lt (lt_of_lt_of_le (Heap.lt_size e) I.ok.above))).trans e1⟩
    . obtain⟨o',e1⟩:=I.base.there b o e hx;exact⟨o',(hs.2 b (ne_of_lt (lt_of_lt_of_le (Heap.lt_size e) I.ok.above))).trans e1⟩
    . by_cases hj:j=i
      . subst hj;rw[hi]at e1;cases e1;rw[List.getElem?_set_self hiσ]at e2;cases e2;exact⟨u,r, .inl ⟨hk,by simp⟩⟩
      . rw[List.getElem?_set_ne (Ne.symm hj)]at e2;obtain⟨u',r',q⟩:=hl j y v' e1 e2 e3;refine⟨u',r',?_⟩;rcases q with ⟨k,e⟩|⟨k,c,e,z⟩
        . refine .inl ⟨k,?_⟩;have:y≠x:=λ e=>hj (Zdf hN e1 (e▸hi));simp[this,e]
        . exact .inr ⟨k,c,e,z.sameBut hs (cne y c e)⟩
    . obtain⟨w',z⟩:=I.cell y c e;exact⟨w',z.sameBut hs (cne y c e)⟩
    . obtain⟨e,n,ne,nf,d⟩:=I.pin p hp;exact⟨(hs.2 p.1 ne).trans e,n,ne,nf,d⟩
  . have hfn:X.fn x=true:=by
      rcases hf with z|z
      . exact z
      . rw[z]at hk;cases hk
    obtain⟨c,hc⟩:=I.ok.has x (.inl hk);obtain⟨w',z⟩:=I.cell x c hc;refine wpAny_storeName_cell I.ok.kind hk hc z (λ h' hc' hs=>?_);obtain⟨oc,hoc,hocd⟩:=id z;refine h { s with heap:=h' } ⟨I.ok,I.os,I.bare,⟨λ b o e n hb hx=>?_,λ b o e n hb hx=>?_,I.base.free,λ b o e hx=>?_,I.base.tups,I.base.frzs,I.base.tbls⟩,⟨m,hn.sameBut hs (Ne.symm (cne x c hc)),λ j y v' e1 e2 e3=>?_⟩,λ y c' e=>?_,I.free,I.freeC,λ p hp=>?_,tracked ⟨oc,hoc,I.freeC x c hc⟩ hs,by simpa using I.len⟩ ⟨c,hs, .inr hc⟩
    . exact(hs.2 b (ne_of_lt (lt_of_lt_of_le (Heap.lt_size e) (I.ok.cab x c hfn hc)))).trans (I.base.keep b o e n hb hx)
    . obtain⟨sl,e1⟩:=I.base.slot b o e n hb hx;exact⟨sl,(hs.2 b (ne_of_lt (lt_of_lt_of_le (Heap.lt_size e) (I.ok.cab x c hfn hc)))).trans e1⟩
    . obtain⟨o',e1⟩:=I.base.there b o e hx;exact⟨o',(hs.2 b (ne_of_lt (lt_of_lt_of_le (Heap.lt_size e) (I.ok.cab x c hfn hc)))).trans e1⟩
    . by_cases hj:j=i
      . subst hj;rw[hi]at e1;cases e1;rw[List.getElem?_set_self hiσ]at e2;cases e2;exact⟨u,r, .inr ⟨.inl hk,c,hc,hc'⟩⟩
      . rw[List.getElem?_set_ne (Ne.symm hj)]at e2;obtain⟨u',r',q⟩:=hl j y v' e1 e2 e3;refine⟨u',r',?_⟩;rcases q with q|⟨k,c',e,z'⟩
        . exact .inl q
        . refine .inr ⟨k,c',e,z'.sameBut hs ?_⟩;rintro rfl;exact hj (Zdf hN e1 (I.ok.inj _ _ _ e hc▸hi))
    . by_cases hcc:c'=c
      . subst hcc;exact⟨_,hc'⟩
      . obtain⟨w2,z2⟩:=I.cell y c' e;exact⟨w2,z2.sameBut hs hcc⟩
    . obtain⟨e,n,ne,nf,d⟩:=I.pin p hp;refine⟨(hs.2 p.1 ?_).trans e,n,ne,nf,d⟩;intro q;rw[q,hoc]at e;have q':oc=p.2:=Option.some.inj e;exact d w' (by rw[<- q'];exact hocd)
theorem Zbf {M:Model}{A:Around}{E:Value->Shared->Prop}{i:Nat}{x:Str}{v:V}{u:Value}{Q:Unit->Shared->Prop}(I:Inv X pins σ H s)(hN:X.N.Nodup)(hi:X.N[i]? = some x)(hx:Loc X.env.scope x)(r:ZM v u)(h:∀ s',Inv X pins (σ.set i (some v)) H s'->Q () s')(hf:X.fn x=true\/X.env.scope.names.lookup x=some .local:=by first|exact .inl rfl|exact .inr rfl|assumption):wpAny M A (storeName X.env x u) Q E s:=
 Zee I hN hi hx r (λ s' I' _=>h s' I') hf
theorem Inv.call' {s':Shared}{ch:List Addr}(I:Inv X pins σ H s)(ho:s'.os=s.os)(u:Un (frs X.stack) ch H H' s.heap s'.heap)(hok:HOk X.prog X.w H' s'.heap)(hg:AllBare s'.gens)(hch:∀ b∈ch,(b∈X.ex\/X.s₀.heap.objs.size<=b)/\b≠X.env.locals/\(∀ x c,X.env.cells.lookup x=some c->c≠b)/\∀ p∈X.pn++pins,p.1≠b):Inv X pins σ H' s':=by
 obtain⟨h',g',d',t',o'⟩:=s';have e:o'=s.os:=ho;subst e;exact I.call (g':=g') (t':=t') (d':=d') u hok hg hch
end
noncomputable abbrev XK:=Value->Option Addr->Hp->Prop
noncomputable abbrev St:=List (Option V)
noncomputable abbrev VK:=V->Hp->Prop
noncomputable abbrev TE:=St->Hp->VK->Prop
noncomputable abbrev TT:=St->Hp->(Bool->Hp->Prop)->Prop
noncomputable abbrev TA:=St->Hp->(List V->Hp->Prop)->Prop
structure Ends where
  nx:St->Hp->Prop
  rt:VK
  bk:St->Hp->Prop:=λ _ _=>False
  ct:St->Hp->Prop:=λ _ _=>False
noncomputable abbrev TS:=Ends->St->Hp->Prop
noncomputable def EP (X:Cx)(pins:List (Addr×Obj))(σ:St)(Q:VK)(u:Value)(s':Shared):Prop:=∃ v H',Inv X pins σ H' s'/\ZM v u/\Q v H'
noncomputable def TP (X:Cx)(pins:List (Addr×Obj))(σ:St)(Q:Bool->Hp->Prop)(b:Bool)(s':Shared):Prop:=∃ H',Inv X pins σ H' s'/\Q b H'
noncomputable def AP (X:Cx)(pins:List (Addr×Obj))(σ:St)(Q:List V->Hp->Prop)(us:List Value)(s':Shared):Prop:=∃ vs H',Inv X pins σ H' s'/\ZH vs us/\Q vs H'
noncomputable def SP (X:Cx)(pins:List (Addr×Obj))(D:Ends)(f:Flow)(s':Shared):Prop:=
  match f with
  |.next=>∃ σ' H',Inv X pins σ' H' s'/\D.nx σ' H'
  |.brk=>∃ σ' H',Inv X pins σ' H' s'/\D.bk σ' H'
  |.cont=>∃ σ' H',Inv X pins σ' H' s'/\D.ct σ' H'
  |.ret u=>∃ v σ' H',Inv X pins σ' H' s'/\ZM v u/\D.rt v H'
noncomputable abbrev PEb (X:Cx)(e:Expr)(t:TE):Prop:=
  ∀(pins:List (Addr×Obj))(s:Shared)(σ:St)(H:Hp)(Q:VK),Inv X pins σ H s->t σ H Q->wpAny (model X.prog X.w) X.A (eval e X.env) (EP X pins σ Q) X.xe s
structure PE (X:Cx)(e:Expr)(t:TE):Prop where
  go:PEb X e t
instance {X:Cx}{e:Expr}{t:TE}:CoeFun (PE X e t) λ _=>PEb X e t:=⟨PE.go⟩
noncomputable abbrev PTb (X:Cx)(e:Expr)(t:TT):Prop:=
  ∀(pins:List (Addr×Obj))(s:Shared)(σ:St)(H:Hp)(Q:Bool->Hp->Prop),Inv X pins σ H s->t σ H Q->wpAny (model X.prog X.w) X.A (isTrue e X.env (eval e X.env)) (TP X pins σ Q) X.xe s
structure PT (X:Cx)(e:Expr)(t:TT):Prop where
  go:PTb X e t
instance {X:Cx}{e:Expr}{t:TT}:CoeFun (PT X e t) λ _=>PTb X e t:=⟨PT.go⟩
noncomputable abbrev PWb (X:Cx)(e:Expr)(t:TT):Prop:=
  ∀(whole:Sem Value)(pins:List (Addr×Obj))(s:Shared)(σ:St)(H:Hp)(Q:Bool->Hp->Prop),Inv X pins σ H s->t σ H Q->wpAny (model X.prog X.w) X.A (isTrue e X.env whole) (TP X pins σ Q) X.xe s
structure PW (X:Cx)(e:Expr)(t:TT):Prop where
  go:PWb X e t
instance {X:Cx}{e:Expr}{t:TT}:CoeFun (PW X e t) λ _=>PWb X e t:=⟨PW.go⟩
theorem PW.pt {X:Cx}{e:Expr}{t:TT}(h:PW X e t):PT X e t:=⟨h _⟩
noncomputable abbrev PAb (X:Cx)(es:List Expr)(t:TA):Prop:=
  ∀(pos:Pos)(pins:List (Addr×Obj))(s:Shared)(σ:St)(H:Hp)(Q:List V->Hp->Prop),Inv X pins σ H s->t σ H Q->wpAny (model X.prog X.w) X.A (spliced (backTo pos (starEach es X.env))) (AP X pins σ Q) X.xe s
structure PA (X:Cx)(es:List Expr)(t:TA):Prop where
  go:PAb X es t
instance {X:Cx}{es:List Expr}{t:TA}:CoeFun (PA X es t) λ _=>PAb X es t:=⟨PA.go⟩
noncomputable abbrev PSb (X:Cx)(st:Stmt)(t:TS):Prop:=
  ∀(pins:List (Addr×Obj))(s:Shared)(σ:St)(H:Hp)(D:Ends),Inv X pins σ H s->t D σ H->wpAny (model X.prog X.w) X.A (exec st X.env) (SP X pins D) X.xe s
structure PS (X:Cx)(st:Stmt)(t:TS):Prop where
  go:PSb X st t
instance {X:Cx}{st:Stmt}{t:TS}:CoeFun (PS X st t) λ _=>PSb X st t:=⟨PS.go⟩
noncomputable abbrev PSsb (X:Cx)(st:List Stmt)(t:TS):Prop:=
  ∀(pins:List (Addr×Obj))(s:Shared)(σ:St)(H:Hp)(D:Ends),Inv X pins σ H s->t D σ H->wpAny (model X.prog X.w) X.A (execs st X.env) (SP X pins D) X.xe s
structure PSs (X:Cx)(st:List Stmt)(t:TS):Prop where
  go:PSsb X st t
instance {X:Cx}{st:List Stmt}{t:TS}:CoeFun (PSs X st t) λ _=>PSsb X st t:=⟨PSs.go⟩
theorem thn {α:Type}{t:Sem α}{Q Q':α->Shared->Prop}{M:Model}{A:Around}{E:Value->Shared->Prop}{s:Shared}(h:wpAny M A t Q E s)(hQ:∀ a s,Q a s->Q' a s):wpAny M A t Q' E s:=wpAny_mono h hQ λ _ _ x=>x
open PySem PySem.Spec PyProof.Rows
section
variable {X:Cx}
noncomputable def tVar (i:Nat):TE:=λ σ H Q=>∃ v,σ[i]? = some (some v)/\Q v H
noncomputable def tC (v:V):TE:=λ _ H Q=>Q v H
theorem pe_var {i:Nat}{x:Str}{pos:Pos}(hN:X.N[i]? = some x)(hv:Vis X.env.scope x)(hd:(x == ("__debug__":Str))=false:=by decide)(hcd:(x == ("__classdict__":Str))=false:=by decide):PE X (.Name x pos) (tVar i):=by
  refine⟨?_⟩;intro pins s σ H Q I h;obtain⟨v,e,h⟩:=h;obtain⟨m,hn,hl⟩:=I.loc;obtain⟨u,r,l⟩:=hl i x v hN e hv;have fin:EP X pins σ Q u s:=⟨v,H,I,r,h⟩;rcases l with ⟨hk,hm⟩|⟨hk,c,hc,hcell⟩
  . exact wpAny_Name (wpAny_loadName_local I.ok.kind hk hn hm fin) hd
  . rcases hk with hk|hk
    . exact wpAny_Name (wpAny_loadName_cell I.ok.kind hk hc hcell fin) hd
    . exact wpAny_Name (wpAny_loadName_free I.ok.kind hk hc hcell fin hcd) hd
theorem Zd {i j pos}:PE X (.Constant (.int i) j pos) (tC (.int i)):=⟨λ _ _ _ H _ I h=>wpAny_Constant_int ⟨.int i,H,I.tok _,⟨_,rfl⟩,h⟩⟩
theorem YG {b j pos}:PE X (.Constant (.bool b) j pos) (tC (.bl b)):=⟨λ _ _ _ H _ I h=>Constant_bool ⟨.bl b,H,I,rfl,h⟩⟩
theorem Zdz {j pos}:PE X (.Constant .none j pos) (tC .non):=⟨λ _ _ _ H _ I h=>Constant_none ⟨.non,H,I,rfl,h⟩⟩
theorem Zh {x j pos}:PE X (.Constant (.str x) j pos) (tC (.str x)):=⟨λ _ _ _ H _ I h=>Calls.Constant_str ⟨.str x,H,I.tok _,⟨_,rfl⟩,h⟩⟩
noncomputable def Gl (X:Cx)(x:Str):Prop:=X.env.kindOf x=some .globalImplicit
theorem Jk {E:Value->Shared->Prop}{pins:List (Addr×Obj)}{s:Shared}{σ:St}{H:Hp}{x:Str}{u:Value}{pos:Pos}{Q:Value->Shared->Prop}(I:Inv X pins σ H s)(hg:Gl X x)(hm:X.mg x=some u)(h:Q u s)(hd:(x == ("__debug__":Str))=false:=by decide):wpAny (model X.prog X.w) X.A (eval (.Name x pos) X.env) Q E s:=
 Calls.Name_function_global I.ok.kind hg (Calls.loadGlobal_global (by rw[I.ok.glob];exact I.mod.glob.keeps I.bk) hm h) hd
theorem JP {E:Value->Shared->Prop}{pins:List (Addr×Obj)}{s:Shared}{σ:St}{H:Hp}{x:Str}{u:Value}{pos:Pos}{Q:Value->Shared->Prop}(I:Inv X pins σ H s)(hg:Gl X x)(hm:X.mg x=none)(hv:bootBuiltins x=some u)(h:Q u s)(hn:x≠"__name__":=by decide)(hd:(x == ("__debug__":Str))=false:=by decide):wpAny (model X.prog X.w) X.A (eval (.Name x pos) X.env) Q E s:=by
 obtain⟨mb,h1,h2⟩:=I.mod.blt;exact Calls.Name_function_global I.ok.kind hg (Calls.loadGlobal_builtin (by rw[I.ok.glob];exact I.mod.glob.keeps I.bk) hm (by rw[I.ok.blt];exact h1.keeps I.bk) ((h2 x hn).trans hv) h) hd
theorem YJ {x:Str}{v:V}{u:Value}{pos:Pos}(hg:Gl X x)(hm:X.mg x=some u)(r:ZM v u)(hd:(x == ("__debug__":Str))=false:=by decide):PE X (.Name x pos) (tC v):=
 ⟨λ _ _ _ H _ I h=>Jk I hg hm ⟨v,H,I,r,h⟩ hd⟩
theorem Ji {x:Str}{v:V}{u:Value}{pos:Pos}(hg:Gl X x)(hm:X.mg x=none)(hv:bootBuiltins x=some u)(r:ZM v u)(hn:x≠"__name__":=by decide)(hd:(x == ("__debug__":Str))=false:=by decide):PE X (.Name x pos) (tC v):=
 ⟨λ _ _ _ H _ I h=>JP I hg hm hv ⟨v,H,I,r,h⟩ hn hd⟩
variable {a b:Expr}{ta tb:TE}{pos:Pos}
noncomputable abbrev PCb (X:Cx)(op:CmpOp)(a b:Expr)(t:TE):Prop:=
  ∀(pins:List (Addr×Obj))(s:Shared)(σ:St)(H:Hp)(Q:VK),Inv X pins σ H s->t σ H Q ->
    wpAny (model X.prog X.w) X.A (eval a X.env) (λ v s₁=>wpAny (model X.prog X.w) X.A (eval b X.env) (λ u s₂=>wpAny (model X.prog X.w) X.A (compareOp op v u) (EP X pins σ Q) X.xe s₂) X.xe s₁) X.xe s
structure PC (X:Cx)(op:CmpOp)(a b:Expr)(t:TE):Prop where
  go:PCb X op a b t
instance {X:Cx}{op:CmpOp}{a b:Expr}{t:TE}:CoeFun (PC X op a b t) λ _=>PCb X op a b t:=⟨PC.go⟩
noncomputable def tB (t:TE):TT:=λ σ H Q=>t σ H λ x H1=>∃ c,x = .bl c/\Q c H1
theorem pt_cmp {op:CmpOp}{t:TE}(h:PC X op a b t)(h1:behindInMarks op b=false:=by first|exact nobehind _ (by decide) (by decide)|rfl):PT X (.Compare a [op] [b] pos) (tB t):=by
 refine⟨?_⟩;intro pins s σ H Q I hw;refine wpAny_isTrue_Compare1 (thn (h pins s σ H _ I hw) λ v s1 h1=>thn h1 λ u s2 h2=>thn h2 λ c s3 zz9=>?_) h1;obtain⟨x,H1,I1,r1,q1⟩:=zz9;obtain⟨d,rfl,q⟩:=q1;cases r1;exact wpAny_truthy_bool ⟨H1,I1,q⟩
theorem Ya {e:Expr}{t:TE}(h:PE X e t)(he:∀ whole,isTrue e X.env whole=(do let v <- whole;standAt e.pos;holding [v] (truthy v)):=by intro _;rfl):PT X e (tB t):=by
 refine⟨?_⟩;intro pins s σ H Q I hw;refine isTrue_plain (thn (h pins s σ H _ I hw) λ v s1 ⟨x,H1,I1,r1,q1⟩=>?_) (he _);obtain⟨d,rfl,q⟩:=q1;cases r1;exact wpAny_truthy_bool ⟨H1,I1,q⟩
variable {tA tB':TT}{J8:List Expr}
noncomputable def tAnd (t u:TT):TT:=λ σ H Q=>t σ H λ c H1=>if c=true then u σ H1 Q else Q false H1
noncomputable def tOr (t u:TT):TT:=λ σ H Q=>t σ H λ c H1=>if c=true then Q true H1 else u σ H1 Q
noncomputable def tNot (t:TT):TT:=λ σ H Q=>t σ H λ c H1=>Q (!c) H1
theorem Za6 (ha:PT X a tA):PW X (.BoolOp .And [a] pos) tA:=by
  refine⟨?_⟩;intro wh pins s σ H Q I h;refine isTrue_and (thn (ha pins s σ H Q I h) λ c s1 e=>?_);cases c with
  |true=>exact isTrue_and_nil e
  |false=>exact e
theorem Y4 (ha:PT X a tA):PW X (.BoolOp .Or [a] pos) tA:=by
  refine⟨?_⟩;intro wh pins s σ H Q I h;refine isTrue_or (thn (ha pins s σ H Q I h) λ c s1 e=>?_);cases c with
  |false=>exact isTrue_or_nil e
  |true=>exact e
theorem ZcC (ha:PT X a tA)(hb:PW X (.BoolOp .And (b::J8) pos) tB'):PW X (.BoolOp .And (a::b::J8) pos) (tAnd tA tB'):=by
  refine⟨?_⟩;intro wh pins s σ H Q I h;refine isTrue_and (thn (ha pins s σ H _ I h) λ c s1 zz9=>?_);obtain⟨H1,I1,q1⟩:=zz9;cases c with
  |true=>exact hb wh pins s1 σ H1 Q I1 q1
  |false=>exact⟨H1,I1,q1⟩
theorem XD (ha:PT X a tA)(hb:PW X (.BoolOp .Or (b::J8) pos) tB'):PW X (.BoolOp .Or (a::b::J8) pos) (tOr tA tB'):=by
  refine⟨?_⟩;intro wh pins s σ H Q I h;refine isTrue_or (thn (ha pins s σ H _ I h) λ c s1 zz9=>?_);obtain⟨H1,I1,q1⟩:=zz9;cases c with
  |true=>exact⟨H1,I1,q1⟩
  |false=>exact hb wh pins s1 σ H1 Q I1 q1
theorem Yj (ha:PT X a tA):PT X (.UnaryOp .Not a pos) (tNot tA):=by
 refine⟨?_⟩;intro pins s σ H Q I h;exact isTrue_not (ha pins s σ H (λ c H1=>Q (!c) H1) I h)
noncomputable def tAndV (ta tb:TE):TE:=λ σ H Q=>ta σ H λ x H1=>∃ c,x = .bl c/\if c=true then tb σ H1 Q else Q (.bl false) H1
noncomputable def tNotV (ta:TE):TE:=λ σ H Q=>ta σ H λ x H1=>∃ c,x = .bl c/\Q (.bl (!c)) H1
theorem Zaw {op}{t:TE}(h:PE X a t):PE X (.BoolOp op [a] pos) t:=⟨λ pins s σ H Q I hw=>BoolOp_one (h pins s σ H Q I hw)⟩
theorem Xq (ha:PE X a ta)(hb:PE X (.BoolOp .And (b::J8) pos) tb):PE X (.BoolOp .And (a::b::J8) pos) (tAndV ta tb):=by
  refine⟨?_⟩;intro pins s σ H Q I h;refine BoolOp_and (thn (ha pins s σ H _ I h) λ v s1 zz9=>?_);obtain⟨x,H1,I1,r1,q1⟩:=zz9;obtain⟨c,rfl,q1⟩:=q1;cases r1;refine wpAny_truthy_bool ?_;cases c with
  |true=>exact hb pins s1 σ H1 Q I1 q1
  |false=>exact⟨.bl false,H1,I1,rfl,q1⟩
theorem pe_not (ha:PE X a ta):PE X (.UnaryOp .Not a pos) (tNotV ta):=by
 refine⟨?_⟩;intro pins s σ H Q I h;refine UnaryOp_ (thn (ha pins s σ H _ I h) λ v s1 zz9=>?_);obtain⟨x,H1,I1,r1,q1⟩:=zz9;obtain⟨c,rfl,q1⟩:=q1;cases r1;exact not_of (wpAny_truthy_bool ⟨.bl (!c),H1,I1,rfl,q1⟩)
noncomputable def tIf (t:TT)(ta tb:TE):TE:=λ σ H Q=>t σ H λ c H1=>if c=true then ta σ H1 Q else tb σ H1 Q
theorem Zbu {c:Expr}(hc:PT X c tA)(ha:PE X a ta)(hb:PE X b tb):PE X (.IfExp c a b pos) (tIf tA ta tb):=by
  refine⟨?_⟩;intro pins s σ H Q I h;refine wpAny_IfExp (thn (hc pins s σ H _ I h) λ d s1 zz9=>?_);obtain⟨H1,I1,q1⟩:=zz9;cases d with
  |true=>exact ha pins s1 σ H1 Q I1 q1
  |false=>exact hb pins s1 σ H1 Q I1 q1
end
open PySem PySem.Spec PyProof.Rows
noncomputable def SqL (K:Frag)(H:Hp)(a:Addr)(xs:List V):Prop:=
  Rd H a (.lst xs) \/
    ∃(o:Obj)(its:Array Value)(n:Nat),K.lookup a=some o/\o.cls = .type "list"/\o.dict=none/\o.data = .seq its n/\its.size<=sizeLine/\ZH xs its.toList
noncomputable def SqT (K:Frag)(H:Hp)(a:Addr)(xs:List V):Prop:=
  Rd H a (.tup xs) \/
    ∃(o:Obj)(its:Array Value)(n:Nat),K.lookup a=some o/\o.cls = .type "tuple"/\o.data = .seq its n/\its.size<=sizeLine/\ZH xs its.toList
noncomputable def absV:Value->Option V
  |.none=>some .non
  |.bool b=>some (.bl b)
  |.int i _=>some (.int i)
  |.str x _=>some (.str x)
  |.bytes b _=>some (.byt b)
  |.float b _=>some (.flt b)
  |.ref a=>some (.ref a)
  |.type n=>some (.ty n)
  |_=>none
theorem ZM.abs {x:V}{u:Value}(r:ZM x u):absV u=some x:=by
  cases x with
  |non=>cases r;rfl
  |bl _=>cases r;rfl
  |int _=>obtain⟨t,rfl⟩:=r;rfl
  |str _=>obtain⟨t,rfl⟩:=r;rfl
  |byt _=>obtain⟨t,rfl⟩:=r;rfl
  |flt _=>obtain⟨t,rfl⟩:=r;rfl
  |ref _=>cases r;rfl
  |ty _=>cases r;rfl
theorem ZM.inj {x y:V}{u:Value}(r:ZM x u)(q:ZM y u):x=y:=Option.some.inj (r.abs.symm.trans q.abs)
theorem ZH.inj:∀ {xs ys:List V} {us:List Value},ZH xs us->ZH ys us->xs=ys
  |_,_,_, .nil, .nil=>rfl
  |_,_,_, .cons r t, .cons r' t'=>by rw[r.inj r',ZH.inj t t']
section
variable {X:Cx}{pins:List (Addr×Obj)}{σ:St}{H:Hp}{s:Shared}{a:Addr}{xs ys:List V}
theorem SqL.of {K:Frag}(h:H a=some (.lst xs)):SqL K H a xs:=.inl (.inl h)
theorem SqT.of {K:Frag}(h:H a=some (.tup xs)):SqT K H a xs:=.inl (.inl h)
theorem Inv.list (I:Inv X pins σ H s)(h:SqL X.K H a xs):∃ its:List Value,ZH xs its/\PlainL s.heap a its.toArray/\xs.length<=sizeLine:=by
  rcases h with h|⟨o,its,n,hk,hc,hd,hs,hz,r⟩
  . obtain⟨z,its,n,r,e⟩:=h.ok I.hok;exact⟨its,r,⟨_,n,e,rfl,rfl,rfl⟩,z⟩
  . refine⟨its.toList,r,⟨o,n,I.kIn a o hk,hc,hd,by simpa using hs⟩,?_⟩;have e:=r.length;simp only[length_toList]at e;omega
theorem Inv.tuple (I:Inv X pins σ H s)(h:SqT X.K H a xs):∃ its:List Value,ZH xs its/\IsTup s.heap a its.toArray/\xs.length<=sizeLine:=by
  rcases h with h|⟨o,its,n,hk,hc,hs,hz,r⟩
  . obtain⟨z,its,r,p⟩:=h.ok I.hok;exact⟨its,r,p,z⟩
  . refine⟨its.toList,r,⟨o,I.kIn a o hk,hc,n,by simpa using hs⟩,?_⟩;have e:=r.length;simp only[length_toList]at e;omega
theorem Inv.list_inj (I:Inv X pins σ H s)(h:SqL X.K H a xs)(h':SqL X.K H a ys):xs=ys:=by
 obtain⟨its,r,⟨o,n,e,_,_,d⟩,_⟩:=I.list h;obtain⟨its',r',⟨o',n',e',_,_,d'⟩,_⟩:=I.list h';rw[e]at e';cases e';rw[d]at d';injection d' with d1 _;have:its=its':=by simpa using congrArg Array.toList d1
 subst this;exact r.inj r'
theorem Inv.tuple_inj (I:Inv X pins σ H s)(h:SqT X.K H a xs)(h':SqT X.K H a ys):xs=ys:=by
 obtain⟨its,r,⟨o,e,_,n,d⟩,_⟩:=I.tuple h;obtain⟨its',r',⟨o',e',_,n',d'⟩,_⟩:=I.tuple h';rw[e]at e';cases e';rw[d]at d';injection d' with d1 _;have:its=its':=by simpa using congrArg Array.toList d1
 subst this;exact r.inj r'
end
noncomputable abbrev Cx.wish (X:Cx)(E:Value->Shared->Prop):Cx:={ X with xe:=E }
noncomputable abbrev Cx.nox (X:Cx):Cx:=X.wish λ _ _=>False
theorem Cx.Ok.wish {X:Cx}(ok:X.Ok)(E:Value->Shared->Prop):(X.wish E).Ok:=
 ⟨ok.mod,ok.kind,ok.glob,ok.blt,ok.above,ok.inj,ok.has,ok.cab,ok.hd,ok.frames,ok.stk,ok.exf,ok.bs,ok.bsz,ok.noex,ok.exfs,ok.funs,ok.frf⟩
theorem Cx.Ok.unwish {X:Cx}{E:Value->Shared->Prop}(ok:(X.wish E).Ok):X.Ok:=
 ⟨ok.mod,ok.kind,ok.glob,ok.blt,ok.above,ok.inj,ok.has,ok.cab,ok.hd,ok.frames,ok.stk,ok.exf,ok.bs,ok.bsz,ok.noex,ok.exfs,ok.funs,ok.frf⟩
section
variable {X:Cx}{pins:List (Addr×Obj)}{σ:St}{H:Hp}{s:Shared}{E:Value->Shared->Prop}
theorem Inv.wish (I:Inv X pins σ H s)(E:Value->Shared->Prop):Inv (X.wish E) pins σ H s:=⟨I.ok.wish E,I.os,I.bare,I.base,I.loc,I.cell,I.free,I.freeC,I.pin,I.hok,I.len⟩
theorem Inv.unwish (I:Inv (X.wish E) pins σ H s):Inv X pins σ H s:=⟨I.ok.unwish,I.os,I.bare,I.base,I.loc,I.cell,I.free,I.freeC,I.pin,I.hok,I.len⟩
theorem SP.unwish {D:Ends}{f:Flow}{s':Shared}(h:SP (X.wish E) pins D f s'):SP X pins D f s':=by
  cases f with
  |next=>obtain⟨σ',H',I,q⟩:=h;exact⟨σ',H',I.unwish,q⟩
  |brk=>obtain⟨σ',H',I,q⟩:=h;exact⟨σ',H',I.unwish,q⟩
  |cont=>obtain⟨σ',H',I,q⟩:=h;exact⟨σ',H',I.unwish,q⟩
  |ret u=>obtain⟨v,σ',H',I,r,q⟩:=h;exact⟨v,σ',H',I.unwish,r,q⟩
theorem PSs.nox {st:List Stmt}{t:TS}(h:PSs X.nox st t):PSs X st t:=⟨λ pins s σ H D I hw=>
 wpAny_mono (h pins s σ H D (I.wish _) hw) (λ _ _ q=>q.unwish) λ _ _ z=>False.elim z⟩
end
section
variable {X:Cx}{st:Stmt}{J8:List Stmt}{t u:TS}{e:Expr}{te:TE}{pos:Pos}
noncomputable def YS:TS:=λ D σ H=>D.nx σ H
noncomputable def tSeq (t u:TS):TS:=λ D σ H=>t { D with nx:=u D } σ H
theorem Zs:PSs X [] YS:=⟨λ _ _ σ H _ I h=>wpAny_execs_nil ⟨σ,H,I,h⟩⟩
theorem Zf (h1:PS X st t)(h2:PSs X J8 u):PSs X (st::J8) (tSeq t u):=by
  refine⟨?_⟩;intro pins s σ H D I h;refine wpAny_execs_cons (thn (h1 pins s σ H { D with nx:=u D } I h) λ f s1 q=>?_);cases f with
  |next=>
    obtain⟨σ',H',I',q⟩:=q;exact h2 pins s1 σ' H' D I' q
  |ret v=>exact q
  |brk=>exact q
  |cont=>exact q
theorem Zg (h1:PS X st t):PSs X [st] t:=by
  refine⟨?_⟩;intro pins s σ H D I h;refine wpAny_execs_cons (thn (h1 pins s σ H D I h) λ f s1 q=>?_);cases f with
  |next=>exact wpAny_execs_nil q
  |ret v=>exact q
  |brk=>exact q
  |cont=>exact q
theorem Inv.quiet {pins:List (Addr×Obj)}{σ:St}{H:Hp}{s:Shared}(I:Inv X pins σ H s):interactive X.env=false:=by simp[interactive,I.ok.kind]
noncomputable def tDrop (te:TE):TS:=λ D σ H=>te σ H λ _ H1=>D.nx σ H1
theorem Za7 (he:PE X e te)(hs:swapsWith e none pos.line X.env=pure false:=by rfl):PS X (.Expr e pos) (tDrop te):=by
 refine⟨?_⟩;intro pins s σ H D I h;exact wpAny_Expr_any (thn (he pins s σ H _ I h) λ v s1 ⟨x,H1,I1,r1,q1⟩=>⟨σ,H1,I1,q1⟩) I.quiet hs
noncomputable def tRet (te:TE):TS:=λ D σ H=>te σ H D.rt
theorem Zl (he:PE X e te):PS X (.Return (some e) pos) (tRet te):=by
 refine⟨?_⟩;intro pins s σ H D I h;exact wpAny_Return_some (thn (he pins s σ H _ I h) λ v s1 ⟨x,H1,I1,r1,q1⟩=>⟨x,σ,H1,I1,r1,q1⟩)
noncomputable def tIfS (c:TT)(t u:TS):TS:=λ D σ H=>c σ H λ b H1=>if b=true then t D σ H1 else u D σ H1
theorem ZI {c:Expr}{a b:List Stmt}{tc:TT}(hc:PT X c tc)(ha:PSs X a t)(hb:PSs X b u):PS X (.If c a b pos) (tIfS tc t u):=by
  refine⟨?_⟩;intro pins s σ H D I h;refine wpAny_If (thn (hc pins s σ H _ I h) λ d s1 zz9=>?_);obtain⟨H1,I1,q1⟩:=zz9;cases d with
  |true=>exact ha pins s1 σ H1 D I1 q1
  |false=>exact hb pins s1 σ H1 D I1 q1
end
noncomputable abbrev TG:=V->St->Hp->(St->Hp->Prop)->Prop
noncomputable abbrev TGs:=List V->St->Hp->(St->Hp->Prop)->Prop
noncomputable abbrev PGb (X:Cx)(target:Expr)(t:TG):Prop:=
  ∀(pins:List (Addr×Obj))(s:Shared)(σ:St)(H:Hp)(v:V)(u:Value)(Q:St->Hp->Prop),Inv X pins σ H s->ZM v u->t v σ H Q ->
    wpAny (model X.prog X.w) X.A (assign target X.env u) (λ _ s'=>∃ σ' H',Inv X pins σ' H' s'/\Q σ' H') X.xe s
structure PG (X:Cx)(target:Expr)(t:TG):Prop where
  go:PGb X target t
instance {X:Cx}{target:Expr}{t:TG}:CoeFun (PG X target t) λ _=>PGb X target t:=⟨PG.go⟩
noncomputable abbrev PGsb (X:Cx)(ts:List Expr)(t:TGs):Prop:=
  ∀(pins:List (Addr×Obj))(s:Shared)(σ:St)(H:Hp)(vs:List V)(us:List Value)(Q:St->Hp->Prop),Inv X pins σ H s->ZH vs us->t vs σ H Q ->
    wpAny (model X.prog X.w) X.A (assignInOrder ((assignEach ts X.env).map (·.2)) us) (λ _ s'=>∃ σ' H',Inv X pins σ' H' s'/\Q σ' H') X.xe s
structure PGs (X:Cx)(ts:List Expr)(t:TGs):Prop where
  go:PGsb X ts t
instance {X:Cx}{ts:List Expr}{t:TGs}:CoeFun (PGs X ts t) λ _=>PGsb X ts t:=⟨PGs.go⟩
noncomputable abbrev TSet:=V->V->V->Hp->(Hp->Prop)->Prop
noncomputable abbrev PSetb (X:Cx)(t:TSet):Prop:=
  ∀(pins:List (Addr×Obj))(s:Shared)(σ:St)(H:Hp)(o i v:V)(ov iv u:Value)(Q:Hp->Prop),Inv X pins σ H s->ZM o ov->ZM i iv->ZM v u->t o i v H Q ->
    wpAny (model X.prog X.w) X.A (setItem ov iv u) (λ _ s'=>∃ H',Inv X pins σ H' s'/\Q H') X.xe s
structure PSet (X:Cx)(t:TSet):Prop where
  go:PSetb X t
instance {X:Cx}{t:TSet}:CoeFun (PSet X t) λ _=>PSetb X t:=⟨PSet.go⟩
noncomputable abbrev TIp:=V->V->Hp->VK->Prop
noncomputable abbrev PIpb (X:Cx)(op:Operator)(t:TIp):Prop:=
  ∀(pins:List (Addr×Obj))(s:Shared)(σ:St)(H:Hp)(x y:V)(v u:Value)(Q:VK),Inv X pins σ H s->ZM x v->ZM y u->t x y H Q ->
    wpAny (model X.prog X.w) X.A (inplaceOp op v u) (EP X pins σ Q) X.xe s
structure PIp (X:Cx)(op:Operator)(t:TIp):Prop where
  go:PIpb X op t
instance {X:Cx}{op:Operator}{t:TIp}:CoeFun (PIp X op t) λ _=>PIpb X op t:=⟨PIp.go⟩
section
variable {X:Cx}{pos:Pos}
noncomputable def Zdk (i:Nat):TG:=λ v σ H Q=>Q (σ.set i (some v)) H
theorem Zx {i:Nat}{x:Str}(hN:X.N.Nodup)(hi:X.N[i]? = some x)(hx:Loc X.env.scope x)(hf:X.fn x=true\/X.env.scope.names.lookup x=some .local:=by first|exact .inl rfl|exact .inr rfl|assumption):PG X (.Name x pos) (Zdk i):=by
 refine⟨?_⟩;intro pins s σ H v u Q I r h;exact wpAny_assign_Name (Zbf I hN hi hx r (λ s' I'=>⟨_,H,I',h⟩) hf)
noncomputable def gNil:TGs:=λ vs σ H Q=>vs=[]/\Q σ H
noncomputable def Zfu (t:TG)(u:TGs):TGs:=λ vs σ H Q=>∃ v r,vs=v::r/\t v σ H λ σ' H'=>u r σ' H' Q
theorem Yq:PGs X [] gNil:=by
 refine⟨?_⟩;intro pins s σ H vs us Q I r h;obtain⟨e,h⟩:=h;subst e;cases r;exact assignInOrder_nil ⟨σ,H,I,h⟩
theorem ZB {e:Expr}{es:List Expr}{t:TG}{u:TGs}(h1:PG X e t)(h2:PGs X es u)(hs:(assignEach (e::es) X.env).map (·.2)=assign e X.env::(assignEach es X.env).map (·.2):=by rfl):PGs X (e::es) (Zfu t u):=by
  refine⟨?_⟩;intro pins s σ H vs us Q I r h;obtain⟨v,vr,e1,h⟩:=h;subst e1;cases r with
  |cons r rr=>
    rw[hs];refine assignInOrder_cons (thn (h1 pins s σ H _ _ _ I r h) λ _ s1 zz9=>?_);obtain⟨σ1,H1,I1,q1⟩:=zz9;exact h2 pins s1 σ1 H1 _ _ Q I1 rr q1
noncomputable def gTup (K:Frag)(n:Nat)(t:TGs):TG:=λ v σ H Q=>∃ a xs,v = .ref a/\SqT K H a xs/\xs.length=n/\t xs σ H Q
theorem Xp {es:List Expr}{k:Nat}{t:TGs}{n:Nat}(hc:X.calm=true)(h:PGs X es t)(hn:(assignEach es X.env).length=n:=by rfl)(hst:(assignEach es X.env).findIdx? (·.1)=none:=by rfl):PG X (.Tuple es k pos) (gTup X.K n t):=by
 refine⟨?_⟩;intro pins s σ H v u Q I r hw;obtain⟨a,xs,e1,hq,hl,hw⟩:=hw;subst e1;cases r;obtain⟨its,rv,ht,hz⟩:=I.tuple hq;refine assign_Tuple_tuple (I.ok.hd hc) ht (by simp[hn,<- hl,rv.length]) hst λ h' hx=>?_;have I1:Inv X pins σ H { s with heap:=h' }:=I.kept (t':=s.toks) λ b o e=>hx b o (ne_of_lt (Heap.lt_size e)) e;exact h pins _ σ H xs _ Q I1 (by simpa using rv) hw
noncomputable def tAsg (te:TE)(g:TG):TS:=λ D σ H=>te σ H λ x H1=>g x σ H1 D.nx
theorem JO {tg e:Expr}{te:TE}{g:TG}(he:PE X e te)(hg:PG X tg g)(hs:swapsWithSole [tg] e pos.line X.env=pure false:=by rfl)(hw:swappedStores [tg] e X.env=pure none:=by rfl)(h1:(assignEach [tg] X.env).map (·.2)=[assign tg X.env]:=by rfl):PS X (.Assign [tg] e pos) (tAsg te g):=by
 refine⟨?_⟩;intro pins s σ H D I h;refine wpAny_Assign_stores (thn (he pins s σ H _ I h) λ v s1 zz9=>?_) hs hw;obtain⟨x,H1,I1,r1,q1⟩:=zz9;rw[h1];exact thn (hg pins s1 σ H1 x v _ I1 r1 q1) λ _ s2 q=>q
theorem Zr {i:Nat}{x:Str}{e:Expr}{te:TE}{pos':Pos}(hN:X.N.Nodup)(hi:X.N[i]? = some x)(hx:Loc X.env.scope x)(he:PE X e te)(hs:swapsWith e (some (.Name x pos')) pos.line X.env=pure false:=by rfl)(hf:X.fn x=true\/X.env.scope.names.lookup x=some .local:=by first|exact .inl rfl|exact .inr rfl|assumption) :
    PS X (.Assign [.Name x pos'] e pos) (tAsg te (Zdk i)):=by
  refine⟨?_⟩;intro pins s σ H D I h;refine wpAny_Assign_Name (thn (he pins s σ H _ I h) λ v s1 zz9=>?_) hs;obtain⟨y,H1,I1,r1,q1⟩:=zz9;exact Zbf I1 hN hi hx r1 (λ s2 I2=>⟨_,H1,I2,q1⟩) hf
noncomputable abbrev PGetb (X:Cx)(t:V->V->Hp->VK->Prop):Prop:=
  ∀(pins:List (Addr×Obj))(s:Shared)(σ:St)(H:Hp)(o i:V)(ov iv:Value)(Q:VK),Inv X pins σ H s->ZM o ov->ZM i iv->t o i H Q ->
    wpAny (model X.prog X.w) X.A (getItem ov iv) (EP X pins σ Q) X.xe s
structure PGet (X:Cx)(t:V->V->Hp->VK->Prop):Prop where
  go:PGetb X t
instance {X:Cx}{t:V->V->Hp->VK->Prop}:CoeFun (PGet X t) λ _=>PGetb X t:=⟨PGet.go⟩
end
section
variable {X:Cx}{pos:Pos}
noncomputable def tWhile (c:TT)(tb:TS):TS:=λ D σ H=>∃ W:Nat->St->Hp->Prop,(∃ m,W m σ H)/\∀ m σ H,W m σ H ->
 c σ H λ b H1=>if b=true then ∃ N:St->Hp->Prop,(∀ σ' H',N σ' H'->∃ m',m'<m/\W m' σ' H')/\tb { D with nx:=N,ct:=N,bk:=D.nx } σ H1 else D.nx σ H1
theorem Ze6 {c:Expr}{body:List Stmt}{tc:TT}{tb:TS}(hp:PassesOwn (model X.prog X.w) X.A X.env X.xe)(hc:PT X c tc)(hb:PSs X body tb):PS X (.While c body [] pos) (tWhile tc tb):=by
  refine⟨?_⟩;intro pins s σ H D I h;obtain⟨W,⟨m0,w0⟩,turn⟩:=h;refine wpAny_While (codeAny_whileLoop (λ n s'=>∃ σ' H',Inv X pins σ' H' s'/\W n σ' H') ?_ m0 ⟨σ,H,I,w0⟩);rintro n s1 ⟨σ1,H1,I1,w1⟩;refine wpAny_passesOwn hp (thn (hc pins s1 σ1 H1 _ I1 (turn n σ1 H1 w1)) λ b s2 zz9=>?_);obtain⟨H2,I2,q2⟩:=zz9;cases b with
  |true=>
    obtain⟨N,hN,q2⟩:=q2;rw[if_pos rfl];refine wpAny_passesOwn hp (thn (hb pins s2 σ1 H2 _ I2 q2) λ f s3 q3=>?_);cases f with
    |next=>
      obtain⟨σ3,H3,I3,n3⟩:=q3;obtain⟨m',hm,w3⟩:=hN σ3 H3 n3;exact⟨m',hm,σ3,H3,I3,w3⟩
    |cont=>
      obtain⟨σ3,H3,I3,n3⟩:=q3;obtain⟨m',hm,w3⟩:=hN σ3 H3 n3;exact⟨m',hm,σ3,H3,I3,w3⟩
    |brk=>exact q3
    |ret v=>exact q3
  |false=>
    rw[if_neg Bool.false_ne_true];exact wpAny_execs_nil ⟨σ1,H2,I2,q2⟩
end
structure It where
  go:Nat->Hp->Prop
  yld:Nat->Hp->V->Hp->Prop
  stop:Nat->Hp->Prop
noncomputable def Xy (X:Cx)(pins:List (Addr×Obj))(H:Hp)(b:Addr):Prop:=
 H b=none/\b≠X.env.locals/\b∉X.fs/\(b∈X.ex\/X.s₀.heap.objs.size<=b)/\(∀ x c,X.env.cells.lookup x=some c->c≠b)/\∀ p∈X.pn++pins,p.1≠b
theorem Inv.fpOk {X:Cx}{pins:List (Addr×Obj)}{σ:St}{H H':Hp}{s:Shared}{b:Addr}(I:Inv X pins σ H s)(hb:s.heap.objs.size<=b)(hn:H' b=none):Xy X pins H' b:=by
  refine⟨hn,Nat.ne_of_gt (lt_of_lt_of_le I.lt hb),I.nofs hb, .inr (le_trans I.sz hb),λ x c e z=>?_,λ p hp z=>?_⟩
  . obtain⟨v,q⟩:=I.cell x c e;exact absurd (lt_of_lt_of_le q.lt (by rw[z];exact hb)) (lt_irrefl _)
  . exact absurd (lt_of_lt_of_le (Heap.lt_size (I.pin p hp).1) (by rw[z];exact hb)) (lt_irrefl _)
structure Turn (P:Program)(w:World)(K:Frag)(tg:Expr)(J:It)(fp:List Addr)(it:Addr)(tn:Nat->Heap->Prop):Prop where
  mem:it∈fp
  obj:∀ i h,tn i h->∀ b∈fp,∃ o,h.get? b=some o/\∀ v,o.data ≠ .cell v
  keep:∀ i h h',tn i h->(∀ b∈fp,∀ o,h.get? b=some o->h'.get? b=some o)->tn i h'
  item:∀(X:Cx),X.prog=P->X.w=w->X.K=K->X.calm=true->∀(i:Nat)(pins:List (Addr×Obj))(s:Shared)(σ:St)(H:Hp)(E:Value->Shared->Prop),Inv X pins σ H s->(∀ b∈fp,Xy X pins H b)->tn i s.heap->J.go i H ->
    wpAny (model P w) X.A (pyNext (.ref it)) (λ r s1=>∃ u,r=some u /\
      wpAny (model P w) X.A (letOwnedTupleGo tg (.ref it) u) (λ _ s2=>∃ x H',Inv X pins σ H' s2/\ZM x u/\J.yld i H x H'/\tn (i+1) s2.heap/\∀ b∈fp,H' b=none) E s1) E s
  done:∀(X:Cx),X.prog=P->X.w=w->X.K=K->X.calm=true->∀(i:Nat)(pins:List (Addr×Obj))(s:Shared)(σ:St)(H:Hp)(E:Value->Shared->Prop),Inv X pins σ H s->(∀ b∈fp,Xy X pins H b)->tn i s.heap->J.stop i H ->
    wpAny (model P w) X.A (pyNext (.ref it)) (λ r s1=>r=none/\Inv X pins σ H s1) E s
  self:∀(A:Around)(i:Nat)(s:Shared)(Q:Value->Shared->Prop)(E:Value->Shared->Prop),tn i s.heap->Q (.ref it) s->wpAny (model P w) A (pyIter (.ref it)) Q E s
noncomputable abbrev TI:=St->Hp->(It->Hp->Prop)->Prop
noncomputable def PIE (X:Cx)(pins:List (Addr×Obj))(σ:St)(tg:Expr)(R:It->Hp->Prop)(itv:Value)(s2:Shared):Prop:=
 ∃(it:Addr)(fp:List Addr)(tn:Nat->Heap->Prop)(J:It)(H':Hp),itv = .ref it/\Inv X pins σ H' s2/\Turn X.prog X.w X.K tg J fp it tn/\tn 0 s2.heap/\(∀ b∈fp,Xy X pins H' b)/\R J H'
noncomputable abbrev PIb (X:Cx)(tg iter:Expr)(wi:TI):Prop:=
  ∀(pins:List (Addr×Obj))(s:Shared)(σ:St)(H:Hp)(R:It->Hp->Prop),Inv X pins σ H s->wi σ H R ->
    wpAny (model X.prog X.w) X.A (eval iter X.env) (λ v s1=>wpAny (model X.prog X.w) X.A (pyIter v) (PIE X pins σ tg R) X.xe s1) X.xe s
structure PI (X:Cx)(tg iter:Expr)(wi:TI):Prop where
  go:PIb X tg iter wi
instance {X:Cx}{tg iter:Expr}{wi:TI}:CoeFun (PI X tg iter wi) λ _=>PIb X tg iter wi:=⟨PI.go⟩
theorem ZdY {M:Model}{A:Around}{E:Value->Shared->Prop}{s:Shared}{tg:Expr}{it:Addr}{u:Value}{o:Obj}{n:String}{vs:Array Value}{Q:Unit->Shared->Prop}(ho:s.heap.get? it=some o)(hc:o.cls = .type n)(hd:o.data = .fields vs)(hn:["enumerate","zip","dict_itemiterator","dict_reverseitemiterator","odict_iterator","itertools.zip_longest","itertools.pairwise"].contains n=false)(hQ:Q () s):wpAny M A (letOwnedTupleGo tg (.ref it) u) Q E s:=by
  unfold letOwnedTupleGo;cases tg <;> first
    | exact wpAny_pure hQ
    | (cases u <;> first
        | exact wpAny_pure hQ
        | (refine wpAny_bind (wpAny_load ho ?_)
           rw[hc,hd];show wpAny M A (if (["enumerate","zip","dict_itemiterator","dict_reverseitemiterator","odict_iterator","itertools.zip_longest","itertools.pairwise"].contains n && vs[0]? == some (rawInt _))=true then _ else _) Q E s;rw[if_neg (by intro h;rw[hn,Bool.false_and]at h;cases h)];exact wpAny_pure hQ))
noncomputable def Itl (K:Frag)(a:Addr):It:=
 ⟨λ i H=>∃ xs x,SqL K H a xs/\xs[i]? = some x,λ i H x H'=>H'=H/\∀ xs,SqL K H a xs->xs[i]? = some x,λ i H=>∃ xs,SqL K H a xs/\xs.length<=i⟩
noncomputable def Itt (K:Frag)(a:Addr):It:=
 ⟨λ i H=>∃ xs x,SqT K H a xs/\xs[i]? = some x,λ i H x H'=>H'=H/\∀ xs,SqT K H a xs->xs[i]? = some x,λ i H=>∃ xs,SqT K H a xs/\xs.length<=i⟩
noncomputable def Itr (lo:Int)(n:Nat):It:=⟨λ i _=>i<n,λ i H x H'=>H'=H/\x = .int (lo+i),λ i _=>n<=i⟩
theorem Zea {P:Program}{w:World}{K:Frag}{tg:Expr}(a it:Addr):Turn P w K tg (Itl K a) [it] it (λ i h=>h.IsListIter it a i) where
  mem:=by simp
  obj:=λ i h st b hb=>by
    have e:b=it:=by simpa using hb
    subst e;obtain⟨o,e,c,d⟩:=st;exact⟨o,e,λ v z=>by rw[d]at z;cases z⟩
  keep:=λ i h h' st k=>st.at λ o e=>k it (by simp) o e
  item:=by
    intro X hP hw hK hc i pins s σ H E I hf st hg;subst hP hw hK;obtain⟨xs,x,hq,hx⟩:=hg;obtain⟨its,rv,p,hz⟩:=I.list hq;obtain⟨u,hu,ru⟩:=rv.get hx;obtain⟨f0,f1,f2,f3,f4,f5⟩:=hf it (by simp);refine wpAny_pyNext_list_item st p.isList (x:=u) (by simpa using hu) λ h' st' sb=>?_;have I1:Inv X pins σ H { s with heap:=h' }:=I.turned (t':=s.toks) (λ b o hb e=>(sb.2 b hb).trans e) f0 f1 f3 f4 f5;obtain⟨o,e,c,d⟩:=id st';exact⟨u,rfl,ZdY (s:={ s with heap:=h' }) e c d (by decide) ⟨x,H,I1,ru,⟨rfl,λ ys hy=>by rw[I.list_inj hy hq];exact hx⟩,st',λ b hb=>(hf b hb).1⟩⟩
  done:=by
    intro X hP hw hK hc i pins s σ H E I hf st hg;subst hP hw hK;obtain⟨xs,hq,hx⟩:=hg;obtain⟨its,rv,p,hz⟩:=I.list hq;obtain⟨f0,f1,f2,f3,f4,f5⟩:=hf it (by simp);have hl:=rv.length;exact wpAny_pyNext_list_end (I.ok.hd hc) st p.isList (by simp;omega) λ h' eb=>⟨rfl,I.turned (t':=s.toks) (λ b o hb e=>eb b o hb e) f0 f1 f3 f4 f5⟩
  self:=λ _ _ _ _ _ st h=>wpAny_pyIter_listiter st h
theorem Zdr {P:Program}{w:World}{K:Frag}{tg:Expr}(a it:Addr):Turn P w K tg (Itt K a) [it] it (λ i h=>h.IsTupleIter it a i) where
  mem:=by simp
  obj:=λ i h st b hb=>by
    have e:b=it:=by simpa using hb
    subst e;obtain⟨o,e,c,d⟩:=st;exact⟨o,e,λ v z=>by rw[d]at z;cases z⟩
  keep:=λ i h h' st k=>st.at λ o e=>k it (by simp) o e
  item:=by
    intro X hP hw hK hc i pins s σ H E I hf st hg;subst hP hw hK;obtain⟨xs,x,hq,hx⟩:=hg;obtain⟨its,rv,p,hz⟩:=I.tuple hq;obtain⟨u,hu,ru⟩:=rv.get hx;obtain⟨f0,f1,f2,f3,f4,f5⟩:=hf it (by simp);refine wpAny_pyNext_tuple_item st (show s.heap.IsTuple a its.toArray from p) (x:=u) (by simpa using hu) λ h' st' sb=>?_;have I1:Inv X pins σ H { s with heap:=h' }:=I.turned (t':=s.toks) (λ b o hb e=>(sb.2 b hb).trans e) f0 f1 f3 f4 f5;obtain⟨o,e,c,d⟩:=id st';exact⟨u,rfl,ZdY (s:={ s with heap:=h' }) e c d (by decide) ⟨x,H,I1,ru,⟨rfl,λ ys hy=>by rw[I.tuple_inj hy hq];exact hx⟩,st',λ b hb=>(hf b hb).1⟩⟩
  done:=by
    intro X hP hw hK hc i pins s σ H E I hf st hg;subst hP hw hK;obtain⟨xs,hq,hx⟩:=hg;obtain⟨its,rv,p,hz⟩:=I.tuple hq;obtain⟨f0,f1,f2,f3,f4,f5⟩:=hf it (by simp);have hl:=rv.length;exact wpAny_pyNext_tuple_end (I.ok.hd hc) st (show s.heap.IsTuple a its.toArray from p) (by simp;omega) λ h' eb=>⟨rfl,I.turned (t':=s.toks) (λ b o hb e=>eb b o hb e) f0 f1 f3 f4 f5⟩
  self:=λ _ _ _ _ _ st h=>wpAny_pyIter_tupleiter st h
theorem Zds {P:Program}{w:World}{K:Frag}{tg:Expr}(it:Addr)(lo:Int)(n:Nat):Turn P w K tg (Itr lo n) [it] it (λ i h=>IsRangeIter h it (lo+(i:Nat) * 1) ((n:Int) - (i:Nat)) 1) where
  mem:=by simp
  obj:=λ i h st b hb=>by
    have e:b=it:=by simpa using hb
    subst e;exact⟨_,st,λ v z=>by
      have z':Data.fields _=Data.cell v:=z;cases z'⟩
  keep:=λ i h h' st k=>k it (by simp) _ st
  item:=by
    intro X hP hw hK hc i pins s σ H E I hf st hg;subst hP hw hK;obtain⟨f0,f1,f2,f3,f4,f5⟩:=hf it (by simp);have W:=Walks.range (prog:=X.prog) (w:=X.w) (I.ok.hd hc) it lo 1 n;refine W.item i s _ _ hg st λ v h' tk hv st' kk=>?_;obtain⟨t,rfl⟩:=hv;have I1:Inv X pins σ H { s with heap:=h',toks:=tk }:=I.turned (λ b o hb e=>kk b o (by simpa using hb) e) f0 f1 f3 f4 f5;refine⟨_,rfl,ZdY (s:={ s with heap:=h',toks:=tk }) (n:="range_iterator") st' rfl rfl (by decide) ⟨.int (lo+i),H,I1,⟨t,?_⟩,⟨rfl,rfl⟩,st',λ b hb=>(hf b hb).1⟩⟩;rw[Int.mul_one]
  done:=by
    intro X hP hw hK hc i pins s σ H E I hf st hg;subst hP hw hK;obtain⟨f0,f1,f2,f3,f4,f5⟩:=hf it (by simp);exact wpAny_pyNext_range_end (I.ok.hd hc) st (by have:n<=i:=hg;omega) λ h' eb=>⟨rfl,I.turned (t':=s.toks) (λ b o hb e=>eb b o hb e) f0 f1 f3 f4 f5⟩
  self:=λ _ _ _ _ _ st h=>wpAny_pyIter_rangeiter st h
open PySem PySem.Spec PyProof.Rows
section
variable {X:Cx}{tg:Expr}
noncomputable def iList (K:Frag)(tl:TE):TI:=λ σ H R=>tl σ H λ x H1=>∃ a,x = .ref a/\(∃ xs,SqL K H1 a xs)/\R (Itl K a) H1
noncomputable def iTup (K:Frag)(tl:TE):TI:=λ σ H R=>tl σ H λ x H1=>∃ a,x = .ref a/\(∃ xs,SqT K H1 a xs)/\R (Itt K a) H1
theorem Jh {l:Expr}{tl:TE}(hl:PE X l tl):PI X tg l (iList X.K tl):=by
 refine⟨?_⟩;intro pins s σ H R I h;refine thn (hl pins s σ H _ I h) λ v s1 zz9=>?_;obtain⟨x,H1,I1,r1,q1⟩:=zz9;obtain⟨a,e,⟨xs,hq⟩,q⟩:=q1;subst e;cases r1;obtain⟨its,rv,p,hz⟩:=I1.list hq;refine wpAny_pyIter_list p.isList ?_;refine⟨s1.heap.objs.size,[s1.heap.objs.size],_,_,H1,rfl,I1.kept (t':=s1.toks) λ b o e=>Heap.get?_push_of_some _ e,Zea a _,⟨_,Heap.get?_push_size _ rfl,rfl,rfl⟩,λ b hb=>?_,q⟩;have e:b=s1.heap.objs.size:=by simpa using hb
 subst e;exact I1.fpOk (le_refl _) (I1.hok.fresh (le_refl _))
theorem Ze7 {l:Expr}{tl:TE}(hl:PE X l tl):PI X tg l (iTup X.K tl):=by
 refine⟨?_⟩;intro pins s σ H R I h;refine thn (hl pins s σ H _ I h) λ v s1 zz9=>?_;obtain⟨x,H1,I1,r1,q1⟩:=zz9;obtain⟨a,e,⟨xs,hq⟩,q⟩:=q1;subst e;cases r1;obtain⟨its,rv,p,hz⟩:=I1.tuple hq;refine wpAny_pyIter_tuple (show s1.heap.IsTuple a its.toArray from p) ?_;refine⟨s1.heap.objs.size,[s1.heap.objs.size],_,_,H1,rfl,I1.kept (t':=s1.toks) λ b o e=>Heap.get?_push_of_some _ e,Zdr a _,⟨_,Heap.get?_push_size _ rfl,rfl,rfl⟩,λ b hb=>?_,q⟩;have e:b=s1.heap.objs.size:=by simpa using hb
 subst e;exact I1.fpOk (le_refl _) (I1.hok.fresh (le_refl _))
theorem Zc5 {pins:List (Addr×Obj)}{σ:St}{H:Hp}{s:Shared}{R:It->Hp->Prop}{E:Value->Shared->Prop}{lo hi:Int}{t u v:Tok}{tk:Nat}(I:Inv X pins σ H s)(h1 : -(2 ^ 62)<=lo)(h2:lo<2 ^ 62)(h3 : -(2 ^ 62)<=hi)(h4:hi<2 ^ 62)(q:R (Itr lo (hi - lo).toNat) H):wpAny (model X.prog X.w) X.A (pyIter (.ref s.heap.objs.size)) (PIE X pins σ tg R) E { s with heap:=s.heap.push { cls:=.type "range",data:=.fields #[.int lo t, .int hi u, .int 1 v] },toks:=tk }:=by
  refine wpAny_pyIter_range (IsRange.new ..) (small_one h1 h2 h3 h4) ?_;have I1:Inv X pins σ H { s with heap:=s.heap.push { cls:=.type "range",data:=.fields #[.int lo t, .int hi u, .int 1 v] },toks:=tk }:=I.kept λ b o e=>Heap.get?_push_of_some _ e;refine⟨(s.heap.push { cls:=.type "range",data:=.fields #[.int lo t, .int hi u, .int 1 v] }).objs.size,[(s.heap.push { cls:=.type "range",data:=.fields #[.int lo t, .int hi u, .int 1 v] }).objs.size],_,_,H,rfl,
    I1.kept (t':=tk) λ b o e=>Heap.get?_push_of_some _ e,Zds _ lo (hi - lo).toNat,?_,λ b hb=>?_,q⟩
  . have e1:lo+((0:Nat):Int) * 1=lo:=by simp
    have e2:(((hi - lo).toNat:Nat):Int) - ((0:Nat):Int)=Builtin.Range.rangeSize lo hi 1:=by rw[rangeSize_one];split <;> omega
    show IsRangeIter _ _ (lo+((0:Nat):Int) * 1) ((((hi - lo).toNat:Nat):Int) - ((0:Nat):Int)) 1;rw[e1,e2];exact Heap.get?_push_size _ rfl
  . have e:b=(s.heap.push { cls:=.type "range",data:=.fields #[.int lo t, .int hi u, .int 1 v] }).objs.size:=by simpa using hb
    subst e;exact I1.fpOk (le_refl _) (I1.hok.fresh (le_refl _))
noncomputable def iRng1 (ta:TA):TI:=λ σ H R=>ta σ H λ vs H1=>∃ j:Int,vs=[.int j] /\ -(2 ^ 62)<=j/\j<2 ^ 62/\R (Itr 0 j.toNat) H1
noncomputable def iRng2 (ta:TA):TI:=λ σ H R=>ta σ H λ vs H1=>∃ i j:Int,vs=[.int i, .int j]/\(-(2 ^ 62)<=i/\i<2 ^ 62 /\ -(2 ^ 62)<=j/\j<2 ^ 62)/\R (Itr i (j - i).toNat) H1
theorem Xe {a:Expr}{ta:TA}{p pos:Pos}(hg:Gl X "range")(hm:X.mg "range"=none)(ha:PA X [a] ta)(hs:starEach [a] X.env=[(false,eval a X.env)]:=by rfl):PI X tg (.Call (.Name "range" p) [a] [] pos) (iRng1 ta):=by
  refine⟨?_⟩;intro pins s σ H R I h;refine Call_ (JP I hg hm boot_range (PyProof.Rows.callWith_type1 (thn (ha pos pins s σ H _ I h) λ us s1 zz9=>?_) hs rfl));obtain⟨vs,H1,I1,r1,q1⟩:=zz9;obtain⟨j,e,q1,q2,q⟩:=q1;subst e;cases r1 with
  |cons r rr=>
    cases rr;obtain⟨t,rfl⟩:=r;exact call_range_1 (Zc5 I1 (by omega) (by omega) q1 q2 (by simpa using q))
theorem Zem {a b:Expr}{ta:TA}{p pos:Pos}(hg:Gl X "range")(hm:X.mg "range"=none)(ha:PA X [a,b] ta)(hs:starEach [a,b] X.env=[(false,eval a X.env),(false,eval b X.env)]:=by rfl)(hs2:starEach [b] X.env=[(false,eval b X.env)]:=by rfl) :
    PI X tg (.Call (.Name "range" p) [a,b] [] pos) (iRng2 ta):=by
  refine⟨?_⟩;intro pins s σ H R I h;refine Call_ (JP I hg hm boot_range (PyProof.Rows.callWith_type1 (thn (ha pos pins s σ H _ I h) λ us s1 ⟨vs,H1,I1,r1,q1⟩=>?_) (by rw[hs,hs2]) (by rw[hs2];rfl)));obtain⟨i,j,e,⟨q1,q2,q3,q4⟩,q⟩:=q1;subst e;cases r1 with
  |cons r rr=>
    cases rr with
    |cons r' rr=>
      cases rr;obtain⟨t,rfl⟩:=r;obtain⟨t',rfl⟩:=r';exact call_range_2 (Zc5 I1 q1 q2 q3 q4 q)
noncomputable def tFor (wi:TI)(g:TG)(tb:TS):TS:=λ D σ H=>wi σ H λ J H1=>∃ W:Nat->Nat->St->Hp->Prop,(∃ m,W 0 m σ H1)/\∀ i m σ H,W i m σ H ->
 (J.stop i H/\D.nx σ H)\/(J.go i H/\∃ N:St->Hp->Prop,(∀ σ' H',N σ' H'->∃ m',m'<m/\W (i+1) m' σ' H')/\∀ x H',J.yld i H x H'->g x σ H' λ σ2 H2=>tb { D with nx:=N,ct:=N,bk:=D.nx } σ2 H2)
noncomputable def Zav (fp:List Addr)(h:Heap):List (Addr×Obj):=fp.filterMap λ b=>(h.get? b).map λ o=>(b,o)
theorem Yo {fp:List Addr}{h:Heap}{b:Addr}{o:Obj}(hb:b∈fp)(e:h.get? b=some o):(b,o)∈Zav fp h:=List.mem_filterMap.mpr ⟨b,hb,by rw[e];rfl⟩
theorem Zeu {fp:List Addr}{h:Heap}{p:Addr×Obj}(hp:p∈Zav fp h):p.1∈fp/\h.get? p.1=some p.2:=by
  obtain⟨b,hb,e⟩:=List.mem_filterMap.mp hp;cases q:h.get? b with
  |none=>rw[q]at e;cases e
  |some o=>
    rw[q]at e;have e':(b,o)=p:=Option.some.inj e;subst e';exact⟨hb,q⟩
theorem Inv.pinned {pins:List (Addr×Obj)}{σ:St}{H:Hp}{s:Shared}{fp:List Addr}(I:Inv X pins σ H s)(hf:∀ b∈fp,Xy X pins H b)(ho:∀ b∈fp,∃ o,s.heap.get? b=some o/\∀ v,o.data ≠ .cell v):Inv X (pins++Zav fp s.heap) σ H s:=
  I.pins_of λ p hp=>(List.mem_append.mp hp).elim (λ z=>I.pin p (mem_append_right _ z)) λ z=>by
    obtain⟨hb,e⟩:=Zeu z;obtain⟨f0,f1,f2,_⟩:=hf p.1 hb;obtain⟨o,e',d⟩:=ho p.1 hb;rw[e]at e';cases e';exact⟨e,f0,f1,f2,d⟩
theorem Inv.unpinned {pins pl:List (Addr×Obj)}{σ:St}{H:Hp}{s:Shared}(I:Inv X (pins++pl) σ H s):Inv X pins σ H s:=I.pins_of λ p hp=>I.pin p (mem_append_right _ (List.mem_append_left _ hp))
theorem YO {iter:Expr}{body:List Stmt}{wi:TI}{g:TG}{tb:TS}{pos:Pos}(hp:PassesOwn (model X.prog X.w) X.A X.env X.xe)(hc:X.calm=true)(hi:PI X tg iter wi)(hg:PG X tg g)(hb:PSs X body tb)(hs:∀ x,foldedSetIterable iter X.env x=pure x:=by intro _;rfl):PS X (.For tg iter body [] pos) (tFor wi g tb):=by
  refine⟨?_⟩;intro pins s σ H D I h;refine wpAny_For (thn (hi pins s σ H _ I h) λ v s1 h1=>thn h1 λ itv s2 h2=>?_) hs;obtain⟨it,fp,tn,J,H2,e,I2,T,st2,f2,W,⟨m0,w0⟩,turn⟩:=h2;subst e;have stat:∀ {H':Hp},(∀ b∈fp,H' b=none)->∀ b∈fp,Xy X pins H' b:=λ hn b hb=>⟨hn b hb,(f2 b hb).2⟩;refine codeAny_forLoop_any (λ n s'=>∃ i σ' H',Inv X pins σ' H' s'/\tn i s'.heap/\(∀ b∈fp,H' b=none)/\W i n σ' H') ?_ m0 ⟨0,σ,H2,I2,st2,λ b hb=>(f2 b hb).1,w0⟩;rintro n s3 ⟨i,σ3,H3,I3,st3,fr3,w3⟩;rcases turn i n σ3 H3 w3 with ⟨stop,qn⟩|⟨go,N,hN,step⟩
  . refine wpAny_passesOwn hp (thn (T.done X rfl rfl rfl hc i pins s3 σ3 H3 X.xe I3 (stat fr3) st3 stop) λ r s4 zz9=>?_);obtain⟨hr,I4⟩:=zz9;subst hr;exact wpAny_execs_nil ⟨σ3,H3,I4,qn⟩
  . refine wpAny_passesOwn hp (thn (T.item X rfl rfl rfl hc i pins s3 σ3 H3 X.xe I3 (stat fr3) st3 go) λ r s4 zz9=>?_);obtain⟨u,hr,h4⟩:=zz9;subst hr;refine wpAny_passesOwn hp (thn h4 λ _ s5 zz9=>?_);obtain⟨x,H5,I5,r5,y5,st5,fr5⟩:=zz9;have I5':=I5.pinned (stat fr5) (T.obj _ _ st5);refine wpAny_passesOwn hp (thn (hg _ s5 σ3 H5 x u _ I5' r5 (step x H5 y5)) λ _ s6 zz9=>?_);obtain⟨σ6,H6,I6,q6⟩:=zz9;refine wpAny_passesOwn hp (thn (hb _ s6 σ6 H6 _ I6 q6) λ f s7 q7=>?_);have again:∀ {σ7:St} {H7:Hp},Inv X (pins++Zav fp s5.heap) σ7 H7 s7->N σ7 H7->∃ m,m<n/\∃ i σ' H',Inv X pins σ' H' s7/\tn i s7.heap/\(∀ b∈fp,H' b=none)/\W i m σ' H':=λ {σ7 H7} I7 n7=>by
      obtain⟨m',hm,w7⟩:=hN σ7 H7 n7;refine⟨m',hm,i+1,σ7,H7,I7.unpinned,T.keep _ _ _ st5 λ b hb o e=>(I7.pin (b,o) (mem_append_right _ (mem_append_right _ (Yo hb e)))).1,λ b hb=>?_,w7⟩;obtain⟨o,e,d⟩:=T.obj _ _ st5 b hb;exact(I7.pin (b,o) (mem_append_right _ (mem_append_right _ (Yo hb e)))).2.1
    cases f with
    |next=>obtain⟨σ7,H7,I7,n7⟩:=q7;exact again I7 n7
    |cont=>obtain⟨σ7,H7,I7,n7⟩:=q7;exact again I7 n7
    |brk=>obtain⟨σ7,H7,I7,q7⟩:=q7;exact⟨σ7,H7,I7.unpinned,q7⟩
    |ret v=>obtain⟨x7,σ7,H7,I7,r7,q7⟩:=q7;exact⟨x7,σ7,H7,I7.unpinned,r7,q7⟩
end
theorem ZbI {K:Frag}{a:Addr}{xs:List V}{g:TG}{tb:TS}{D:Ends}{σ:St}{H:Hp}(Pv:Nat->St->Hp->Prop)(h0:Pv 0 σ H)(hl:∀ i σ H,i<=xs.length->Pv i σ H->SqL K H a xs)(hs:∀ i x σ H,xs[i]? = some x->Pv i σ H->g x σ H λ σ2 H2=>tb { D with nx:=Pv (i+1),ct:=Pv (i+1),bk:=D.nx } σ2 H2)(hd:∀ σ H,Pv xs.length σ H->D.nx σ H) :
    ∃ W:Nat->Nat->St->Hp->Prop,(∃ m,W 0 m σ H)/\∀ i m σ H,W i m σ H ->
      ((Itl K a).stop i H/\D.nx σ H)\/((Itl K a).go i H/\∃ N:St->Hp->Prop,(∀ σ' H',N σ' H'->∃ m',m'<m/\W (i+1) m' σ' H')/\∀ x H',(Itl K a).yld i H x H'->g x σ H' λ σ2 H2=>tb { D with nx:=N,ct:=N,bk:=D.nx } σ2 H2):=by
  refine⟨λ i m σ H=>m=xs.length - i/\i<=xs.length/\Pv i σ H,⟨xs.length,by simp,zero_le _,h0⟩,?_⟩;rintro i m σ H ⟨rfl,hi,p⟩;have q:=hl i σ H hi p
  by_cases hlt:i<xs.length
  . refine .inr ⟨⟨xs,xs[i],q,by simp[hlt]⟩,Pv (i+1),λ σ' H' p'=>⟨xs.length - (i+1),by omega,rfl,hlt,p'⟩,λ x H' y=>?_⟩;obtain⟨e,y⟩:=y;subst e;exact hs i x σ _ (y xs q) p
  . have e:i=xs.length:=by omega
    subst e;exact .inl ⟨⟨xs,q,le_refl _⟩,hd σ H p⟩
theorem Zga {K:Frag}{a:Addr}{xs:List V}{g:TG}{tb:TS}{D:Ends}{σ:St}{H:Hp}(Pv:Nat->St->Hp->Prop)(h0:Pv 0 σ H)(hl:∀ i σ H,i<=xs.length->Pv i σ H->SqT K H a xs)(hs:∀ i x σ H,xs[i]? = some x->Pv i σ H->g x σ H λ σ2 H2=>tb { D with nx:=Pv (i+1),ct:=Pv (i+1),bk:=D.nx } σ2 H2)(hd:∀ σ H,Pv xs.length σ H->D.nx σ H) :
    ∃ W:Nat->Nat->St->Hp->Prop,(∃ m,W 0 m σ H)/\∀ i m σ H,W i m σ H ->
      ((Itt K a).stop i H/\D.nx σ H)\/((Itt K a).go i H/\∃ N:St->Hp->Prop,(∀ σ' H',N σ' H'->∃ m',m'<m/\W (i+1) m' σ' H')/\∀ x H',(Itt K a).yld i H x H'->g x σ H' λ σ2 H2=>tb { D with nx:=N,ct:=N,bk:=D.nx } σ2 H2):=by
  refine⟨λ i m σ H=>m=xs.length - i/\i<=xs.length/\Pv i σ H,⟨xs.length,by simp,zero_le _,h0⟩,?_⟩;rintro i m σ H ⟨rfl,hi,p⟩;have q:=hl i σ H hi p
  by_cases hlt:i<xs.length
  . refine .inr ⟨⟨xs,xs[i],q,by simp[hlt]⟩,Pv (i+1),λ σ' H' p'=>⟨xs.length - (i+1),by omega,rfl,hlt,p'⟩,λ x H' y=>?_⟩;obtain⟨e,y⟩:=y;subst e;exact hs i x σ _ (y xs q) p
  . have e:i=xs.length:=by omega
    subst e;exact .inl ⟨⟨xs,q,le_refl _⟩,hd σ H p⟩
theorem Jm {lo:Int}{n:Nat}{g:TG}{tb:TS}{D:Ends}{σ:St}{H:Hp}(Pv:Nat->St->Hp->Prop)(h0:Pv 0 σ H)(hs:∀ i σ H,i<n->Pv i σ H->g (.int (lo+i)) σ H λ σ2 H2=>tb { D with nx:=Pv (i+1),ct:=Pv (i+1),bk:=D.nx } σ2 H2)(hd:∀ σ H,Pv n σ H->D.nx σ H) :
    ∃ W:Nat->Nat->St->Hp->Prop,(∃ m,W 0 m σ H)/\∀ i m σ H,W i m σ H ->
      ((Itr lo n).stop i H/\D.nx σ H)\/((Itr lo n).go i H/\∃ N:St->Hp->Prop,(∀ σ' H',N σ' H'->∃ m',m'<m/\W (i+1) m' σ' H')/\∀ x H',(Itr lo n).yld i H x H'->g x σ H' λ σ2 H2=>tb { D with nx:=N,ct:=N,bk:=D.nx } σ2 H2):=by
  refine⟨λ i m σ H=>m=n - i/\i<=n/\Pv i σ H,⟨n,by simp,zero_le _,h0⟩,?_⟩;rintro i m σ H ⟨rfl,hi,p⟩
  by_cases hlt:i<n
  . refine .inr ⟨hlt,Pv (i+1),λ σ' H' p'=>⟨n - (i+1),by omega,rfl,hlt,p'⟩,λ x H' y=>?_⟩;obtain⟨e,y⟩:=y;subst e y;exact hs i σ _ hlt p
  . have e:i=n:=by omega
    subst e;exact .inl ⟨le_refl _,hd σ H p⟩
open PySem PySem.Spec PyProof.Rows
noncomputable abbrev R2:=V->V->Hp->VK->Prop
noncomputable def OpR (X:Cx)(f:Value->Value->Sem Value)(r:R2):Prop:=
  ∀(pins:List (Addr×Obj))(s:Shared)(σ:St)(H:Hp)(x y:V)(v u:Value)(Q:VK),Inv X pins σ H s->ZM x v->ZM y u->r x y H Q ->
    wpAny (model X.prog X.w) X.A (f v u) (EP X pins σ Q) X.xe s
noncomputable def YX (X:Cx)(f:Value)(r:List V->Hp->VK->Prop):Prop:=
  ∀(pins:List (Addr×Obj))(s:Shared)(σ:St)(H:Hp)(xs:List V)(us:List Value)(Q:VK),Inv X pins σ H s->ZH xs us->r xs H Q ->
    wpAny (model X.prog X.w) X.A (call f us) (EP X pins σ Q) X.xe s
noncomputable def TruR (X:Cx)(r:V->Hp->(Bool->Hp->Prop)->Prop):Prop:=
  ∀(pins:List (Addr×Obj))(s:Shared)(σ:St)(H:Hp)(x:V)(v:Value)(Q:Bool->Hp->Prop),Inv X pins σ H s->ZM x v->r x H Q ->
    wpAny (model X.prog X.w) X.A (truthy v) (TP X pins σ Q) X.xe s
noncomputable def tOp (r:R2)(ta tb:TE):TE:=λ σ H Q=>ta σ H λ x H1=>tb σ H1 λ y H2=>r x y H2 Q
noncomputable def rI (C:Int->Int->Prop)(g:Int->Int->V):R2:=λ x y H Q=>∃ i j,x = .int i/\y = .int j/\C i j/\Q (g i j) H
noncomputable def rI0 (g:Int->Int->V):R2:=λ x y H Q=>∃ i j,x = .int i/\y = .int j/\Q (g i j) H
section
variable {X:Cx}{a b c:Expr}{ta tb tc:TE}{pos:Pos}
theorem binT (ha:PE X a ta)(hb:PE X b tb){pins:List (Addr×Obj)}{s:Shared}{σ:St}{H:Hp}{R:V->V->Hp->Prop}(I:Inv X pins σ H s)(h:ta σ H λ x H1=>tb σ H1 λ y H2=>R x y H2){Q:Value->Shared->Prop}{f:Value->Value->Sem Value}(hf:∀ v u s2 x y H2,Inv X pins σ H2 s2->ZM x v->ZM y u->R x y H2->wpAny (model X.prog X.w) X.A (f v u) Q X.xe s2) :
    wpAny (model X.prog X.w) X.A (eval a X.env) (λ v s₁=>wpAny (model X.prog X.w) X.A (eval b X.env) (λ u s₂=>wpAny (model X.prog X.w) X.A (f v u) Q X.xe s₂) X.xe s₁) X.xe s:=by
  refine thn (ha pins s σ H _ I h) λ v s1 zz9=>?_;obtain⟨x,H1,I1,r1,q1⟩:=zz9;refine thn (hb pins s1 σ H1 _ I1 q1) λ u s2 zz9=>?_;obtain⟨y,H2,I2,r2,q2⟩:=zz9;exact hf v u s2 x y H2 I2 r1 r2 q2
theorem Zi {op:Operator}{r:R2}(ho:OpR X (binaryOp op) r)(ha:PE X a ta)(hb:PE X b tb):PE X (.BinOp a op b pos) (tOp r ta tb):=by
 refine⟨?_⟩;intro pins s σ H Q I h;exact wpAny_BinOp (binT ha hb I h λ v u s2 x y H2 I2 rx ry q=>ho pins s2 σ H2 x y v u Q I2 rx ry q)
theorem opI {f:Value->Value->Sem Value}{C:Int->Int->Prop}{g:Int->Int->Int}(rule:∀(i j:Int)(t u:Tok)(s:Shared)(Q:Value->Shared->Prop)(E:Value->Shared->Prop),C i j->Q (.int (g i j) s.toks) { s with toks:=s.toks+1 }->wpAny (model X.prog X.w) X.A (f (.int i t) (.int j u)) Q E s) :
    OpR X f (rI C λ i j => .int (g i j)):=by
  intro pins s σ H x y v u Q I rx ry h;obtain⟨i,j,rfl,rfl,hc,q⟩:=h;obtain⟨t,rfl⟩:=rx;obtain⟨t',rfl⟩:=ry;exact rule i j t t' s _ _ hc ⟨.int (g i j),H,I.tok _,⟨_,rfl⟩,q⟩
theorem opI0 {f:Value->Value->Sem Value}{g:Int->Int->Int}(rule:∀(i j:Int)(t u:Tok)(s:Shared)(Q:Value->Shared->Prop)(E:Value->Shared->Prop),Q (.int (g i j) s.toks) { s with toks:=s.toks+1 }->wpAny (model X.prog X.w) X.A (f (.int i t) (.int j u)) Q E s) :
    OpR X f (rI0 λ i j => .int (g i j)):=by
  intro pins s σ H x y v u Q I rx ry h;obtain⟨i,j,rfl,rfl,q⟩:=h;obtain⟨t,rfl⟩:=rx;obtain⟨t',rfl⟩:=ry;exact rule i j t t' s _ _ ⟨.int (g i j),H,I.tok _,⟨_,rfl⟩,q⟩
theorem opB0 {f:Value->Value->Sem Value}{g:Int->Int->Bool}(rule:∀(i j:Int)(t u:Tok)(s:Shared)(Q:Value->Shared->Prop)(E:Value->Shared->Prop),Q (.bool (g i j)) s->wpAny (model X.prog X.w) X.A (f (.int i t) (.int j u)) Q E s) :
    OpR X f (rI0 λ i j => .bl (g i j)):=by
  intro pins s σ H x y v u Q I rx ry h;obtain⟨i,j,rfl,rfl,q⟩:=h;obtain⟨t,rfl⟩:=rx;obtain⟨t',rfl⟩:=ry;exact rule i j t t' s _ _ ⟨.bl (g i j),H,I,rfl,q⟩
noncomputable def CDiv (i j:Int):Prop:=0<j/\j<1073741824
noncomputable def CPow (i j:Int):Prop:=0<=j/\j<=1000000/\i.natAbs<2 ^ 64
noncomputable def CMul (i j:Int):Prop:=(-(2 ^ 64)<i/\i<2 ^ 64)\/(-(2 ^ 64)<j/\j<2 ^ 64)
theorem CMul.ok {i j:Int}(h:CMul i j):IntMulOk i j:=by
  rcases h with ⟨h1,h2⟩|⟨h1,h2⟩
  . exact .of_left (intBits_le_64 h1 h2)
  . exact .of_right (intBits_le_64 h1 h2)
theorem ZL:OpR X (binaryOp .Add) (rI0 λ i j => .int (i+j)):=opI0 λ _ _ _ _ _ _ _ q=>add_int q
theorem Zay:OpR X (binaryOp .Mult) (rI CMul λ i j => .int (i * j)):=opI λ _ _ _ _ _ _ _ hc q=>mul_int q hc.ok
theorem ZD:OpR X (binaryOp .FloorDiv) (rI CDiv λ i j => .int (i / j)):=opI λ i j _ _ _ _ _ hc q=>by
 have h1:(0:Int)<j:=hc.1;have h2:j<1073741824:=hc.2;exact floordiv_int (by omega) (by rw[Int.fdiv_eq_ediv_of_nonneg i (by omega)];exact q) (.inl (PyProof.noPylong_small (by omega)))
theorem ZJ:OpR X (binaryOp .Mod) (rI (λ _ j=>0<j) λ i j => .int (i % j)):=opI λ i j _ _ _ _ _ hc q=>by
 have h1:(0:Int)<j:=hc;exact mod_int' (by omega) (by rw[Int.fmod_eq_emod_of_nonneg i (by omega)];exact q)
theorem op_pow:OpR X (binaryOp .Pow) (rI CPow λ i j => .int (i ^ j.toNat)):=opI λ _ _ _ _ _ _ _ hc q=>pow_int_small hc.1 hc.2.1 hc.2.2 q
end
noncomputable def scal:V->V->Bool
  |.non, .non=>true|.non, .int _=>true|.int _, .non=>true|.non, .bl _=>true|.bl _, .non=>true|.non, .str _=>true|.str _, .non=>true
  |.int _, .int _=>true|.bl _, .bl _=>true|.str _, .str _=>true|.byt _, .byt _=>true
  |.int _, .str _=>true|.str _, .int _=>true|.bl _, .str _=>true|.str _, .bl _=>true
  |_,_=>false
noncomputable def rEq:R2:=λ x y H Q=>scal x y=true/\Q (.bl (decide (x=y))) H
noncomputable def rNe:R2:=λ x y H Q=>scal x y=true/\Q (.bl (!decide (x=y))) H
theorem Zd2 {i j:Int}:decide (V.int i=V.int j)=(i == j):=by
 rw[Bool.eq_iff_iff];simp
theorem ZfA {i j:Bool}:decide (V.bl i=V.bl j)=(i == j):=by
 rw[Bool.eq_iff_iff];simp
theorem Zd1 {i j:Str}:decide (V.str i=V.str j)=(i == j):=by
 rw[Bool.eq_iff_iff];simp
theorem Zd3 {i j:Array UInt8}:decide (V.byt i=V.byt j)=(i.toList == j.toList):=by
 rw[Bool.eq_iff_iff];cases i;cases j;simp
section
variable {X:Cx}{a b c:Expr}{ta tb tc:TE}{pos:Pos}
theorem ZA {pins:List (Addr×Obj)}{σ:St}{H:Hp}{s:Shared}{Q:VK}{k k':Bool}(I:Inv X pins σ H s)(q:Q (.bl k) H)(e:k=k'):EP X pins σ Q (.bool k') s:=by
 subst e;exact⟨.bl k,H,I,rfl,q⟩
theorem Z0:OpR X (compareOp .Eq) rEq:=by
  intro pins s σ H x y v u Q I rx ry h;obtain⟨hs,q⟩:=h;cases x with
  |non=>
    cases rx;cases y with
    |non=>cases ry;exact PySem.EqNone.eq_none_none (ZA I q (by simp))
    |bl j=>cases ry;exact PySem.EqNone.eq_none_bool (ZA I q (by simp))
    |int j=>obtain⟨t',rfl⟩:=ry;exact PySem.EqNone.eq_none_int (ZA I q (by simp))
    |str j=>obtain⟨t',rfl⟩:=ry;exact PySem.EqNone.eq_none_str (ZA I q (by simp))
    |_=>exact absurd (show false=true from hs) Bool.false_ne_true
  |bl i=>
    cases rx;cases y with
    |non=>cases ry;exact PySem.EqNone.eq_bool_none (ZA I q (by simp))
    |bl j=>cases ry;exact eq_bool (ZA I q ZfA)
    |str j=>obtain⟨t',rfl⟩:=ry;exact PySem.EqMixed.eq_bool_str (ZA I q (by simp))
    |_=>exact absurd (show false=true from hs) Bool.false_ne_true
  |int i=>
    obtain⟨t,rfl⟩:=rx;cases y with
    |non=>cases ry;exact PySem.EqNone.eq_int_none (ZA I q (by simp))
    |int j=>obtain⟨t',rfl⟩:=ry;exact eq_int (ZA I q Zd2)
    |str j=>obtain⟨t',rfl⟩:=ry;exact PySem.EqMixed.eq_int_str (ZA I q (by simp))
    |_=>exact absurd (show false=true from hs) Bool.false_ne_true
  |str i=>
    obtain⟨t,rfl⟩:=rx;cases y with
    |non=>cases ry;exact PySem.EqNone.eq_str_none (ZA I q (by simp))
    |bl j=>cases ry;exact PySem.EqMixed.eq_str_bool (ZA I q (by simp))
    |int j=>obtain⟨t',rfl⟩:=ry;exact PySem.EqMixed.eq_str_int (ZA I q (by simp))
    |str j=>obtain⟨t',rfl⟩:=ry;exact eq_str (ZA I q Zd1)
    |_=>exact absurd (show false=true from hs) Bool.false_ne_true
  |byt i=>
    obtain⟨t,rfl⟩:=rx;cases y with
    |byt j=>obtain⟨t',rfl⟩:=ry;exact PySem.W.eq_bytes (ZA I q Zd3)
    |_=>exact absurd (show false=true from hs) Bool.false_ne_true
  |_=>cases y <;> exact absurd (show false=true from hs) Bool.false_ne_true
theorem Zac:OpR X (compareOp .NotEq) rNe:=by
  intro pins s σ H x y v u Q I rx ry h;obtain⟨hs,q⟩:=h;cases x with
  |non=>
    cases rx;cases y with
    |non=>cases ry;exact PySem.EqNone.ne_none_none (ZA I q (by simp))
    |bl j=>cases ry;exact PySem.EqNone.ne_none_bool (ZA I q (by simp))
    |int j=>obtain⟨t',rfl⟩:=ry;exact PySem.EqNone.ne_none_int (ZA I q (by simp))
    |str j=>obtain⟨t',rfl⟩:=ry;exact PySem.EqNone.ne_none_str (ZA I q (by simp))
    |_=>exact absurd (show false=true from hs) Bool.false_ne_true
  |bl i=>
    cases rx;cases y with
    |non=>cases ry;exact PySem.EqNone.ne_bool_none (ZA I q (by simp))
    |bl j=>cases ry;exact ne_bool (ZA I q (congrArg not ZfA))
    |str j=>obtain⟨t',rfl⟩:=ry;exact PySem.EqMixed.ne_bool_str (ZA I q (by simp))
    |_=>exact absurd (show false=true from hs) Bool.false_ne_true
  |int i=>
    obtain⟨t,rfl⟩:=rx;cases y with
    |non=>cases ry;exact PySem.EqNone.ne_int_none (ZA I q (by simp))
    |int j=>obtain⟨t',rfl⟩:=ry;exact ne_int (ZA I q (congrArg not Zd2))
    |str j=>obtain⟨t',rfl⟩:=ry;exact PySem.EqMixed.ne_int_str (ZA I q (by simp))
    |_=>exact absurd (show false=true from hs) Bool.false_ne_true
  |str i=>
    obtain⟨t,rfl⟩:=rx;cases y with
    |non=>cases ry;exact PySem.EqNone.ne_str_none (ZA I q (by simp))
    |bl j=>cases ry;exact PySem.EqMixed.ne_str_bool (ZA I q (by simp))
    |int j=>obtain⟨t',rfl⟩:=ry;exact PySem.EqMixed.ne_str_int (ZA I q (by simp))
    |str j=>obtain⟨t',rfl⟩:=ry;exact ne_str (ZA I q (congrArg not Zd1))
    |_=>exact absurd (show false=true from hs) Bool.false_ne_true
  |byt i=>
    obtain⟨t,rfl⟩:=rx;cases y with
    |byt j=>obtain⟨t',rfl⟩:=ry;exact PySem.W.ne_bytes (ZA I q (congrArg not Zd3))
    |_=>exact absurd (show false=true from hs) Bool.false_ne_true
  |_=>cases y <;> exact absurd (show false=true from hs) Bool.false_ne_true
theorem Zfd:OpR X (compareOp .Lt) (rI0 λ i j => .bl (decide (i<j))):=opB0 λ _ _ _ _ _ _ _ q=>lt_int q
theorem Zca:OpR X (compareOp .LtE) (rI0 λ i j => .bl (decide (i<=j))):=opB0 λ _ _ _ _ _ _ _ q=>le_int q
theorem ZdV:OpR X (compareOp .Gt) (rI0 λ i j => .bl (decide (j<i))):=opB0 λ _ _ _ _ _ _ _ q=>gt_int q
theorem op_ge:OpR X (compareOp .GtE) (rI0 λ i j => .bl (decide (j<=i))):=opB0 λ _ _ _ _ _ _ _ q=>ge_int q
theorem Zeo:OpR X (compareOp .Lt) (λ x y H Q=>∃ i j,x = .str i/\y = .str j/\Q (.bl (decide (i.cps.toList<j.cps.toList))) H):=by
 intro pins s σ H x y v u Q I rx ry h;obtain⟨i,j,rfl,rfl,q⟩:=h;obtain⟨t,rfl⟩:=rx;obtain⟨t',rfl⟩:=ry;exact lt_str (ZA I q rfl)
theorem Zep:OpR X (compareOp .In) (λ x y H Q=>∃ i j,x = .str i/\y = .str j/\Q (.bl (!(Builtin.Str.occurrences j i 0 j.length 1).isEmpty)) H):=by
 intro pins s σ H x y v u Q I rx ry h;obtain⟨i,j,rfl,rfl,q⟩:=h;obtain⟨t,rfl⟩:=rx;obtain⟨t',rfl⟩:=ry;exact in_str (ZA I q rfl)
theorem ZdU:OpR X (compareOp .IsNot) (λ x y H Q=>y = .non/\Q (.bl (!decide (x = .non))) H):=by
  intro pins s σ H x y v u Q I rx ry h;obtain⟨rfl,q⟩:=h;cases ry;refine isnot_none_gen (ZA I q ?_);cases x <;> first
    | (cases rx;rfl)
    | (obtain⟨t,rfl⟩:=rx;rfl)
theorem Zu (b:Expr){op:CmpOp}(h:op ≠ .In:=by decide)(h2:op ≠ .NotIn:=by decide):behindInMarks op b=false:=by
 have e1:(op == CmpOp.In)=false:=by cases op <;> first|rfl|exact absurd rfl h
 have e2:(op == CmpOp.NotIn)=false:=by cases op <;> first|rfl|exact absurd rfl h2
 cases b <;> simp[behindInMarks,e1,e2]
theorem YK {op:CmpOp}{r:R2}(ho:OpR X (compareOp op) r)(ha:PE X a ta)(hb:PE X b tb)(hm:behindInMarks op b=false):PE X (.Compare a [op] [b] pos) (tOp r ta tb):=by
 refine⟨?_⟩;intro pins s σ H Q I h;exact wpAny_Compare1 (binT ha hb I h λ v u s2 x y H2 I2 rx ry q=>ho pins s2 σ H2 x y v u Q I2 rx ry q) hm
noncomputable def tTest (t:TE):TT:=λ σ H Q=>t σ H λ x H'=>∃ k,x = .bl k/\Q k H'
theorem Zo {op:CmpOp}{r:R2}(ho:OpR X (compareOp op) r)(ha:PE X a ta)(hb:PE X b tb)(hm:behindInMarks op b=false):PT X (.Compare a [op] [b] pos) (tTest (tOp r ta tb)):=by
  refine⟨?_⟩;intro pins s σ H Q I h;refine wpAny_isTrue_Compare1 (thn (ha pins s σ H _ I h) λ v s1 ⟨x,H1,I1,r1,q1⟩=>thn (hb pins s1 σ H1 _ I1 q1) λ u s2 ⟨y,H2,I2,r2,q2⟩=>
    thn (ho pins s2 σ H2 x y v u _ I2 r1 r2 q2) λ c s3 ⟨z,H3,I3,r3,k,e,q3⟩=>?_) hm
  subst e;cases r3;exact wpAny_truthy_bool ⟨H3,I3,q3⟩
noncomputable def tChain (r r':R2)(ta tb tc:TE):TE:=λ σ H Q=>ta σ H λ x H1=>tb σ H1 λ y H2=>r x y H2 λ z H3=>∃ k,z = .bl k /\
 (if k=true then tc σ H3 λ w' H4=>r' y w' H4 Q else Q (.bl false) H3)
theorem Zbv {op op':CmpOp}{r r':R2}(ho:OpR X (compareOp op) r)(ho':OpR X (compareOp op') r')(ha:PE X a ta)(hb:PE X b tb)(hc:PE X c tc)(hm:lastMarks [op,op'] [b,c]=false:=by with_unfolding_all rfl):PE X (.Compare a [op,op'] [b,c] pos) (tChain r r' ta tb tc):=by
  refine⟨?_⟩;intro pins s σ H Q I h;refine Compare_chain (thn (ha pins s σ H _ I h) λ v s1 ⟨x,H1,I1,r1,q1⟩=>chain_link (thn (hb pins s1 σ H1 _ I1 q1) λ u s2 ⟨y,H2,I2,r2,q2⟩=>
    thn (ho pins s2 σ H2 x y v u _ I2 r1 r2 q2) λ d s3 ⟨z,H3,I3,r3,k,e,q3⟩=>?_)) hm
  subst e;cases r3;refine wpAny_truthy_bool ?_;cases k with
  |false=>exact ite_ff ⟨.bl false,H3,I3,rfl,q3⟩
  |true=>exact ite_tt (chain_last (thn (hc pins s3 σ H3 _ I3 q3) λ w' s4 ⟨z',H4,I4,r4,q4⟩=>ho' pins s4 σ H4 y z' u w' Q I4 r2 r4 q4))
noncomputable def TruV (K:Frag)(x:V)(H:Hp)(k:Bool):Prop:=
  match x with
  |.non=>k=false
  |.bl b=>k=b
  |.int i=>k=(i != 0)
  |.str y=>y.length<=sizeLine/\k=((y.length:Int) != 0)
  |.byt y=>y.size<=sizeLine/\k=((y.size:Int) != 0)
  |.ref p=>(∃ xs,SqL K H p xs/\k = !xs.isEmpty)\/(∃ xs,SqT K H p xs/\k = !xs.isEmpty)\/∃ kvs,H p=some (.dK kvs)/\k = !kvs.isEmpty
  |_=>False
theorem ZdF {κ:Type}{kvs:List (κ×V)}{vs:List (κ×Value)}(r:KV kvs vs):(!vs.isEmpty) = !kvs.isEmpty:=by
 cases r <;> rfl
theorem ZbF {xs:List V}{its:List Value}(r:ZH xs its):(!its.toArray.isEmpty) = !xs.isEmpty:=by
 cases r <;> simp
theorem ZbC:(sizeLine:Nat)<2 ^ 63:=by rw[sizeLine_eq];decide
theorem tru_ok:TruR X (λ x H Q=>∃ k,TruV X.K x H k/\Q k H):=by
  intro pins s σ H x v Q I rx h;obtain⟨k,e,q⟩:=h;have hl:=ZbC;have hs:sizeLine=16777216:=sizeLine_eq;cases x with
  |non=>
    cases rx;have e':k=false:=e;subst e';exact truthy_none ⟨H,I,q⟩
  |bl b=>
    cases rx;have e':k=b:=e;subst e';exact wpAny_truthy_bool ⟨H,I,q⟩
  |int i=>
    obtain⟨t,rfl⟩:=rx;have e':k=(i != 0):=e;subst e';exact PySem.P.truthy_int ⟨H,I,q⟩
  |str y=>
    obtain⟨t,rfl⟩:=rx;obtain⟨hy,e'⟩:y.length<=sizeLine/\k=((y.length:Int) != 0):=e;subst e';exact PySem.P.truthy_str (by omega) ⟨H,I.tok _,q⟩
  |byt y=>
    obtain⟨t,rfl⟩:=rx;obtain⟨hy,e'⟩:y.size<=sizeLine/\k=((y.size:Int) != 0):=e;subst e';exact PySem.W.truthy_bytes (by omega) ⟨H,I.tok _,q⟩
  |ref p=>
    cases rx;have e':(∃ xs,SqL X.K H p xs/\k = !xs.isEmpty)\/(∃ xs,SqT X.K H p xs/\k = !xs.isEmpty)\/∃ kvs,H p=some (.dK kvs)/\k = !kvs.isEmpty:=e;rcases e' with ⟨xs,hx,e'⟩|⟨xs,hx,e'⟩|⟨kvs,hx,e'⟩
    . subst e';obtain⟨its,r,pl,hz⟩:=I.list hx;have hlen:=r.length;exact wpAny_truthy_list pl.isList (by simp only[size_toArray];omega) ⟨H,I.tok _,by rw[ZbF r];exact q⟩
    . subst e';obtain⟨its,r,pl,hz⟩:=I.tuple hx;have hlen:=r.length;exact truthy_tuple pl (by simp only[size_toArray];omega) ⟨H,I.tok _,by rw[ZbF r];exact q⟩
    . subst e';obtain⟨hz,hS,vs,r,m⟩:kvs.length<=sizeLine/\(p == sysModules)=false/\∃ vs,KV kvs vs/\s.heap.DictOf (Yr X.prog X.w) p vs:=I.hok p _ hx;have hlen:kvs.length=vs.length:=Paired.length r;exact wpAny_truthy_dict hS m (by omega) ⟨H,I.tok _,by rw[ZdF r];exact q⟩
  |_=>exact(show False from e).elim
theorem Ze5 (ha:PE X a ta)(he:∀ whole,isTrue a X.env whole=(do let v <- whole;standAt a.pos;holding [v] (truthy v))) :
    PT X a (λ σ H Q=>ta σ H λ x H'=>∃ k,TruV X.K x H' k/\Q k H'):=by
  refine⟨?_⟩;intro pins s σ H Q I h;exact isTrue_plain (thn (ha pins s σ H _ I h) λ v s1 ⟨x,H1,I1,r1,q1⟩=>tru_ok pins s1 σ H1 x v Q I1 r1 q1) (he _)
theorem Zt:OpR X (binaryOp .Add) (λ x y H Q=>∃ i j,x = .str i/\y = .str j/\i.length+j.length<=sizeLine/\Q (.str (i++j)) H):=by
 intro pins s σ H x y v u Q I rx ry h;obtain⟨i,j,rfl,rfl,hz,q⟩:=h;obtain⟨t,rfl⟩:=rx;obtain⟨t',rfl⟩:=ry;exact add_str (λ t' tk=>⟨.str (i++j),H,I.tok _,⟨_,rfl⟩,q⟩) hz
theorem Xz {x:V}{us:List Value}(r:ZH [x] us):∃ u,us=[u]/\ZM x u:=by
  cases r with
  |cons r1 r2=>cases r2;exact⟨_,rfl,r1⟩
theorem vals2 {x y:V}{us:List Value}(r:ZH [x,y] us):∃ u w',us=[u,w']/\ZM x u/\ZM y w':=by
  cases r with
  |cons r1 r2=>
    cases r2 with
    |cons r3 r4=>cases r4;exact⟨_,_,rfl,r1,r3⟩
theorem ZeH (hc:X.calm=true):YX X (.builtin "min") (λ xs H Q=>∃ i j,xs=[.int i, .int j]/\Q (.int (if j<i then j else i)) H):=by
  intro pins s σ H xs us Q I r h;obtain⟨i,j,rfl,q⟩:=h;obtain⟨u,w',rfl,⟨t,rfl⟩,⟨t',rfl⟩⟩:=vals2 r;refine min_two_ints (I.ok.hd hc) λ h' tk k=>⟨_,H,I.kept k,?_,q⟩
  by_cases hj:j<i
  . rw[if_pos hj,if_pos hj];exact⟨_,rfl⟩
  . rw[if_neg hj,if_neg hj];exact⟨_,rfl⟩
theorem Zci:YX X (.type "int") (λ xs H Q=>(∃ i,xs=[.int i]/\Q (.int i) H)\/∃ k,xs=[.bl k]/\Q (.int (if k then 1 else 0)) H):=by
  intro pins s σ H xs us Q I r h;rcases h with ⟨i,rfl,q⟩|⟨k,rfl,q⟩
  . obtain⟨u,rfl,t,rfl⟩:=Xz r;exact call_int_int ⟨.int i,H,I,⟨_,rfl⟩,q⟩
  . obtain⟨u,rfl,r1⟩:=Xz r;cases r1;exact call_int_bool ⟨.int (if k then 1 else 0),H,I.tok _,⟨_,rfl⟩,q⟩
theorem Xv:YX X (.type "str") (λ xs H Q=>∃ i,xs=[.int i]/\i.natAbs.log2<1920/\Q (.str (toString i)) H):=by
 intro pins s σ H xs us Q I r h;obtain⟨i,rfl,hz,q⟩:=h;obtain⟨u,rfl,t,rfl⟩:=Xz r;exact PySem.P.str_of_int hz ⟨.str _,H,I.tok _,⟨_,rfl⟩,q⟩
noncomputable def LenV (K:Frag)(x:V)(H:Hp)(n:Nat):Prop:=
  match x with
  |.str y=>y.length<=sizeLine/\n=y.length
  |.byt y=>y.size<=sizeLine/\n=y.size
  |.ref p=>(∃ xs,SqL K H p xs/\n=xs.length)\/∃ xs,SqT K H p xs/\n=xs.length
  |_=>False
theorem Zw:YX X (.builtin "len") (λ xs H Q=>∃ x n,xs=[x]/\LenV X.K x H n/\Q (.int n) H):=by
  intro pins s σ H xs us Q I r h;obtain⟨x,n,rfl,e,q⟩:=h;obtain⟨u,rfl,rx⟩:=Xz r;have hl:=ZbC;have hs:sizeLine=16777216:=sizeLine_eq;cases x with
  |str y=>
    obtain⟨t,rfl⟩:=rx;obtain⟨hy,e'⟩:y.length<=sizeLine/\n=y.length:=e;subst e';exact len_str (by omega) ⟨.int _,H,I.tok _,⟨_,rfl⟩,q⟩
  |byt y=>
    obtain⟨t,rfl⟩:=rx;obtain⟨hy,e'⟩:y.size<=sizeLine/\n=y.size:=e;subst e';exact PySem.W.len_bytes (by omega) ⟨.int _,H,I.tok _,⟨_,rfl⟩,q⟩
  |ref p=>
    cases rx;have e':(∃ xs,SqL X.K H p xs/\n=xs.length)\/∃ xs,SqT X.K H p xs/\n=xs.length:=e;rcases e' with ⟨xs,hx,e'⟩|⟨xs,hx,e'⟩
    . subst e';obtain⟨its,r',pl,hz⟩:=I.list hx;have hlen:=r'.length;exact Calls.call_len_list pl.isList (by simp only[size_toArray];omega) ⟨.int xs.length,H,I.tok _,⟨_,by simp only[size_toArray];rw[hlen]⟩,q⟩
    . subst e';obtain⟨its,r',pl,hz⟩:=I.tuple hx;have hlen:=r'.length;exact len_tuple pl (by simp only[size_toArray];omega) ⟨.int xs.length,H,I.tok _,⟨_,by simp only[size_toArray];rw[hlen]⟩,q⟩
  |_=>exact(show False from e).elim
end
open PySem PySem.Spec PyProof.Rows
structure ObjM (h:Heap)(x dx C:Addr)(mA:Str->Option Value):Prop where
  obj:h.get? x=some (instObj C dx)
  ns:h.Ns1 dx mA
  ne:dx≠x
theorem Zew {h:Heap}{dx:Addr}{mA:Str->Option Value}(n:h.Ns1 dx mA):∃ od,h.get? dx=some od/\∀ name,lookIn name od=some (mA name):=by
  obtain⟨o,es,ep,ho,hd,hk,_,hm⟩:=n;refine⟨o,ho,λ name=>?_⟩;have e:=hm name;unfold nsFind findBy at e;rw[<- Array.find?_toList]at e;unfold lookIn;rw[hd];dsimp only;split
  . rename_i y q;rw[q]at e;exact congrArg some e
  . rename_i q;rw[q]at e;have a:es.toList.any (·.refKey)=false:=by
      rw[List.any_eq_false];intro y hy;obtain⟨z,t,hkey⟩:=hk y (Array.mem_toList_iff.mp hy);simp[DictEntry.refKey,hkey]
    have a':¬ es.toList.any (·.refKey)=true:=by rw[a];exact Bool.false_ne_true
    rw[if_neg a'];exact congrArg some e
theorem ObjM.look {h:Heap}{x dx C:Addr}{mA:Str->Option Value}(I:ObjM h x dx C mA):∃ od,PySem.W.InstAt h x (instObj C dx) C (some od)/\∀ name,lookIn name od=some (mA name):=
 let ⟨od,ho,hl⟩:=Zew I.ns
 ⟨od,⟨I.obj,rfl,rfl,ho⟩,hl⟩
section
variable {prog:Program}{w:World}{A:Around}{E:Value->Shared->Prop}{s:Shared}{K:Frag}{x dx C f:Addr}{mA:Str->Option Value}{name:Str}{v:Value}
end
theorem ZcW.some_of {v:V}{o:Option Value}(r:ZcW (some v) o):∃ u,o=some u/\ZM v u:=by
  cases o with
  |none=>exact(show False from r).elim
  |some u=>exact⟨u,rfl,r⟩
section
variable {P:Program}{w:World}{H H':Hp}{h h':Heap}{a C dx:Addr}{fs fs':List (Str×V)}
theorem Zf8 (hok:HOk P w H h)(e:H a=some (.ins C dx fs)):∃ mA,ObjM h a dx C mA/\(∀ f,ZcW (fs.lookup f) (mA f))/\PySem.Within mA (fs.map (·.1))/\fs.length<=1000/\H dx=some (.own a):=by
 obtain⟨d,z,ne,ob,mA,n,r,q⟩:=(show Z2 P w H h a (.ins C dx fs) from hok a _ e);exact⟨mA,⟨ob,n,ne⟩,r,q,z,d⟩
end
structure Cls (K:Frag)(C:Addr):Prop where
  pg:plainGet K C Str.empty=true
  hd:PySem.W.hasDictIn K C=true
  po:PySem.W.plainOver K C=true
  sa:findIn K (.ref C) "__setattr__"=some (some (.builtin "object.__setattr__"))
theorem Cls.get {K:Frag}{C:Addr}(c:Cls K C)(f:Str):plainGet K C f=true:=c.pg
section
variable {X:Cx}{pins:List (Addr×Obj)}{σ:St}{H:Hp}{s:Shared}{a C dx:Addr}{fs:List (Str×V)}{f:Str}{v:V}{A:Around}{E:Value->Shared->Prop}
end
section
variable {X:Cx}{o e value:Expr}{f:Str}{pos pos' tpos:Pos}{ta tv:TE}
end
section
variable {X:Cx}{pins:List (Addr×Obj)}{σ:St}{H:Hp}{s:Shared}{A:Around}{E:Value->Shared->Prop}{Q:Value->Shared->Prop}{c:Value}{b:Bool}
inductive TyOf (K:Frag)(H:Hp):V->Value->Prop where
  | non:TyOf K H .non (.type "NoneType")
  | bl (x:Bool):TyOf K H (.bl x) (.type "bool")
  | int (i:Int):TyOf K H (.int i) (.type "int")
  | str (x:Str):TyOf K H (.str x) (.type "str")
  | flt (x:UInt64):TyOf K H (.flt x) (.type "float")
  | lst {a:Addr} {xs:List V} (e:H a=some (.lst xs)):TyOf K H (.ref a) (.type "list")
  | frz {a:Addr} {o:Obj} {xs:List V} (e:H a=some (.frz o (.lst xs))):TyOf K H (.ref a) (.type "list")
  | tup {a:Addr} {xs:List V} (e:H a=some (.tup xs)):TyOf K H (.ref a) (.type "tuple")
  | dK {a:Addr} {kvs:List (Key×V)} (e:H a=some (.dK kvs)):TyOf K H (.ref a) (.type "dict")
  | dT {a:Addr} {kvs:List (List Key×V)} (e:H a=some (.dT kvs)):TyOf K H (.ref a) (.type "dict")
  | ins {a C dx:Addr} {fs:List (Str×V)} (e:H a=some (.ins C dx fs)) (cl:Cls K C) (ha:findIn K (.ref C) "__class__"=some (some (.builtin "object.__class__")))
      (hn:PySem.W.specialIn K (.builtin "object.__class__") "__get__"=some (some (.builtin "getset_descriptor.__get__"))) (htk:PySem.W.takesIn K (.builtin "object.__class__")=some true)
      (hm:PySem.W.mroIn K C (.type "object")=some true):TyOf K H (.ref a) (.ref C)
theorem Zez {x:V}{u t:Value}(I:Inv X pins σ H s)(rx:ZM x u)(ty:TyOf X.K H x t)(e:PySem.W.kitOne X.K t c=some b)(h:∀ tk,Q (.bool b) { s with toks:=tk }) :
    wpAny (model X.prog X.w) A (call (.builtin "isinstance") [u,c]) Q E s:=by
  cases ty with
  |non=>cases (show u=Value.none from rx);exact PySem.W.kia_one PySem.W.kitx_none I.kIn True.intro e (λ z=>nomatch z) h
  |bl y=>cases (show u=Value.bool y from rx);exact PySem.W.kia_one PySem.W.kitx_bool I.kIn True.intro e (λ z=>nomatch z) h
  |int i=>obtain⟨t,q⟩:=(show ∃ t,u=Value.int i t from rx);cases q;exact PySem.W.kia_one PySem.W.kitx_int I.kIn True.intro e (λ z=>nomatch z) h
  |str y=>obtain⟨t,q⟩:=(show ∃ t,u=Value.str y t from rx);cases q;exact PySem.W.kia_one PySem.W.kitx_str I.kIn True.intro e (λ z=>nomatch z) h
  |flt y=>obtain⟨t,q⟩:=(show ∃ t,u=Value.float y t from rx);cases q;exact PySem.W.kia_one PySem.W.kitx_float I.kIn True.intro e (λ z=>nomatch z) h
  |@lst a xs ea=>
    cases (show u=Value.ref a from rx);obtain⟨_,_,n,_,h1⟩:=(show Z2 X.prog X.w H s.heap a (.lst xs) from I.hok a _ ea);exact PySem.W.kia_one PySem.W.kitx_list I.kIn ⟨_,h1,rfl⟩ e (λ z=>nomatch z) h
  |@frz a ob xs ea=>
    cases (show u=Value.ref a from rx);obtain⟨_,_,_,n,_,h1⟩:=(show Z2 X.prog X.w H s.heap a (.frz ob (.lst xs)) from I.hok a _ ea);exact PySem.W.kia_one PySem.W.kitx_list I.kIn ⟨_,h1,rfl⟩ e (λ z=>nomatch z) h
  |@tup a xs ea=>
    cases (show u=Value.ref a from rx);obtain⟨_,_,_,p⟩:=(show Z2 X.prog X.w H s.heap a (.tup xs) from I.hok a _ ea);obtain⟨o,h1,h2,_⟩:=p;exact PySem.W.kia_one PySem.W.kitx_tuple I.kIn ⟨o,h1,h2⟩ e (λ z=>nomatch z) h
  |@dK a kvs ea=>
    cases (show u=Value.ref a from rx);obtain⟨_,_,vs,_,p⟩:=(show Z2 X.prog X.w H s.heap a (.dK kvs) from I.hok a _ ea);obtain⟨o,es,ep,h1,h2,_⟩:=p;exact PySem.W.kia_one PySem.W.kitx_dict I.kIn ⟨o,h1,h2.1⟩ e (λ z=>nomatch z) h
  |@dT a kvs ea=>
    cases (show u=Value.ref a from rx);obtain⟨_,_,xs,_,o,es,ep,h1,h2,_⟩:=(show Z2 X.prog X.w H s.heap a (.dT kvs) from I.hok a _ ea);exact PySem.W.kia_one PySem.W.kitx_dict I.kIn ⟨o,h1,h2.1⟩ e (λ z=>nomatch z) h
  |@ins a C dx fs ea cl ha hn htk hm=>
    cases (show u=Value.ref a from rx);obtain⟨mA,O,_⟩:=Zf8 I.hok ea;obtain⟨od,J,_⟩:=O.look;exact PySem.W.kia_one (PySem.W.kitx_own (cl.get _) cl.hd ha hn htk hm) I.kIn J e (λ z=>nomatch z) h
end
open PySem PySem.Spec PyProof.Rows
structure Room (k:Nat)(A:Around):Prop where
  hd:A.handled=none
  dp:A.depth+3 * k+5<recursionLimit
  un:A.units+16 * k+200<cLine
theorem Room.mono {j k:Nat}{A:Around}(r:Room k A)(h:j<=k):Room j A:=⟨r.hd,by have:=r.dp;omega,by have:=r.un;omega⟩
theorem Room.deeper {k:Nat}{A:Around}(r:Room (k+1) A)(env:Env):Room k (A.deeper env):=
 ⟨r.hd,by have:=r.dp;show A.depth+1+3 * k+5<_;omega,by have:=r.un;show A.units+3+16 * k+200<_;omega⟩
theorem Room.depth {k:Nat}{A:Around}(r:Room k A):A.depth<recursionLimit:=by have:=r.dp;omega
theorem Room.units {k:Nat}{A:Around}(r:Room k A):A.units+64<cLine:=by have:=r.un;omega
noncomputable def tNil:TA:=λ _ H Q=>Q [] H
noncomputable def tCons (ta:TE)(tr:TA):TA:=λ σ H Q=>ta σ H λ x H1=>tr σ H1 λ xs H2=>Q (x::xs) H2
section
variable {X:Cx}{e:Expr}{es:List Expr}{te:TE}{t:TA}{pos:Pos}
theorem Zb:PA X [] tNil:=⟨λ _ _ _ _ H Q I h=>Calls.spliced_nil ⟨[],H,I, .nil,h⟩⟩
theorem Za (ha:PE X e te)(hr:PA X es t)(hs:starEach (e::es) X.env=(false,eval e X.env)::starEach es X.env:=by rfl):PA X (e::es) (tCons te t):=by
 refine⟨?_⟩;intro pos pins s σ H Q I h;rw[hs];show wpAny _ _ (spliced ((false,eval e X.env)::backTo pos (starEach es X.env))) _ _ s;refine Calls.spliced_cons (thn (ha pins s σ H _ I h) λ u s1 zz9=>?_);obtain⟨x,H1,I1,r1,q1⟩:=zz9;exact thn (hr pos pins s1 σ H1 _ I1 q1) λ us s2 ⟨xs,H2,I2,r2,q2⟩=>⟨x::xs,H2,I2, .cons r1 r2,q2⟩
noncomputable def tTup (t:TA):TE:=λ σ H Q=>t σ H λ xs H1=>xs.length<=sizeLine/\∀ p,H1 p=none->Q (.ref p) (upd H1 p (.tup xs))
noncomputable def tLst (t:TA):TE:=λ σ H Q=>t σ H λ xs H1=>xs.length<=sizeLine/\∀ p,H1 p=none->Q (.ref p) (upd H1 p (.lst xs))
theorem ZZ {x1}(h:PA X es t):PE X (.Tuple es x1 pos) (tTup t):=by
 refine⟨?_⟩;intro pins s σ H Q I hq;refine wpAny_Tuple_spliced (thn (h pos pins s σ H _ I hq) λ us s1 ⟨xs,H1,I1,r,z,q⟩=>⟨by rw[<- r.length];exact z,?_⟩);have hf:H1 s1.heap.objs.size=none:=I1.hok.fresh (le_refl _);refine⟨.ref s1.heap.objs.size,upd H1 s1.heap.objs.size (.tup xs),I1.laid (t':=s1.toks) (λ b u e=>Heap.get?_push_of_some _ e) (le_refl _) ?_,rfl,q _ hf⟩;exact⟨z,us,r,⟨_,Heap.get?_push_size _ rfl,rfl,_,rfl⟩⟩
theorem Ye (h:PA X es t):PE X (.List es pos) (tLst t):=by
 refine⟨?_⟩;intro pins s σ H Q I hq;refine wpAny_List_spliced (thn (h pos pins s σ H _ I hq) λ us s1 ⟨xs,H1,I1,r,z,q⟩=>⟨by rw[<- r.length];exact z,?_⟩);have hf:H1 s1.heap.objs.size=none:=I1.hok.fresh (le_refl _);refine⟨.ref s1.heap.objs.size,upd H1 s1.heap.objs.size (.lst xs),I1.laid (t':=s1.toks) (λ b u e=>Heap.get?_push_of_some _ e) (le_refl _) ?_,rfl,q _ hf⟩;exact⟨z,us,0,r,Heap.get?_push_size _ rfl⟩
end
noncomputable abbrev Sp:=List V->Hp->VK->XK->Prop
noncomputable abbrev CXT:=List Env->Hp->Shared->XK->Value->Shared->Prop
structure Env0 (P:Program)(w:World)(K:Frag)(mg:Str->Option Value)(base:Heap)(A:Around)(outer:List Env)(s:Shared)(H:Hp):Prop where
  frames:A.frames=some outer
  mod:Mod K mg base
  bs:∀ b o,base.get? b=some o->s.heap.get? b=some o/\H b=none
  bsz:base.objs.size<=s.heap.objs.size
  funs:s.heap.FunFrames base outer
  frf:∀ b∈frs outer,H b=none
  hok:HOk P w H s.heap
  bare:AllBare s.gens
noncomputable def CE (outer:List Env)(P:Program)(w:World)(H:Hp)(s:Shared)(Q:VK)(u:Value)(s':Shared):Prop:=
 ∃ v H',s'.os=s.os/\AllBare s'.gens/\Un (frs outer) [] H H' s.heap s'.heap/\HOk P w H' s'.heap/\ZM v u/\Q v H'
noncomputable def CR (CX:CXT)(outer:List Env)(P:Program)(w:World)(H:Hp)(s:Shared)(Q:VK)(E:XK)(r:Result)(s':Shared):Prop:=
  match r with
  |.ok (.ret u)=>CE outer P w H s Q u s'
  |.ok _=>False
  |.error e=>CX outer H s E e s'
structure FnOk (P:Program)(w:World)(K:Frag)(mg:Str->Option Value)(base:Heap)(CX:CXT)(k:Nat)(f:Addr)(fd:FuncData)(ps:List Str)(sp:Sp):Prop where
  len:∀ vs H Q E,sp vs H Q E->vs.length=ps.length
  run:∀(A:Around)(outer:List Env)(s:Shared)(H:Hp)(args:Args)(us:List Value)(vs:List V)(Q:VK)(E:XK),Room k A->Env0 P w K mg base A outer s H->BindsTo s fd args (ps.zip us)->ZH vs us->sp vs H Q E ->
    codeAny (model P w) A (.call (.ref f) args) (CR CX outer P w H s Q E) s
theorem FnOk.mono {P:Program}{w:World}{K:Frag}{mg:Str->Option Value}{base:Heap}{CX:CXT}{j k:Nat}{f:Addr}{fd:FuncData}{ps:List Str}{sp:Sp}(F:FnOk P w K mg base CX j f fd ps sp)(h:j<=k) :
    FnOk P w K mg base CX k f fd ps sp:=⟨F.len,λ A outer s H args us vs Q E hr=>F.run A outer s H args us vs Q E (hr.mono h)⟩
section
variable {X:Cx}{pins:List (Addr×Obj)}{σ:St}{H:Hp}{s s':Shared}
theorem Inv.env0 (I:Inv X pins σ H s):Env0 X.prog X.w X.K X.mg X.base X.A X.stack s H:=
 ⟨I.ok.frames,I.ok.mod,I.bs,le_trans I.ok.bsz I.sz,I.stack,I.stkFree,I.hok,I.bare⟩
theorem Inv.after {Q:VK}{u:Value}(I:Inv X pins σ H s)(h:CE X.stack X.prog X.w H s Q u s'):EP X pins σ Q u s':=by
 obtain⟨v,H',os,bare,un,hok,r,q⟩:=h;obtain⟨hh,g,d,t,os'⟩:=s';obtain rfl:os'=s.os:=os;exact⟨v,H',I.call (h':=hh) (g':=g) (d':=d) (t':=t) (ch:=[]) un hok bare (λ b z=>absurd z (by simp)),r,q⟩
end
noncomputable def ZdM (sp:Sp)(dvs:List V)(E:XK)(t:TA):TE:=λ σ H Q=>t σ H λ vs H1=>sp (vs++dvs) H1 Q E
noncomputable def JA (K:Frag)(fd:FuncData)(ps:List Str)(ds:List Value):Prop:=
 ∀(s:Shared)(us:List Value),K.In s.heap->(us++ds).length=ps.length->BindsTo s fd ⟨us,[]⟩ (ps.zip (us++ds))
theorem JA.all {K:Frag}{fd:FuncData}{ps:List Str}(h:∀ us:List Value,us.length=ps.length->bindArgs fd ⟨us,[]⟩=pure (ps.zip us)):JA K fd ps []:=λ s us _ hl=>by
 rw[append_nil]at hl ⊢;exact .of_eq (h us hl)
noncomputable def Xx (CX:CXT)(X:Cx)(E:XK):Prop:=∀(pins:List (Addr×Obj))(σ:St)(H:Hp)(s:Shared)(e:Value)(s':Shared),Inv X pins σ H s->CX X.stack H s E e s'->X.xe e s'
section
variable {X:Cx}{CX:CXT}{k:Nat}{f C:Addr}{fd:FuncData}{ps:List Str}{sp:Sp}{dvs:List V}{ds:List Value}{E:XK}{x m:Str}{p pos apos:Pos}{e o:Expr}{es:List Expr}{ta:TE}{t:TA}
theorem Zdu {pins:List (Addr×Obj)}{σ:St}{H:Hp}{s:Shared}{Q:VK}{us:List Value}{vs:List V}(F:FnOk X.prog X.w X.K X.mg X.base CX k f fd ps sp)(hr:Room k X.A)(hb:JA X.K fd ps ds)(hd:ZH dvs ds)(hx:Xx CX X E)(I:Inv X pins σ H s)(r:ZH vs us)(h:sp (vs++dvs) H Q E):wpAny (model X.prog X.w) X.A (call (.ref f) us) (EP X pins σ Q) X.xe s:=by
  have r2:ZH (vs++dvs) (us++ds):=r.append hd;have hl:(us++ds).length=ps.length:=by rw[<- r2.length];exact F.len _ _ _ _ h
  refine wpAny_call (codeAny_mono (F.run X.A X.stack s H ⟨us,[]⟩ (us++ds) (vs++dvs) Q E hr I.env0 (hb s us I.kIn hl) r2 h) λ r s' hq=>?_);cases r with
  |error e=>exact hx pins σ H s e s' I hq
  |ok fl=>
    cases fl with
    |ret u=>exact I.after hq
    |next=>exact False.elim hq
    |brk=>exact False.elim hq
    |cont=>exact False.elim hq
theorem ZdR (F:FnOk X.prog X.w X.K X.mg X.base CX k f fd ps sp)(hr:Room k X.A)(hg:Gl X x)(hm:X.mg x=some (.ref f))(hk:keepIn X.K (.ref f)=true)(hb:JA X.K fd ps ds)(hd:ZH dvs ds)(hx:Xx CX X E)(ha:PA X (e::es) t)(hdb:(x == ("__debug__":Str))=false:=by decide)(he:starEach (e::es) X.env=(false,eval e X.env)::starEach es X.env:=by rfl)(hpl:(backTo pos (starEach es X.env)).any (·.1)=false:=by rfl) :
    PE X (.Call (.Name x p) (e::es) [] pos) (ZdM sp dvs E t):=by
  refine⟨?_⟩;intro pins s σ H Q I h;refine wpAny_Call_Name_kw (Jk I hg hm ?_ hdb);refine PySem.W.callWith_K (h₀:=X.base) I.ok.mod.kin hk (thn (ha pos pins s σ H _ I h) λ us s1 ⟨vs,H1,I1,r,q⟩=>⟨I1.kIn,?_⟩) he hpl;exact Zdu F hr hb hd hx I1 r q
theorem Zfa (F:FnOk X.prog X.w X.K X.mg X.base CX k f fd ps sp)(hr:Room k X.A)(hg:Gl X x)(hm:X.mg x=some (.ref f))(hk:keepIn X.K (.ref f)=true)(hb:JA X.K fd ps ds)(hd:ZH dvs ds)(hx:Xx CX X E)(hdb:(x == ("__debug__":Str))=false:=by decide):PE X (.Call (.Name x p) [] [] pos) (ZdM sp dvs E tNil):=by
 refine⟨?_⟩;intro pins s σ H Q I h;refine wpAny_Call_Name_kw (Jk I hg hm ?_ hdb);exact PySem.W.callWith_K0 I.kIn hk (Zdu (us:=[]) F hr hb hd hx I .nil h)
end
noncomputable abbrev PKb (X:Cx)(kws:List Keyword)(t:TA):Prop:=
  ∀(pos:Pos)(pins:List (Addr×Obj))(s:Shared)(σ:St)(H:Hp)(Q:List V->Hp->Prop),Inv X pins σ H s->t σ H Q->wpAny (model X.prog X.w) X.A (evalAll ((backToKw pos (keywordEach kws X.env)).map (·.2))) (AP X pins σ Q) X.xe s
structure PK (X:Cx)(kws:List Keyword)(t:TA):Prop where
  go:PKb X kws t
instance {X:Cx}{kws:List Keyword}{t:TA}:CoeFun (PK X kws t) λ _=>PKb X kws t:=⟨PK.go⟩
section
variable {X:Cx}{CX:CXT}{k:Nat}{f C:Addr}{fd:FuncData}{ps ks:List Str}{sp:Sp}{E:XK}{x m:Str}{p pos apos kpos:Pos}{e o:Expr}{es:List Expr}{kws:List Keyword}{te ta:TE}{t tk:TA}{nm:Option Str}
variable {g:List Value->List Value->List Value}{gV:List V->List V->List V}
end
structure FnScope (N P:List Str)(sc:Scope):Prop where
  kind:sc.kind = .function
  co:sc.isCoroutine=false
  gen:sc.isGenerator=false
  nd:N.Nodup
  pre:N.take P.length=P
  par:∀ x∈P,sc.names.lookup x=some .local\/sc.names.lookup x=some .cell
  nofree:∀ y∈sc.names,y.2 ≠ .free
theorem Zcj {kindOf:Str->Option NameKind}{x:Str}:∀ {binds:List (Str×Value)} {m:Str->Option Value},(∀ v,(x,v)∉binds)->bindL kindOf binds m x=m x
  |[],_,_=>rfl
  | (n,v)::r,m,h=>by
    unfold bindL;rw[Zcj λ w hw=>h w (mem_cons_of_mem _ hw)];split
    . have:x≠n:=by rintro rfl;exact h v mem_cons_self
      simp[this]
    . rfl
theorem Zcl {kindOf:Str->Option NameKind}{x:Str}:∀ {binds:List (Str×Value)} {m:Str->Option Value},(∀ v,(x,v)∉binds)->bindC kindOf binds m x=m x
  |[],_,_=>rfl
  | (n,v)::r,m,h=>by
    unfold bindC;rw[Zcl λ w hw=>h w (mem_cons_of_mem _ hw)];split
    . rfl
    . have:x≠n:=by rintro rfl;exact h v mem_cons_self
      simp[this]
theorem Zck {kindOf:Str->Option NameKind}{x:Str}{v:Value}:∀ {P:List Str} {vs:List Value} {i:Nat} {m:Str->Option Value},P.Nodup->P[i]? = some x->vs[i]? = some v->kindOf x=some .local ->
    bindL kindOf (P.zip vs) m x=some v
  |[],_,_,_,_,h,_,_=>by simp at h
  |_::_,[],_,_,_,_,h,_=>by simp at h
  | p::P,w::vs,0,m,nd,h1,h2,hk=>by
    simp at h1 h2;subst h1;subst h2;show bindL kindOf ((p,w)::P.zip vs) m p=_;unfold bindL;rw[Zcj λ v hv=>(List.nodup_cons.mp nd).1 (List.of_mem_zip hv).1,if_pos hk];simp
  | p::P,w::vs,i+1,m,nd,h1,h2,hk=>by
    show bindL kindOf ((p,w)::P.zip vs) m x=_;unfold bindL;exact Zck (i:=i) (List.nodup_cons.mp nd).2 (by simpa using h1) (by simpa using h2) hk
theorem Zcm {kindOf:Str->Option NameKind}{x:Str}{v:Value}:∀ {P:List Str} {vs:List Value} {i:Nat} {m:Str->Option Value},P.Nodup->P[i]? = some x->vs[i]? = some v->kindOf x≠some .local ->
    bindC kindOf (P.zip vs) m x=some v
  |[],_,_,_,_,h,_,_=>by simp at h
  |_::_,[],_,_,_,_,h,_=>by simp at h
  | p::P,w::vs,0,m,nd,h1,h2,hk=>by
    simp at h1 h2;subst h1;subst h2;show bindC kindOf ((p,w)::P.zip vs) m p=_;unfold bindC;rw[Zcl λ v hv=>(List.nodup_cons.mp nd).1 (List.of_mem_zip hv).1,if_neg hk];simp
  | p::P,w::vs,i+1,m,nd,h1,h2,hk=>by
    show bindC kindOf ((p,w)::P.zip vs) m x=_;unfold bindC;exact Zcm (i:=i) (List.nodup_cons.mp nd).2 (by simpa using h1) (by simpa using h2) hk
noncomputable def JV (N:List Str)(vs:List V):St:=vs.map some++List.replicate (N.length - vs.length) none
noncomputable def Zp (CX:CXT)(P:Program)(w:World)(K:Frag)(mg:Str->Option Value)(base:Heap)(N:List Str)(qual:Str)(scope:Scope)(f:Addr)(cd:Value)(A:Around)(outer:List Env)(s:Shared)(H:Hp)(E:XK):Cx where
 prog:=P
 w:=w
 K:=K
 mg:=mg
 base:=base
 A:=A.deeper (envOfC qual scope s.heap.objs.size f cd)
 N:=N
 s₀:=s
 H₀:=H
 env:=envOfC qual scope s.heap.objs.size f cd
 outer:=outer
 stack:=envOfC qual scope s.heap.objs.size f cd::outer
 ex:=[]
 calm:=true
 fn:=λ _=>true
 pn:=[]
 xe:=λ e s'=>wpAny (model P w) (A.deeper (envOfC qual scope s.heap.objs.size f cd)) (leaving (envOfC qual scope s.heap.objs.size f cd) e) (λ _ s''=>CX outer H s E e s'') (λ e' s''=>CX outer H s E e' s'') s'
theorem Zdo {sc:Scope}{n:Nat}{x:Str}(h:sc.names.lookup x=some .cell):∃ c,(cellsFrom n sc.names []).lookup x=some c:=by
 have q:=PySem.W.cellsFrom_some sc.names n [] (.inl h);exact Option.isSome_iff_exists.mp q
theorem ZeA {CX:CXT}{P:Program}{w:World}{K:Frag}{mg:Str->Option Value}{base:Heap}{N ps:List Str}{qual:Str}{scope:Scope}{f:Addr}{cd:Value}{A:Around}{outer:List Env}{s s1:Shared}{H:Hp}{E:XK}{us:List Value}{vs:List V}(S:FnScope N ps scope)(hd:A.handled=none)(e0:Env0 P w K mg base A outer s H)(hl:vs.length=ps.length)(r:ZH vs us)(x:InCallC s s.heap.objs.size (bindL (envOfC qual scope s.heap.objs.size f cd).kindOf (ps.zip us) λ _=>none) (cellsFrom (s.heap.objs.size+1) scope.names []) (bindC (envOfC qual scope s.heap.objs.size f cd).kindOf (ps.zip us) λ _=>none) s1) :
    Inv (Zp CX P w K mg base N qual scope f cd A outer s H E) [] (JV N vs) H s1:=by
  have hpl:ps.length<=N.length:=by have:=congrArg List.length S.pre;rw[length_take]at this;omega
  obtain⟨h1,tk,rfl,hk⟩:=x.done;have noA:∀ b:Addr,b∉(Zp CX P w K mg base N qual scope f cd A outer s H E).ex:=λ b z=>absurd (show b∈([]:List Addr) from z) (by simp);refine⟨⟨e0.mod,S.kind,rfl,rfl,le_refl _,λ y z c h1 h2=>?_,λ y hy=>?_,λ y c _ h=>?_,λ _=>hd,Around.frames_deeper e0.frames, .inr ⟨rfl,rfl⟩,λ b z=>absurd z (noA b),e0.bs,e0.bsz,λ b _ _=>noA b,λ b z=>absurd z (noA b),e0.funs,e0.frf⟩,
    rfl,e0.bare,Un.kept hk,⟨_,x.toInCall.ns,λ i y v h1 h2 h3=>?_⟩,λ y c h=>⟨_,x.cell y c h⟩,e0.hok.fresh (le_refl _),λ y c h=>?_,λ p hp=>absurd (show p∈([]:List (Addr×Obj)) from hp) (by simp),e0.hok.kept hk,?_⟩
  . exact name_of_addr x.apart (PySem.mem_of_lookup h1) (PySem.mem_of_lookup h2)
  . have hy:scope.names.lookup y=some .cell\/scope.names.lookup y=some .free:=hy;rcases hy with hy|hy
    . exact Zdo hy
    . exact absurd rfl (S.nofree _ (PySem.mem_of_lookup hy))
  . exact le_of_lt (x.above y c (PySem.mem_of_lookup h))
  . have hi:i<vs.length:=by
      unfold JV at h2
      by_cases hi:i<vs.length
      . exact hi
      . rw[getElem?_append_right (by simpa using hi)]at h2;rw[List.getElem?_replicate]at h2;split at h2 <;> cases h2
    have ha:vs[i]? = some v:=by
      unfold JV at h2;rw[getElem?_append_left (by simpa using hi),getElem?_map]at h2;cases e:vs[i]? with
      |none=>rw[e]at h2;cases h2
      |some a=>rw[e]at h2;cases h2;rfl
    obtain⟨u,hu,rv⟩:=r.get ha;have hp:ps[i]? = some y:=by
      rw[<- S.pre,List.getElem?_take_of_lt (by omega)];exact h1
    have ndP:ps.Nodup:=by rw[<- S.pre];exact S.nd.sublist (List.take_sublist _ _)
    refine⟨u,rv,?_⟩;rcases S.par y (mem_of_getElem? hp) with k|k
    . exact .inl ⟨k,Zck ndP hp hu k⟩
    . obtain⟨c,e⟩:=Zdo (n:=s.heap.objs.size+1) k;refine .inr ⟨.inl k,c,e,?_⟩;have q:=x.cell y c e;rw[Zcm ndP hp hu (by show scope.names.lookup y≠_;rw[k];decide)]at q;exact q
  . exact e0.hok.fresh (le_of_lt (x.above y c (PySem.mem_of_lookup h)))
  . unfold JV;show _=N.length;rw[length_append,length_map,List.length_replicate];omega
theorem fn_of {CX:CXT}{P:Program}{w:World}{K:Frag}{mg:Str->Option Value}{base:Heap}{k:Nat}{f:Addr}{name qual:Str}{params:Arguments}{body:List Stmt}{scope:Scope}{dV kV doc pm cdv ct oc:Value}{an od:Option Addr}{osl:Array (Option Value)}{N ps:List Str}{sp:Sp}(lk:K.lookup f=some ⟨oc,od, .func (fnOf name qual params body scope dV kV doc pm an cdv ct),osl⟩)(hcd:codeIn K cdv qual=true)(S:FnScope N ps scope)(len:∀ vs H Q E,sp vs H Q E->vs.length=ps.length)(hbody:∀(A:Around)(outer:List Env)(s:Shared)(H:Hp)(vs:List V)(Q:VK)(E:XK),Room k (A.deeper (envOfC qual scope s.heap.objs.size f cdv))->sp vs H Q E ->
      ∃ t,PSs (Zp CX P w K mg base N qual scope f cdv A outer s H E) body t/\t { nx:=λ _ H'=>Q .non H',rt:=Q } (JV N vs) H) :
    FnOk P w K mg base CX (k+1) f (fnOf name qual params body scope dV kV doc pm an cdv ct) ps sp:=by
  refine⟨len,λ A outer s H args us vs Q E hr e0 hb r hsp=>?_⟩;have hl:=len _ _ _ _ hsp;have KX:K.In s.heap:=e0.mod.kin.keeps λ b o e=>(e0.bs b o e).1;have lim:s.heap.NoLimit:=e0.mod.nolimit.keeps λ b o e=>(e0.bs b o e).1;have hkind:∀ y∈ps.zip us,scope.names.lookup y.1=some .local\/(scope.names.lookup y.1=some .cell/\((cellsFrom (s.heap.objs.size+1) scope.names []).lookup y.1).isSome=true):=λ⟨n,v⟩ hy=>by
    rcases S.par n (List.of_mem_zip hy).1 with q|q
    . exact .inl q
    . exact .inr ⟨q,PySem.W.cellsFrom_some _ _ _ (.inl q)⟩
  refine codeAny_call_function hr.depth (KX _ _ lk) rfl S.co S.gen rfl (PySem.W.codeRec_of KX hcd) (hb _ _ _ _ ?_);refine wpAny_newFunctionEnv_cells S.kind hkind λ env he s1 x=>?_;subst he;refine⟨lim.keeps x.toInCall.keep,codeAny_func ?_⟩;obtain⟨t,ht,hq⟩:=hbody A outer s H vs Q E (hr.deeper _) hsp;have I:Inv (Zp CX P w K mg base N qual scope f cdv A outer s H E) [] (JV N vs) H s1:=ZeA S hr.hd e0 hl r x;refine wpAny_mono (ht [] s1 (JV N vs) H _ I hq) (λ fl s' hs=>?_) λ e s' hs=>hs;have fin:∀ {σ':St} {H':Hp} {v:V} {u:Value},Inv (Zp CX P w K mg base N qual scope f cdv A outer s H E) [] σ' H' s'->ZM v u->Q v H'->CE outer P w H s Q u s':=
    λ {σ' H' v u} J rv q=>⟨v,H',J.os,J.bare,J.base,J.hok,rv,q⟩
  cases fl with
  |ret u=>
    obtain⟨v,σ',H',J,rv,q⟩:=hs;exact fin J rv q
  |next=>
    obtain⟨σ',H',J,q⟩:=hs;exact fin (v:=V.non) (u:=Value.none) J rfl q
  |brk=>
    obtain⟨_,_,_,q⟩:=hs;exact False.elim q
  |cont=>
    obtain⟨_,_,_,q⟩:=hs;exact False.elim q
open PySem PySem.Spec PyProof.Rows
section
variable {X:Cx}{x:Str}{p pos:Pos}{e:Expr}{es:List Expr}{t:TA}{id T:String}{r:List V->Hp->VK->Prop}
noncomputable def tCB (r:List V->Hp->VK->Prop)(t:TA):TE:=λ σ H Q=>t σ H λ vs H1=>r vs H1 Q
theorem Zq (hc:YX X (.builtin id) r)(hg:Gl X x)(hm:X.mg x=none)(hv:bootBuiltins x=some (.builtin id))(ha:PA X (e::es) t)(hn:x≠"__name__":=by decide)(hdb:(x == ("__debug__":Str))=false:=by decide)(he:starEach (e::es) X.env=(false,eval e X.env)::starEach es X.env:=by rfl)(hpl:(backTo pos (starEach es X.env)).any (·.1)=false:=by rfl):PE X (.Call (.Name x p) (e::es) [] pos) (tCB r t):=by
 refine⟨?_⟩;intro pins s σ H Q I h;refine wpAny_Call_Name_kw (JP I hg hm hv ?_ hn hdb);exact PyProof.Rows.callWith_builtin1 (thn (ha pos pins s σ H _ I h) λ us s1 ⟨vs,H1,I1,r1,q1⟩=>hc pins s1 σ H1 vs us Q I1 r1 q1) he hpl
theorem ZP (hc:YX X (.type T) r)(hg:Gl X x)(hm:X.mg x=none)(hv:bootBuiltins x=some (.type T))(ha:PA X (e::es) t)(hn:x≠"__name__":=by decide)(hdb:(x == ("__debug__":Str))=false:=by decide)(he:starEach (e::es) X.env=(false,eval e X.env)::starEach es X.env:=by rfl)(hpl:(backTo pos (starEach es X.env)).any (·.1)=false:=by rfl):PE X (.Call (.Name x p) (e::es) [] pos) (tCB r t):=by
 refine⟨?_⟩;intro pins s σ H Q I h;refine wpAny_Call_Name_kw (JP I hg hm hv ?_ hn hdb);exact PyProof.Rows.callWith_type1 (thn (ha pos pins s σ H _ I h) λ us s1 ⟨vs,H1,I1,r1,q1⟩=>hc pins s1 σ H1 vs us Q I1 r1 q1) he hpl
end
open PySem PySem.Spec PyProof.Rows
section
variable {κ:Type}[DecidableEq κ]
noncomputable def ZbS (kvs:List (κ×V))(k:κ):Option V:=(kvs.find? λ kv=>decide (kv.1=k)).map (·.2)
noncomputable def putK (kvs:List (κ×V))(k:κ)(v:V):List (κ×V):=
 if (kvs.any λ kv=>decide (kv.1=k))=true then kvs.map (λ kv=>if kv.1=k then (kv.1,v) else kv) else kvs++[(k,v)]
noncomputable def dropK (kvs:List (κ×V))(k:κ):List (κ×V):=kvs.filter λ kv=>decide (kv.1≠k)
theorem ZcY {p:κ×V}{r:List (κ×V)}{k:κ}(e:p.1=k):ZbS (p::r) k=some p.2:=by simp[ZbS,find?_cons,e]
theorem ZcZ {p:κ×V}{r:List (κ×V)}{k:κ}(e:¬ p.1=k):ZbS (p::r) k=ZbS r k:=by simp[ZbS,find?_cons,e]
theorem ZcW.isSome_eq {o:Option V}{u:Option Value}(r:ZcW o u):o.isSome=u.isSome:=by
  cases o with
  | none=>cases u with
    |none=>rfl
    |some _=>exact(show False from r).elim
  | some _=>cases u with
    |none=>exact(show False from r).elim
    |some _=>rfl
theorem KV.val {kvs:List (κ×V)}{vs:List (κ×Value)}(r:KV kvs vs)(k:κ):ZcW (ZbS kvs k) (valueAt vs k):=by
  unfold KV at r
  induction r with
  |nil=>exact True.intro
  |@cons p q ps qs h t ih=>
    obtain⟨h1,h2⟩:=h
    by_cases e:p.1=k
    . have e':q.1=k:=h1.symm.trans e;have b:valueAt (q::qs) k=some q.2:=by simp[valueAt,find?_cons,e']
      rw[ZcY e,b];exact h2
    . have e':¬ q.1=k:=λ z=>e (h1.trans z);have b:valueAt (q::qs) k=valueAt qs k:=by simp[valueAt,find?_cons,e']
      rw[ZcZ e,b];exact ih
theorem KV.length {kvs:List (κ×V)}{vs:List (κ×Value)}(r:KV kvs vs):kvs.length=vs.length:=Paired.length r
end
theorem kV_is {P:Program}{w:World}{k:Key}{u:Value}(r:ZM (kV k) u):(Yr P w).is k u=true:=by
  cases k with
  |inl i=>obtain⟨t,e⟩:=(show ∃ t,u=Value.int i t from r);subst e;exact Zdg P w i t
  |inr x=>obtain⟨t,e⟩:=(show ∃ t,u=Value.str x t from r);subst e;exact X7 P w x t
noncomputable abbrev KT (H:Hp):List (List Key×V)->List (List Key×Addr×Value)->Prop:=Paired λ p q=>p.1=q.1/\H q.2.1=some (.tup (p.1.map kV))/\ZM p.2 q.2.2
theorem KT.keeps {H H':Hp}{kvs:List (List Key×V)}{xs:List (List Key×Addr×Value)}(r:KT H kvs xs)(ht:∀ b ys,H b=some (.tup ys)->H' b=some (.tup ys)):KT H' kvs xs:=
 Paired.mapP r λ _ _ z=>⟨z.1,ht _ _ z.2.1,z.2.2⟩
section
variable {P:Program}{w:World}{H:Hp}{h:Heap}{a:Addr}
end
noncomputable def DGet (H:Hp)(a:Addr)(y:V)(r:Option V):Prop:=
 (∃ kvs k,Rd H a (.dK kvs)/\y=kV k/\r=ZbS kvs k)\/∃ kvs k b,Rd H a (.dT kvs)/\y = .ref b/\H b=some (.tup (k.map kV))/\r=ZbS kvs k
noncomputable def DPut (H:Hp)(a:Addr)(y v:V)(H':Hp):Prop:=
 (∃ kvs k,H a=some (.dK kvs)/\y=kV k/\kvs.length<sizeLine/\H'=upd H a (.dK (putK kvs k v))) \/
 ∃ kvs k b,H a=some (.dT kvs)/\y = .ref b/\H b=some (.tup (k.map kV))/\kvs.length<sizeLine/\H'=upd H a (.dT (putK kvs k v))
section
variable {X:Cx}{pins:List (Addr×Obj)}{σ:St}{H:Hp}{s:Shared}{a:Addr}{y v:V}{u r:Value}{o:Option V}{A:Around}{E:Value->Shared->Prop}
end
section
variable {X:Cx}{pins:List (Addr×Obj)}{σ:St}{H:Hp}{s:Shared}{a:Addr}{kvs:List (Key×V)}{k:Key}{u:Value}{A:Around}{E:Value->Shared->Prop}
end
noncomputable def NoSl (i:Expr):Prop:=∀ ov iv,subscripted i false ov iv=operate [ov,iv] (getItem ov iv)
theorem ZfN {prog:Program}{w:World}{A:Around}{E:Value->Shared->Prop}{s:Shared}{env:Env}{value slice:Expr}{pos:Pos}{T id:String}{Q:Value->Shared->Prop}(hl:typeLookup (.type T) "__getitem__"=pure (some (.builtin id)))(hs:NoSl slice)(h:wpAny (model prog w) A (eval value env) (λ o s₁=>wpAny (model prog w) A (eval slice env) (λ i s₂=>s₂.TypeIs o T/\wpAny (model prog w) A (getItem o i) Q E s₂) E s₁) E s) :
    wpAny (model prog w) A (eval (.Subscript value slice pos) env) Q E s:=by
  refine Subscript_ (wpAny_mono h (λ o s₁ h₁=>wpAny_mono h₁ (λ i s₂ h₂=>?_) λ _ _ x=>x) λ _ _ x=>x);obtain⟨hT,h₂⟩:=h₂;unfold subscriptTail;refine wpAny_bind ?_;rw[getitemInPython_of_ne hT.not_modules];refine wpAny_bind (wpAny_specialOf hT hl ?_);have fin:wpAny (model prog w) A (subscripted slice false o i) (λ r s₃=>wpAny (model prog w) A (letTemporaryGo value o r >>= λ _=>pure r) Q E s₃) E s₂:=by
    rw[hs o i];exact wpAny_operating (wpAny_mono h₂ (λ r s₃ h₃=>wpAny_bind (wpAny_letTemporaryGo (wpAny_pure h₃))) λ _ _ x=>x)
  first
    | exact wpAny_pure (wpAny_bind fin)
    | exact wpAny_bind (wpAny_pure (wpAny_bind fin))
    | exact wpAny_bind fin
section
variable {X:Cx}{o i e value:Expr}{pos pos' tpos:Pos}{td ty tv:TE}
end
section
variable {X:Cx}{pos:Pos}
end
section
variable {X:Cx}{pins:List (Addr×Obj)}{σ:St}{H:Hp}{s:Shared}{a:Addr}{y d:V}{u r:Value}{o:Option V}{A:Around}{E:Value->Shared->Prop}
end
section
variable {X:Cx}{o e f:Expr}{apos cpos:Pos}{td ty tx:TE}
end
section
variable {X:Cx}{pins:List (Addr×Obj)}{σ:St}{H:Hp}{s:Shared}{a:Addr}{kvs:List (Key×V)}{A:Around}{E:Value->Shared->Prop}
end
section
variable {X:Cx}{pins:List (Addr×Obj)}{σ:St}{H:Hp}{s:Shared}{a:Addr}{y:V}{u:Value}{A:Around}{E:Value->Shared->Prop}
end
end L2
namespace HT
open PySem PyProof.Rows
section
open PySem.SeqAt
open PySem.AutoSeq1 (wpAny_loadPart')
open PySem.MeetsSeq PySem.MeetsSeq2 PySem.MeetsSeq3
end
section
variable {prog:Program}{w:World}{A:Around}{E:Value->Shared->Prop}{s:Shared}
theorem cat_tup {t b:Addr}{vs ws:List Value}{Q:Value->Shared->Prop}(ht:IsTup s.heap t vs.toArray)(hb:IsTup s.heap b ws.toArray)(hv:vs≠[])(h1:ws=[]->Q (.ref t) s)(h2:ws≠[]->Q (.ref s.heap.objs.size) { s with heap:=s.heap.push { cls:=.type "tuple",data:=.seq (vs++ws).toArray } })(hsz:vs.length+ws.length<=sizeLine):wpAny (model prog w) A (binaryOp .Add (.ref t) (.ref b)) Q E s:=by
  obtain⟨⟨cls,dd,data,sl⟩,ho,hc,n,hd⟩:=id ht;obtain⟨⟨cls2,dd2,data2,sl2⟩,ho2,hc2,n2,hd2⟩:=id hb;simp only at hc hd hc2 hd2;subst hc hd hc2 hd2;have e:vs.toArray++ws.toArray=(vs++ws).toArray:=by simp
  by_cases hw:ws=[]
  . exact concat_meets ⟨_,ho,rfl⟩ ⟨_,ho2,rfl⟩ noFill_tuple_add seq_tuple_add PySem.F.slot_tuple_add PySem.F.entry_tuple_add (PySem.F.args_tuple_add_2 _ _)
      (tuple_addW1 t b vs.toArray ws.toArray n n2 dd dd2 sl sl2 (by simpa using hv) (by simp[hw])) ⟨ho,ho2,h1 hw⟩
  . refine concat_meets ⟨_,ho,rfl⟩ ⟨_,ho2,rfl⟩ noFill_tuple_add seq_tuple_add PySem.F.slot_tuple_add PySem.F.entry_tuple_add (PySem.F.args_tuple_add_2 _ _)
      (tuple_addW2 t b vs.toArray ws.toArray n n2 dd dd2 sl sl2 (by simpa using hv) (by simpa using hw) (by rw[size_toArray,size_toArray];exact hsz)) ⟨ho,ho2,?_⟩
    rw[e];exact h2 hw
noncomputable def sIx (n d:Nat):Option Int->Nat
  |none=>d
  |some v=>if v<0 then (v+(n:Int)).toNat else min v.toNat n
theorem sIx_none (n d:Nat):sIx n d none=d:=rfl
theorem sIx_nat (n d k:Nat):sIx n d (some (k:Int))=min k n:=by
 show(if (k:Int)<0 then ((k:Int)+(n:Int)).toNat else min (k:Int).toNat n)=min k n;rw[if_neg (by omega),toNat_natCast]
end
end HT
namespace L2
open PySem PySem.Spec PyProof.Rows
noncomputable abbrev TO:=St->Hp->(Option Int->Hp->Prop)->Prop
noncomputable abbrev POb (X:Cx)(e:Option Expr)(t:TO):Prop:=
  ∀(pins:List (Addr×Obj))(s:Shared)(σ:St)(H:Hp)(Q:Option Int->Hp->Prop),Inv X pins σ H s->t σ H Q ->
    wpAny (model X.prog X.w) X.A (evalPart e X.env) (λ u s'=>∃ o H',Inv X pins σ H' s'/\IsPart u o/\Q o H') X.xe s
structure PO (X:Cx)(e:Option Expr)(t:TO):Prop where
  go:POb X e t
instance {X:Cx}{e:Option Expr}{t:TO}:CoeFun (PO X e t) λ _=>POb X e t:=⟨PO.go⟩
noncomputable def ZdL:TO:=λ _ H Q=>Q none H
noncomputable def tPart (t:TE):TO:=λ σ H Q=>t σ H λ x H1=>∃ i,x = .int i/\Q (some i) H1
section
variable {X:Cx}{e:Expr}{te:TE}{lo hi:Option Expr}{tl th:TO}{pos p2:Pos}
theorem ZW:PO X none ZdL:=by
 refine⟨?_⟩;intro pins s σ H Q I h;rw[evalPart_none];exact wpAny_pure ⟨none,H,I, .none,h⟩
theorem ZG (h:PE X e te):PO X (some e) (tPart te):=by
 refine⟨?_⟩;intro pins s σ H Q I hw;rw[evalPart_some];refine thn (h pins s σ H _ I hw) λ u s1 zz9=>?_;obtain⟨x,H1,I1,r1,q1⟩:=zz9;obtain⟨i,rfl,q⟩:=q1;obtain⟨t,rfl⟩:=r1;exact⟨some i,H1,I1, .int i t,q⟩
noncomputable def SlR (X:Cx)(r:V->Option Int->Option Int->Hp->VK->Prop):Prop:=
  ∀(pins:List (Addr×Obj))(s:Shared)(σ:St)(H:Hp)(x:V)(v vl vu:Value)(lo hi:Option Int)(sl:Addr)(Q:VK),Inv X pins σ H s->ZM x v->s.heap.IsSliceOf sl vl vu .none->IsPart vl lo->IsPart vu hi->r x lo hi H Q ->
    ∃ T id,typeLookup (.type T) "__getitem__"=pure (some (.builtin id))/\s.TypeIs v T/\wpAny (model X.prog X.w) X.A (getItem v (.ref sl)) (EP X pins σ Q) X.xe s
noncomputable def tSl (r:V->Option Int->Option Int->Hp->VK->Prop)(te:TE)(tl th:TO):TE:=λ σ H Q=>te σ H λ x H1=>tl σ H1 λ l H2=>th σ H2 λ u H3=>r x l u H3 Q
theorem ZF {r:V->Option Int->Option Int->Hp->VK->Prop}(hr:SlR X r)(he:PE X e te)(hl:PO X lo tl)(hu:PO X hi th):PE X (.Subscript e (.Slice lo hi none p2) pos) (tSl r te tl th):=by
 refine⟨?_⟩;intro pins s σ H Q I h;refine Subscript_ (thn (he pins s σ H _ I h) λ v s1 zz9=>?_);obtain⟨x,H1,I1,r1,q1⟩:=zz9;refine wpAny_Slice (thn (hl pins s1 σ H1 _ I1 q1) λ vl s2 ⟨l,H2,I2,pl,q2⟩=>thn (hu pins s2 σ H2 _ I2 q2) λ vu s3 zz9=>?_);obtain⟨u,H3,I3,pu,q3⟩:=zz9;rw[evalPart_none];refine wpAny_pure ?_;have I4:Inv X pins σ H3 { s3 with heap:=s3.heap.push { cls:=.type "slice",data:=.fields #[vl,vu, .none] } }:=I3.kept (t':=s3.toks) λ b ob q=>Heap.get?_push_of_some _ q;obtain⟨T,id,hT,ht,hg⟩:=hr pins { s3 with heap:=s3.heap.push { cls:=.type "slice",data:=.fields #[vl,vu, .none] } } σ H3 x v vl vu l u s3.heap.objs.size Q I4 r1 (Heap.IsSliceOf.new ..) pl pu q3;show wpAny (model X.prog X.w) X.A (subscriptTail e (.Slice lo hi none p2) v (.ref s3.heap.objs.size)) (EP X pins σ Q) X.xe { s3 with heap:=s3.heap.push { cls:=.type "slice",data:=.fields #[vl,vu, .none] } };exact tail_any (ops:=[.ref s3.heap.objs.size,v]) ht hT hg (by with_unfolding_all rfl)
noncomputable def Xu (xs:List V)(lo hi:Option Int):List V:=(xs.drop (HT.sIx xs.length 0 lo)).take (HT.sIx xs.length xs.length hi - HT.sIx xs.length 0 lo)
theorem Zdn (xs:List V)(lo hi:Option Int):(Xu xs lo hi).length<=xs.length:=by
 unfold Xu;rw[length_take,List.length_drop];omega
noncomputable def rCatT (K:Frag):R2:=λ x y H Q=>∃ a b xs ys,x = .ref a/\y = .ref b/\SqT K H a xs/\SqT K H b ys/\xs≠[]/\xs.length+ys.length<=sizeLine /\
 (ys=[]->Q (.ref a) H)/\(ys≠[]->∀ p,H p=none->Q (.ref p) (upd H p (.tup (xs++ys))))
theorem ZH.nil_iff {xs:List V}{us:List Value}(r:ZH xs us):us=[]↔xs=[]:=by
  cases r with
  |nil=>simp
  |cons _ _=>simp
theorem ZcF:OpR X (binaryOp .Add) (rCatT X.K):=by
 intro pins s σ H x y v u Q I rx ry h;obtain⟨a,b,xs,ys,rfl,rfl,ha,hb,hx,hz,q1,q2⟩:=h;cases rx;cases ry;obtain⟨its,r1,p1,_⟩:=I.tuple ha;obtain⟨its2,r2,p2,_⟩:=I.tuple hb;refine HT.cat_tup p1 p2 (λ z=>hx (r1.nil_iff.mp z)) (λ z=>⟨.ref a,H,I,rfl,q1 (r2.nil_iff.mp z)⟩) (λ z=>?_) (by rw[<- r1.length,<- r2.length];exact hz);refine⟨.ref s.heap.objs.size,_,I.laid (t':=s.toks) (o:=.tup (xs++ys)) (λ b ob q=>Heap.get?_push_of_some _ q) (le_refl _) ?_,rfl,q2 (λ w=>z (r2.nil_iff.mpr w)) _ (I.hok.fresh (le_refl _))⟩;exact⟨by rw[length_append];exact hz,_,r1.append r2,IsTup.new _ _⟩
end
open PySem PySem.Spec PyProof.Rows
noncomputable def ixN (n:Nat)(i:Int):Option Nat:=if 0<=i then (if i<n then some i.toNat else none) else if -(n:Int)<=i then some (i+n).toNat else none
noncomputable def atI {α:Type}(xs:List α)(i:Int):Option α:=(ixN xs.length i).bind λ j=>xs[j]?
theorem Zf7 {n:Nat}{i:Int}{j:Nat}(h:ixN n i=some j):seqIndex? i n=some j/\j<n /\ -(n:Int)<=i/\i<n:=by
  unfold ixN at h
  by_cases h0:0<=i
  . rw[if_pos h0]at h
    by_cases h1:i<n
    . rw[if_pos h1]at h;have e:i.toNat=j:=Option.some.inj h;exact⟨by rw[seqIndex_of h0 h1,e],by omega,by omega,h1⟩
    . rw[if_neg h1]at h;cases h
  . rw[if_neg h0]at h
    by_cases h1 : -(n:Int)<=i
    . rw[if_pos h1]at h;have e:(i+n).toNat=j:=Option.some.inj h;exact⟨by rw[seqIndex_neg (by omega) h1,e],by omega,h1,by omega⟩
    . rw[if_neg h1]at h;cases h
theorem ZcV {α:Type}{xs:List α}{i:Int}{v:α}(h:atI xs i=some v):∃ j,seqIndex? i xs.length=some j/\xs[j]? = some v/\j<xs.length /\ -(xs.length:Int)<=i/\i<xs.length:=by
  unfold atI at h;cases e:ixN xs.length i with
  |none=>rw[e]at h;cases h
  |some j=>
    rw[e]at h;obtain⟨h1,h2,h3,h4⟩:=Zf7 e;exact⟨j,h1,h,h2,h3,h4⟩
theorem ZE {α:Type}{xs:List α}{j:Nat}{v:α}(h:xs[j]? = some v):atI xs (j:Int)=some v:=by
  have hj:j<xs.length:=(List.getElem?_eq_some_iff.mp h).1;have e:ixN xs.length (j:Int)=some j:=by
    unfold ixN;rw[if_pos (by omega),if_pos (by omega)];simp
  unfold atI;rw[e];exact h
noncomputable def Zgm (b:Expr):Prop:=∀ o i,subscripted b false o i=operate [o,i] (getItem o i)
noncomputable def IxR (X:Cx)(r:R2):Prop:=
  ∀(value slice:Expr)(pins:List (Addr×Obj))(s:Shared)(σ:St)(H:Hp)(x y:V)(v u:Value)(Q:VK),Inv X pins σ H s->ZM x v->ZM y u->r x y H Q ->
    subscripted slice false v u=operate [v,u] (getItem v u)->wpAny (model X.prog X.w) X.A (subscriptTail value slice v u) (EP X pins σ Q) X.xe s
noncomputable def MtR (X:Cx)(id:String)(r:V->List V->Hp->VK->Prop):Prop:=
  ∀(pins:List (Addr×Obj))(s:Shared)(σ:St)(H:Hp)(x:V)(xs:List V)(v:Value)(us:List Value)(Q:VK),Inv X pins σ H s->ZM x v->ZH xs us->r x xs H Q ->
    wpAny (model X.prog X.w) X.A (call (.builtin id) (v::us)) (EP X pins σ Q) X.xe s
section
variable {X:Cx}{a b:Expr}{ta tb:TE}{pos:Pos}
theorem ZC {r:R2}(hr:IxR X r)(ha:PE X a ta)(hb:PE X b tb)(hs:Zgm b):PE X (.Subscript a b pos) (tOp r ta tb):=by
 refine⟨?_⟩;intro pins s σ H Q I h;exact Subscript_ (binT ha hb I h λ v u s2 x y H2 I2 rx ry q=>hr a b pins s2 σ H2 x y v u Q I2 rx ry q (hs _ _))
noncomputable def rIxL (K:Frag):R2:=λ x y H Q=>∃ p xs i v,x = .ref p/\y = .int i/\SqL K H p xs/\atI xs i=some v/\Q v H
noncomputable def rIxT (K:Frag):R2:=λ x y H Q=>∃ p xs i v,x = .ref p/\y = .int i/\SqT K H p xs/\atI xs i=some v/\Q v H
noncomputable def rIxS:R2:=λ x y H Q=>∃ z i c,x = .str z/\y = .int i/\z.length<=sizeLine/\atI z.cps.toList i=some c/\Q (.str ⟨#[c]⟩) H
theorem Z8:IxR X (rIxL X.K):=by
  intro value slice pins s σ H x y v u Q I rx ry h hs;obtain⟨p,xs,i,z,rfl,rfl,hq,he,q⟩:=h;cases rx;obtain⟨t,rfl⟩:=ry;obtain⟨its,r,pl,hz⟩:=I.list hq;obtain⟨j,h1,h2,h3,h4,h5⟩:=ZcV he;obtain⟨w,ew,rw'⟩:=r.get h2;have hl:=r.length;have hn:=ZbC;have fin:EP X pins σ Q w s:=⟨z,H,I,rw',q⟩
  by_cases h0:0<=i
  . have hj:i.toNat=j:=by
      rw[seqIndex_of h0 h5]at h1;exact Option.some.inj h1
    exact item_listR pl.isList h0 (by omega) (by rw[hj];simpa using ew) fin hs
  . have hj:(i+(its.toArray.size:Int)).toNat=j:=by
      rw[seqIndex_neg (by omega) h4]at h1;rw[size_toArray,<- hl];exact Option.some.inj h1
    exact subscriptTail_builtinR (x:=w) pl.isList.typeIs slot_list_getitem.lookup
      (wpAny_getItem_list_neg (Q:=λ r s'=>r=w/\EP X pins σ Q r s') pl.isList (by omega) (by rw[size_toArray] <;> omega) (by omega) (by rw[hj];simpa using ew) ⟨rfl,fin⟩) hs
theorem ZO:IxR X (rIxT X.K):=by
  intro value slice pins s σ H x y v u Q I rx ry h hs;obtain⟨p,xs,i,z,rfl,rfl,hq,he,q⟩:=h;cases rx;obtain⟨t,rfl⟩:=ry;obtain⟨its,r,pl,hz⟩:=I.tuple hq;obtain⟨j,h1,h2,h3,h4,h5⟩:=ZcV he;obtain⟨w,ew,rw'⟩:=r.get h2;have hl:=r.length;have hn:=ZbC;have fin:EP X pins σ Q w s:=⟨z,H,I,rw',q⟩;exact subscriptTail_builtinR (x:=w) pl.typeIs slot_tuple_getitem.lookup
    (getItem_tuple (j:=j) (Q:=λ r s'=>r=w/\EP X pins σ Q r s') pl (by omega) (by omega) (by rw[size_toArray,<- hl];exact h1) (by simpa using ew) ⟨rfl,fin⟩) hs
theorem ZbD:IxR X rIxS:=by
  intro value slice pins s σ H x y v u Q I rx ry h hs;obtain⟨z,i,c,rfl,rfl,hz,he,q⟩:=h;obtain⟨t,rfl⟩:=rx;obtain⟨t',rfl⟩:=ry;obtain⟨j,h1,h2,h3,h4,h5⟩:=ZcV he;have hl:z.cps.toList.length=z.length:=by simp[Str.length]
  rw[hl]at h1 h4 h5;have hn:=ZbC;exact tail_any (typeIs_str s z t) slot_str_getitem.lookup (getItem_str (c:=c) (by
    have e1:decide (i < -(2 ^ 63:Int))=false:=decide_eq_false (by omega);have e2:decide (i>=2 ^ 63)=false:=decide_eq_false (by omega);rw[e1,e2,Bool.or_false]) (by rw[h1];simpa using h2) ⟨.str ⟨#[c]⟩,H,I.tok _,⟨_,rfl⟩,q⟩) hs
theorem Zcs (lo hi:Option Int)(n:Nat):(sliceBounds lo hi none n).1=((HT.sIx n 0 lo:Nat):Int)/\(sliceBounds lo hi none n).2.1=((HT.sIx n n hi:Nat):Int)/\(sliceBounds lo hi none n).2.2=1:=by
  refine⟨?_,?_,rfl⟩
  . cases lo with
    |none=>simp[sliceBounds,HT.sIx]
    |some i=>
      simp only[sliceBounds,HT.sIx,Option.getD_none,show(1:Int)>0 by decide,if_true]
      by_cases h:i<0
      . simp only[h,if_true] <;> omega
      . simp only[h,if_false] <;> omega
  . cases hi with
    |none=>simp[sliceBounds,HT.sIx]
    |some i=>
      simp only[sliceBounds,HT.sIx,Option.getD_none,show(1:Int)>0 by decide,if_true]
      by_cases h:i<0
      . simp only[h,if_true] <;> omega
      . simp only[h,if_false] <;> omega
theorem ZbT (its:List Value)(lo hi:Option Int):slicePick its.toArray lo hi none=((its.drop (HT.sIx its.length 0 lo)).take (HT.sIx its.length its.length hi - HT.sIx its.length 0 lo)).toArray:=by
 obtain⟨h1,h2,h3⟩:=Zcs lo hi its.toArray.size;unfold slicePick;rw[h1,h2,h3];simp only[sliceRange_one,pick_run,size_toArray] <;> rfl
noncomputable def rSlL (K:Frag):V->Option Int->Option Int->Hp->VK->Prop:=λ x lo hi H Q=>∃ a xs,x = .ref a/\SqL K H a xs/\∀ p,H p=none->Q (.ref p) (upd H p (.lst (Xu xs lo hi)))
theorem Z6:SlR X (rSlL X.K):=by
 intro pins s σ H x v vl vu lo hi sl Q I rx hs pl pu h;obtain⟨a,xs,rfl,hx,q⟩:=h;cases rx;obtain⟨its,r,ht,hz⟩:=I.list hx;have hlen:=r.length;refine⟨"list",_,slot_list_getitem.lookup,ht.isList.typeIs,?_⟩;refine wpAny_getItem_list_slice ht.isList hs pl pu .none (by simp) ?_ (by rw[size_toArray] <;> omega);rw[ZbT,<- hlen];refine⟨.ref s.heap.objs.size,_,I.laid (t':=s.toks) (o:=.lst (Xu xs lo hi)) (λ b ob q=>Heap.get?_push_of_some _ q) (le_refl _) ?_,rfl,q _ (I.hok.fresh (le_refl _))⟩;exact⟨le_trans (Zdn xs lo hi) hz,_,0,(r.drop (HT.sIx xs.length 0 lo)).take (HT.sIx xs.length xs.length hi - HT.sIx xs.length 0 lo),Heap.get?_push_size _ rfl⟩
noncomputable def Zag:V->Bool
  |.non=>true
  |.bl _=>true
  |.int _=>true
  |.str _=>true
  |_=>false
noncomputable def eqV:V->V->Bool
  |.non, .non=>true
  |.bl a, .bl b=>a == b
  |.bl a, .int b=>(if a then 1 else 0) == b
  |.int a, .bl b=>a == (if b then 1 else 0)
  |.int a, .int b=>a == b
  |.str a, .str b=>a == b
  |_,_=>false
theorem eqAt_V {A:Around}{s:Shared}{y x:V}{u v:Value}(ry:ZM y u)(rx:ZM x v)(fy:Zag y=true)(fx:Zag x=true):SeqAt.EqAt A s u v (eqV y x):=by
  cases y with
  |non=>
    cases ry;cases x with
    |non=>cases rx;exact SeqAt.EqAt.same _
    |bl b=>cases rx;exact SeqAt.EqAt.none_bool b
    |int b=>obtain⟨t,rfl⟩:=rx;exact SeqAt.EqAt.none_int b t
    |str b=>obtain⟨t,rfl⟩:=rx;exact SeqAt.EqAt.none_str b t
    |_=>exact absurd (show false=true from fx) Bool.false_ne_true
  |bl a=>
    cases ry;cases x with
    |non=>cases rx;exact SeqAt.EqAt.bool_none a
    |bl b=>cases rx;exact SeqAt.EqAt.bool_bool a b
    |int b=>obtain⟨t,rfl⟩:=rx;exact SeqAt.EqAt.bool_int a b t
    |str b=>obtain⟨t,rfl⟩:=rx;exact SeqAt.EqAt.bool_str a b t
    |_=>exact absurd (show false=true from fx) Bool.false_ne_true
  |int a=>
    obtain⟨t',rfl⟩:=ry;cases x with
    |non=>cases rx;exact SeqAt.EqAt.int_none a t'
    |bl b=>cases rx;exact SeqAt.EqAt.int_bool a t' b
    |int b=>obtain⟨t,rfl⟩:=rx;exact SeqAt.EqAt.int_int a t' b t
    |str b=>obtain⟨t,rfl⟩:=rx;exact SeqAt.EqAt.int_str a t' b t
    |_=>exact absurd (show false=true from fx) Bool.false_ne_true
  |str a=>
    obtain⟨t',rfl⟩:=ry;cases x with
    |non=>cases rx;exact SeqAt.EqAt.str_none a t'
    |bl b=>cases rx;exact SeqAt.EqAt.str_bool a t' b
    |int b=>obtain⟨t,rfl⟩:=rx;exact SeqAt.EqAt.str_int a t' b t
    |str b=>obtain⟨t,rfl⟩:=rx;exact SeqAt.EqAt.str_str a t' b t
    |_=>exact absurd (show false=true from fx) Bool.false_ne_true
  |_=>exact absurd (show false=true from fy) Bool.false_ne_true
noncomputable def eqU (x:V)(u:Value):Bool:=match u with
  |.none=>eqV .non x
  |.bool b=>eqV (.bl b) x
  |.int i _=>eqV (.int i) x
  |.str z _=>eqV (.str z) x
  |_=>false
theorem Zfx {x y:V}{u:Value}(r:ZM y u)(f:Zag y=true):eqU x u=eqV y x:=by
  cases y with
  |non=>cases r;rfl
  |bl b=>cases r;rfl
  |int i=>obtain⟨t,rfl⟩:=r;rfl
  |str z=>obtain⟨t,rfl⟩:=r;rfl
  |_=>exact absurd (show false=true from f) Bool.false_ne_true
theorem Zam {x:V}:∀ {xs:List V} {us:List Value},ZH xs us->xs.all Zag=true->us.any (eqU x)=xs.any λ y=>eqV y x
  |_,_, .nil,_=>rfl
  | y::xs,u::us, .cons r t,f=>by
    rw[List.all_cons,and_eq_true]at f;rw[any_cons,any_cons,Zfx r f.1,Zam t f.2]
theorem X8 {A:Around}{s:Shared}{x:V}{v:Value}(rx:ZM x v)(fx:Zag x=true):∀ {xs:List V} {us:List Value},ZH xs us->xs.all Zag=true->∀ u∈us,SeqAt.EqAt A s u v (eqU x u)
  |_,_, .nil,_=>λ u hu=>by cases hu
  | y::xs,u::us, .cons r t,f=>λ u' hu=>by
    rw[List.all_cons,and_eq_true]at f;rcases List.mem_cons.mp hu with rfl|hu
    . rw[Zfx r f.1];exact eqAt_V r rx f.1 fx
    . exact X8 rx fx t f.2 u' hu
noncomputable def inV (x:V)(xs:List V):Bool:=xs.any λ y=>eqV y x
noncomputable def rIn (K:Frag)(neg:Bool):R2:=λ x y H Q=>∃ p xs,y = .ref p/\(SqL K H p xs\/SqT K H p xs)/\Zag x=true/\xs.all Zag=true/\Q (.bl (if neg then !inV x xs else inV x xs)) H
theorem Zeq:OpR X (compareOp .In) (rIn X.K false):=by
  intro pins s σ H x y v u Q I rx ry h;obtain⟨p,xs,rfl,hq,fx,fs,q⟩:=h;cases ry;rcases hq with hq|hq
  . obtain⟨its,r,pl,hz⟩:=I.list hq;refine SeqAt.in_listAt (eqU x) pl.isList (λ w hw=>X8 rx fx r fs w (by simpa using hw)) ⟨.bl _,H,I,rfl,?_⟩;rw[show its.toArray.any (eqU x)=its.any (eqU x) by simp,Zam r fs];exact q
  . obtain⟨its,r,pl,hz⟩:=I.tuple hq;refine SeqAt.in_tupleAt (eqU x) pl (λ w hw=>X8 rx fx r fs w (by simpa using hw)) ⟨.bl _,H,I,rfl,?_⟩;rw[show its.toArray.any (eqU x)=its.any (eqU x) by simp,Zam r fs];exact q
theorem Zab:OpR X (compareOp .NotIn) (rIn X.K true):=by
  intro pins s σ H x y v u Q I rx ry h;obtain⟨p,xs,rfl,hq,fx,fs,q⟩:=h;cases ry;rcases hq with hq|hq
  . obtain⟨its,r,pl,hz⟩:=I.list hq;refine SeqAt.notIn_listAt (eqU x) pl.isList (λ w hw=>X8 rx fx r fs w (by simpa using hw)) ⟨.bl _,H,I,rfl,?_⟩;rw[show its.toArray.any (eqU x)=its.any (eqU x) by simp,Zam r fs];exact q
  . obtain⟨its,r,pl,hz⟩:=I.tuple hq;refine SeqAt.notIn_tupleAt (eqU x) pl (λ w hw=>X8 rx fx r fs w (by simpa using hw)) ⟨.bl _,H,I,rfl,?_⟩;rw[show its.toArray.any (eqU x)=its.any (eqU x) by simp,Zam r fs];exact q
theorem ZcU:YX X (.type "list") (λ xs H Q=>∃ p ys,xs=[.ref p]/\(SqL X.K H p ys\/SqT X.K H p ys)/\∀ l,H l=none->Q (.ref l) (upd H l (.lst ys))):=by
  intro pins s σ H xs us Q I r h;obtain⟨p,ys,rfl,hq,q⟩:=h;obtain⟨u,rfl,rx⟩:=Xz r;cases rx;have fin:∀(its:List Value),ZH ys its->ys.length<=sizeLine->∀(h':Heap)(c':Nat),(∀ b o',s.heap.get? b=some o'->h'.get? b=some o') ->
      h'.get? s.heap.objs.size=some { cls:=.type "list",dict:=none,data:=.seq its.toArray c',slots := #[] }->EP X pins σ Q (.ref s.heap.objs.size) { s with heap:=h' }:=λ its r' hz h' c' kp e=>
    ⟨.ref s.heap.objs.size,_,I.laid (t':=s.toks) kp (le_refl _) (show Z2 X.prog X.w _ h' _ (.lst ys) from⟨hz,its,c',r',e⟩),rfl,q _ (I.hok.fresh (le_refl _))⟩
  rcases hq with hq|hq
  . obtain⟨its,r',pl,hz⟩:=I.list hq;have hlen:=r'.length;obtain⟨o,ho,hc,n,hd⟩:=pl.isList;exact call_list_seq p (.inl rfl) ho hc hd (λ h' c' kp e=>fin its r' hz h' c' kp e) (by simp only[size_toArray] <;> omega)
  . obtain⟨its,r',pl,hz⟩:=I.tuple hq;have hlen:=r'.length;obtain⟨o,ho,hc,n,hd⟩:=pl;exact call_list_seq p (.inr rfl) ho hc hd (λ h' c' kp e=>fin its r' hz h' c' kp e) (by simp only[size_toArray] <;> omega)
theorem Zb2:YX X (.type "tuple") (λ xs H Q=>∃ p ys,xs=[.ref p]/\((SqL X.K H p ys/\∀ l,H l=none->Q (.ref l) (upd H l (.tup ys)))\/(SqT X.K H p ys/\Q (.ref p) H))):=by
  intro pins s σ H xs us Q I r h;obtain⟨p,ys,rfl,h⟩:=h;obtain⟨u,rfl,rx⟩:=Xz r;cases rx;rcases h with ⟨hq,q⟩|⟨hq,q⟩
  . obtain⟨its,r',pl,hz⟩:=I.list hq;have hlen:=r'.length;refine call_tuple_list pl.isList (λ h' kp=>?_) (by simp only[size_toArray] <;> omega);have I1:Inv X pins σ H { s with heap:=h' }:=I.kept (t':=s.toks) kp;have I2:Inv X pins σ (upd H h'.objs.size (.tup ys)) { s with heap:=h'.push { cls:=.type "tuple",data:=.seq its.toArray } }:=
      I1.laid (t':=s.toks) (λ b o e=>Heap.get?_push_of_some _ e) (le_refl _) (show Z2 X.prog X.w _ _ _ (.tup ys) from⟨hz,its,r',IsTup.new _ _⟩)
    exact⟨.ref h'.objs.size,_,I2,rfl,q _ (I1.hok.fresh (le_refl _))⟩
  . obtain⟨its,r',pl,hz⟩:=I.tuple hq;exact call_tuple_same pl ⟨.ref p,H,I,rfl,q⟩
noncomputable def tyV (K:Frag)(T:String)(x:V)(H:Hp):Prop:=match x with
  |.str _=>T="str"
  |.int _=>T="int"
  | .ref p=>(T="list"/\∃ xs,SqL K H p xs)\/(T="tuple"/\∃ o,K.lookup p=some o/\o.cls = .type "tuple"/\o.dict=none) \/
      (T="dict"/\((∃ kvs,H p=some (.dK kvs))\/∃ kvs,H p=some (.dT kvs)))\/(T="set"/\∃ S n,H p=some (.set S n))
  |_=>False
theorem tyV_is {pins:List (Addr×Obj)}{σ:St}{H:Hp}{s:Shared}{T:String}{x:V}{v:Value}(I:Inv X pins σ H s)(r:ZM x v)(ty:tyV X.K T x H) :
    s.TypeIs v T/\∀ a,v = .ref a->∃ ob,s.heap.get? a=some ob/\ob.dict=none:=by
  cases x with
  |str z=>
    obtain⟨t,rfl⟩:=r;cases (show T="str" from ty);exact⟨typeIs_str s z t,λ _ e=>nomatch e⟩
  |int i=>
    obtain⟨t,rfl⟩:=r;cases (show T="int" from ty);exact⟨typeIs_int s i t,λ _ e=>nomatch e⟩
  |ref p=>
    cases r;rcases ty with ⟨rfl,xs,hq⟩|⟨rfl,o,hk,hc,hd⟩|⟨rfl,hk⟩|⟨rfl,S,n,hk⟩
    . obtain⟨its,_,pl,_⟩:=I.list hq;refine⟨pl.isList.typeIs,λ a e=>?_⟩;cases e;obtain⟨o,n,e,c,hd,_⟩:=pl;exact⟨o,e,hd⟩
    . refine⟨⟨o,I.kIn p o hk,hc⟩,λ a e=>?_⟩;cases e;exact⟨o,I.kIn _ o hk,hd⟩
    . have z:∃ o,s.heap.get? p=some o/\o.ExactDict:=by
        rcases hk with ⟨kvs,hk⟩|⟨kvs,hk⟩
        . obtain⟨_,_,_,_,o,_,_,e,ex,_⟩:=I.hok p _ hk;exact⟨o,e,ex⟩
        . obtain⟨_,_,_,_,o,_,_,e,ex,_⟩:=I.hok p _ hk;exact⟨o,e,ex⟩
      obtain⟨o,e,ex⟩:=z;refine⟨⟨o,e,ex.1⟩,λ a e2=>?_⟩;cases e2;exact⟨o,e,ex.2.1⟩
    . obtain⟨o,_,_,_,e,ex,_⟩:=I.hok p _ hk;refine⟨⟨o,e,ex.1⟩,λ a e2=>?_⟩;cases e2;exact⟨o,e,ex.2.1⟩
  |_=>exact False.elim ty
noncomputable def tBM (K:Frag)(T:String)(r:V->List V->Hp->VK->Prop)(to:TE)(t:TA):TE:=λ σ H Q=>to σ H λ x H1=>tyV K T x H1/\t σ H1 λ xs H2=>r x xs H2 Q
variable {o e:Expr}{es:List Expr}{to:TE}{t:TA}{name:Str}{apos cpos:Pos}{T id:String}{r:V->List V->Hp->VK->Prop}
theorem X3 (pa:PlainAttrs T)(slot:Slot T name id)(hty:typeOf (.builtin id)=pure (.type "method_descriptor"))(hm:MtR X id r)(ho:PE X o to)(ha:PA X (e::es) t)(hbase:attributeBase o name X.env (eval o X.env)=eval o X.env:=by rfl)(hfew:((backTo cpos (starEach (e::es) X.env)).all (λ x => !x.1) && (backToKw cpos (keywordEach [] X.env)).all (λ x=>x.1.isSome)
      && decide ((e::es).length+([]:List Keyword).length+(if ([]:List Keyword).isEmpty then 0 else 1)<30))=true:=by rfl)(hline:(apos.endLine == cpos.line)=true:=by rfl)(hs:starEach (e::es) X.env=(false,eval e X.env)::starEach es X.env:=by rfl)(hplain:(backTo cpos (starEach es X.env)).any (·.1)=false:=by rfl) :
    PE X (.Call (.Attribute o name apos) (e::es) [] cpos) (tBM X.K T r to t):=by
  refine⟨?_⟩;intro pins s σ H Q I h;refine wpAny_Call_method_late hbase hfew hline rfl (thn (ho pins s σ H _ I h) λ v s1 zz9=>?_);obtain⟨x,H1,I1,r1,ty,q1⟩:=zz9;obtain⟨h1,h2⟩:=tyV_is I1 r1 ty;refine⟨T,id,pa,slot,hty,h1,h2,?_⟩;have hA:=ha cpos pins s1 σ H1 _ I1 q1;rw[hs]at hA ⊢;refine Calls.callWith_builtin (by show(false || (backTo cpos (starEach es X.env)).any (·.1))=false;rw[hplain] <;> rfl) (Calls.evalArgs_plain ?_);exact thn hA λ us s2 ⟨vs,H2,I2,r2,q2⟩=>hm pins s2 σ H2 x vs v us Q I2 r1 r2 q2
/- xs.append(e),list.index on a module's tuple .. are MtR facts of 06m -/
end
open PySem PySem.Spec PyProof.Rows
noncomputable def MtM (X:Cx)(id:String)(r:V->List V->Hp->VK->Prop):Prop:=
  ∀(pins:List (Addr×Obj))(s:Shared)(σ:St)(H:Hp)(x:V)(xs:List V)(v:Value)(us:List Value)(Q:VK),Inv X pins σ H s->ZM x v->ZH xs us->r x xs H Q ->
    wpAny (model X.prog X.w) X.A (call (.builtin id) (v::us)) (EP X pins σ Q) X.xe s
theorem ZH.one:∀ {x:V} {us:List Value},ZH [x] us->∃ u,us=[u]/\ZM x u
  |_,_, .cons r .nil=>⟨_,rfl,r⟩
section
variable {X:Cx}{pins:List (Addr×Obj)}{σ:St}{H:Hp}{s:Shared}{l b:Addr}{xs ys zs:List V}
theorem Inv.lset {its its':List Value}{n:Nat}{f:Array Value->Array Value}{t':Nat}(I:Inv X pins σ H s)(hH:H l=some (.lst xs))(e:s.heap.get? l=some { cls:=.type "list",data:=.seq its.toArray n })(hf:f its.toArray=its'.toArray)(hv:ZH ys its')(hz:ys.length<=sizeLine) :
    Inv X pins σ (upd H l (.lst ys)) { s with heap:=s.heap.update l (Obj.mapSeq f),toks:=t' }:=by
  have q:=PySem.IsL.update e f;rw[hf]at q;refine I.write (x:=l) (e:=l) (by rw[hH];exact trivial) (.inl rfl) (λ b' u hb hu=>(Heap.get?_update_other s.heap (Obj.mapSeq f) (Ne.symm hb)).trans hu) ⟨_,q⟩ ?_;exact⟨hz,its',_,hv,q⟩
theorem Inv.lnew {its:List Value}{t':Nat}(I:Inv X pins σ H s)(hv:ZH ys its)(hz:ys.length<=sizeLine) :
    Inv X pins σ (upd H s.heap.objs.size (.lst ys)) { s with heap:=s.heap.push { cls:=.type "list",data:=.seq its.toArray },toks:=t' }:=
  I.laid (λ _ _ q=>Heap.get?_push_of_some _ q) (le_refl _) ⟨hz,its,0,hv,Heap.get?_push_size _ rfl⟩
theorem Inv.fresh (I:Inv X pins σ H s):H s.heap.objs.size=none:=I.hok.fresh (le_refl _)
theorem Inv.lstM (I:Inv X pins σ H s)(hH:H l=some (.lst xs)):xs.length<=sizeLine/\∃(its:List Value)(n:Nat),ZH xs its/\xs.length=its.length/\s.heap.get? l=some { cls:=.type "list",data:=.seq its.toArray n }:=by
 obtain⟨z,its,n,r,e⟩:=I.hok l _ hH;exact⟨z,its,n,r,r.length,e⟩
end
section
variable {X:Cx}
noncomputable def ZfW:V->List V->Hp->VK->Prop:=λ x vs H Q=>∃ l xs y,x = .ref l/\vs=[y]/\H l=some (.lst xs)/\xs.length<sizeLine/\Q .non (upd H l (.lst (xs++[y])))
theorem Jj:MtM X "list.append" ZfW:=by
 intro pins s σ H x vs v us Q I rx rv h;obtain⟨l,xs,y,rfl,rfl,hH,hz,q⟩:=h;cases rx;obtain⟨u,rfl,ru⟩:=rv.one;obtain⟨z,its,n,r,hl,e⟩:=I.lstM hH;refine call_meets F.slot_list_append ⟨_,e,rfl⟩ F.entry_list_append (F.args_list_append_2 _ _) (PySem.list_append l its.toArray n u (by rw[size_toArray];omega)) ⟨e,?_⟩;refine⟨.non,_,I.lset (its':=its++[u]) hH e (by simp) (r.append (.cons ru .nil)) ?_,rfl,q⟩;rw[length_append,length_singleton];omega
noncomputable def rCat:R2:=λ x y H Q=>∃ l b xs zs,x = .ref l/\y = .ref b/\H l=some (.lst xs)/\H b=some (.lst zs)/\xs.length+zs.length<=sizeLine/\∀ p,H p=none->Q (.ref p) (upd H p (.lst (xs++zs)))
theorem Xr:OpR X (binaryOp .Add) rCat:=by
 intro pins s σ H x y v u Q I rx ry h;obtain⟨l,b,xs,zs,rfl,rfl,hH,hB,hz,q⟩:=h;cases rx;cases ry;obtain⟨z,its,n,r,hl,e⟩:=I.lstM hH;obtain⟨z2,its2,n2,r2,hl2,e2⟩:=I.lstM hB;refine PySem.P.add_list e e2 ?_ (by rw[size_toArray,size_toArray];omega);have ea:its.toArray++its2.toArray=(its++its2).toArray:=by simp
 rw[ea];exact⟨.ref _,_,I.lnew (t':=s.toks) (r.append r2) (by rw[length_append];omega),rfl,q _ I.fresh⟩
end
section
variable {prog:Program}{w:World}{A:Around}{E:Value->Shared->Prop}{s:Shared}
end
section
variable {X:Cx}
end
end L2
namespace Att
open PySem PySem.W PySem.Calls PyProof.Rows
theorem Za3 {P:Params}{h:Heap}:∀(ns:List Int)(vs:List Value),WellAll P h vs (ns.map WData.int)->IntsAre vs ns:=by
  intro ns
  induction ns with
  |nil=>
    intro vs w;rw[map_nil]at w;cases w;exact .nil
  |cons n ns ih=>
    intro vs w;rw[map_cons]at w;cases w with
    |cons a b=>
      cases a;exact .cons _ _ (ih _ b)
theorem Zef {l:OpenLaw}{n:Nat}(hn:l.most=some n){P:Params}{h:Heap}{args:List WData}{vals:List Value}(hpre:l.row.toRowW.claim.pre args=true)(hwl:WellAll P h vals args) :
    ∃ a vs ns,vals=[Value.ref a]/\args=[WData.list (ns.map WData.int)]/\h.get? a=some { cls:=.type "list",data:=.seq vs.toArray }/\IntsAre vs ns/\ns.length<=n:=by
  have hsh:WShape.hasAll [] args [.list .int]=true:=(pre_splitW hpre).1;have hc:l.pre.holds [] { args:=args }=true:=(pre_splitW hpre).2;obtain⟨d,r,rfl,h1,h2⟩:=hasAllW_cons hsh;obtain rfl:=hasAllW_nil h2;obtain⟨xs,rfl,h3⟩:=hasW_list h1;obtain⟨ns,rfl⟩:=items_int h3;have hlen:ns.length<=n:=by
    unfold OpenLaw.pre at hc;have h4:(WTm.not (.lt (.lit (.int (n:Int))) (.len (.arg 0)))).holds [] { args:=[.list (ns.map .int)] }=true:=by
      have h4:=(holds_andW hc).1;rw[hn]at h4;exact h4
    have h5:=condW_of h4 (w_not (w_lt w_lit (w_len_list (w_arg rfl))));rw[length_map]at h5;refine Nat.le_of_not_lt λ q=>?_;have q':(n:Int)<((ns.length:Nat):Int):=by omega
    first
      | (rw[decide_eq_true q']at h5;exact absurd h5 (by decide))
      | (simp at h5;omega)
  cases hwl with
  |cons w1 w2=>
    cases w2;cases w1 with
    |list ho hall=>exact⟨_,_,ns,rfl,rfl,ho,Za3 ns _ hall,hlen⟩
theorem Zel (l:OpenLaw)(args:List WData):l.row.toRowW.claim.post args (.bool true) args=true:=
  postW_of (r:=l.row.toRowW) (X:=(true == true))
    (show WShape.has [] (.bool true) .bool=true by first|rfl|decide|simp[WShape.has,WShape.arms,WShape.armsAll])
    (show(WTm.eq .res (.lit (.bool true))).value [] { args:=args,res:=some (.bool true),after:=args }=some (.bool (true == true)) from w_eq_bool (w_res rfl) w_lit) rfl
theorem attach_call {l:OpenLaw}{n:Nat}{q:Program}{loose:List Str}{XP:(Str->Option Value)->Heap->Prop}{YP:World->Heap->Prop}{d:DefRec}(hn:l.most=some n)(hdf:d.params.defaults=[])(call:∀(w:World)(s₀ s₁:Shared)(mg mb:Str->Option Value)(fa:Addr)(o:Obj)(pm cd doc:Value)(a:Addr)(vs:List Value)(ns:List Int),
      Ground q loose [] XP w s₀ mg mb s₁.heap->YP w s₁.heap ->
      s₁.heap.get? fa=some o->o.data = .func (docDef d.name d.params d.body d.scope pm cd doc)->s₁.heap.CodeRec cd d.name->mg d.name=some (.ref fa) ->
      s₁.heap.get? a=some { cls:=.type "list",data:=.seq vs.toArray }->IntsAre vs ns->ns.length<=n->s₁.gens = #[] ->
      codeAny (model l.prog w) callerA (.call (.ref fa) ⟨[.ref a],[]⟩) (λ r s'=>r = .ok (.ret (.bool true))/\OldK s₁.heap s'.heap/\s'.os=s₁.os/\AllBare s'.gens) s₁) :
    WalkO q loose XP YP l.row.toRowW d [] (λ f vs=>PySem.call f vs):=by
  intro w s₀ s₁ mg mb G Y fa o pm cd doc dV kV ho hd hcd hD hmg hg args vals as hpre hlay hrd hwl hlo;obtain rfl:dV = .none:=Dflts.none hD hdf;obtain rfl:kV = .none:=Dflts.noKw hD;obtain⟨a,vs,ns,rfl,rfl,hobj,hints,hlen⟩:=Zef hn hpre hwl;refine enter_call (codeAny_mono (call w s₀ s₁ mg mb fa o pm cd doc a vs ns G Y ho (fd_plain hd) hcd hmg hobj hints hlen hg) λ r s' hq=>?_);obtain⟨rfl,h2,h3,h4⟩:=hq;exact⟨.inl ⟨.bool true, .bool true,[],rfl,λ _=>rfl, .bool true,Zel l _,λ _=>⟨List.Pairwise.nil,λ _ hm=>(nomatch hm)⟩⟩,h2,h3,h4⟩
section
variable {prog:Program}{w:World}{A:Around}{E:Value->Shared->Prop}{s:Shared}{K:Frag}
end
end Att
namespace L2
open PySem PySem.Spec PyProof.Rows
theorem Zb5:∀ {vs:List Value} {ns:List Int},IntsAre vs ns->ZH (ns.map V.int) vs
  |_,_, .nil => .nil
  |_,_, .cons n t h => .cons ⟨t,rfl⟩ (Zb5 h)
noncomputable def Only (H:Hp):Prop:=∀ b,H b=none\/∃ o xs,H b=some (.frz o (.lst xs))
theorem Zfn {P:Program}{w:World}{K:Frag}{mg mb:Str->Option Value}{CX:CXT}{k:Nat}{fa a:Addr}{fd:FuncData}{x:Str}{sp:Sp}{s₁:Shared}{vs:List Value}{ns:List Int}(KX:K.In s₁.heap)(hns:s₁.heap.Ns mainGlobals mg)(hb:s₁.heap.Ns builtinsNs mb)(hbb:∀ x:Str,x≠"__name__"->mb x=bootBuiltins x)(hlim:s₁.heap.NoLimit)(hg:s₁.gens = #[])(ha:s₁.heap.get? a=some { cls:=.type "list",data:=.seq vs.toArray })(hi:IntsAre vs ns)(hl:ns.length<=sizeLine)(hr:Room k callerA)(F:∀ base:Heap,K.In base->base.Ns mainGlobals mg->FnOk P w K mg base CX k fa fd [x] sp)(hbind:∀(s:Shared)(u:Value),BindsTo s fd ⟨[u],[]⟩ [(x,u)])(hsp:∀ H:Hp,Only H->SqL K H a (ns.map V.int)->sp [.ref a] H (λ v _=>v = .bl true) λ _ _ _=>False)(hCX:∀ H e s',CX [] H s₁ (λ _ _ _=>False) e s'->False) :
    codeAny (model P w) callerA (.call (.ref fa) ⟨[.ref a],[]⟩) (λ r s'=>r = .ok (.ret (.bool true))/\OldK s₁.heap s'.heap/\s'.os=s₁.os/\AllBare s'.gens) s₁:=by
  have rv:=Zb5 hi;have lenV:=hi.length;have core:∀ H:Hp,Only H->SqL K H a (ns.map V.int)->HOk P w H s₁.heap->(∀ b,H b≠none->b=a)->(H a≠none->K.lookup a=none) ->
      codeAny (model P w) callerA (.call (.ref fa) ⟨[.ref a],[]⟩) (λ r s'=>r = .ok (.ret (.bool true))/\OldK s₁.heap s'.heap/\s'.os=s₁.os/\AllBare s'.gens) s₁:=by
    intro H hO hS hok hA hK;have base_of:∀ {b:Addr} {o:Obj},s₁.heap.get? b=some o->H b=none->(ZcQ s₁.heap H).get? b=some o:=λ e n=>Zfs e n;have noA:∀ {b:Addr} {o:Obj} {es:Array DictEntry} {ep:Nat},s₁.heap.get? b=some o->o.data = .dict es ep->H b=none:=λ {b o es ep} e d=>by
      cases q:H b with
      |none=>rfl
      |some u=>
        have e':b=a:=hA b (by rw[q];simp);subst e';rw[ha]at e;cases e;have d':Data.seq vs.toArray _=Data.dict es ep:=d;cases d'
    have nsK:∀ {b:Addr} {m:Str->Option Value},s₁.heap.Ns b m->(ZcQ s₁.heap H).Ns b m:=λ {b m} ⟨o,es,ep,e,d,r⟩=>⟨o,es,ep,base_of e (noA e d),d,r⟩;have hKb:K.In (ZcQ s₁.heap H):=λ b o e=>base_of (KX b o e) (by
      cases q:H b with
      |none=>rfl
      |some u=>
        have e':b=a:=hA b (by rw[q];simp);subst e';rw[hK (by rw[q];simp)]at e;cases e)
    have hM:Mod K mg (ZcQ s₁.heap H):=⟨hKb,nsK hns,⟨mb,nsK hb,hbb⟩,let ⟨mc,h1,h2⟩:=hlim;⟨mc,nsK h1,h2⟩⟩;have e0:Env0 P w K mg (ZcQ s₁.heap H) callerA [] s₁ H:=⟨rfl,hM,λ b o e=>Zf2 e,Nat.le_of_eq (ZeB _ _),trivial,λ b hb=>absurd (show b∈([]:List Addr) from hb) (by simp),hok, .of_eq hg⟩;refine codeAny_mono ((F _ hKb (nsK hns)).run callerA [] s₁ H ⟨[.ref a],[]⟩ [.ref a] [.ref a] _ _ hr e0 (hbind s₁ (.ref a)) (.cons rfl .nil) (hsp H hO hS)) λ r s' h=>?_;cases r with
    |error e=>exact(hCX H e s' h).elim
    |ok fl=>
      cases fl with
      |next=>exact False.elim h
      |brk=>exact False.elim h
      |cont=>exact False.elim h
      |ret u=>
        obtain⟨v,H',os,bare,un,hok',r',q⟩:=h;have q':v = .bl true:=q;subst q';obtain rfl:u=Value.bool true:=r';refine⟨rfl,OldK.of_keep λ b o e=>?_,os,bare⟩;cases q:H b with
        |none=>exact un.keep b o e q (by intro z;exact absurd (show b∈([]:List Addr) from z) (by simp)) (by simp)
        |some u=>
          rcases hO b with z|⟨ob,xs,z⟩
          . rw[q]at z;cases z
          . have z2:=un.frzs b ob _ z;obtain⟨e1,_⟩:=hok b _ z;obtain⟨e2,_⟩:=hok' b _ z2;rw[e]at e1;cases e1;exact e2
  cases hk:K.lookup a with
  |some o=>
    have e:=KX a o hk;rw[ha]at e;cases e;refine core (λ _=>none) (λ _ => .inl rfl) (.inr ⟨_,vs.toArray,_,hk,rfl,rfl,rfl,by rw[size_toArray,lenV];exact hl,by simpa using rv⟩) (λ b u z=>by have z':(none:Option HO)=some u:=z;cases z') (λ b z=>absurd rfl z) λ z=>absurd rfl z
  |none=>
    refine core (λ b=>if b=a then some (.frz { cls:=.type "list",data:=.seq vs.toArray } (.lst (ns.map V.int))) else none) (λ b=>?_) (.inl (.inr ⟨{ cls:=.type "list",data:=.seq vs.toArray },if_pos rfl⟩)) (λ b u z=>?_) (λ b z=>?_) λ _=>hk
    . by_cases hb:b=a
      . exact .inr ⟨_,_,if_pos hb⟩
      . exact .inl (if_neg hb)
    . by_cases hb:b=a
      . have z':=(if_pos hb).symm.trans z;cases z';subst hb;exact⟨ha,by rw[length_map];exact hl,vs,_,rv,ha⟩
      . have z':=(if_neg hb).symm.trans z;cases z'
    . by_cases hb:b=a
      . exact hb
      . exact absurd (if_neg hb) z
open PySem PySem.Spec PyProof.Rows
theorem walk_of {l:PySem.W.OpenLaw}{n k:Nat}{q:Program}{loose:List Str}{XP:(Str->Option Value)->Heap->Prop}{YP:World->Heap->Prop}{d:DefRec}{K:Params->Frag}{CX:World->CXT}{sp:World->Sp}{x:Str}(hn:l.most=some n)(hn2:n<=sizeLine)(hdf:d.params.defaults=[])(hr:Room k callerA)(hY:∀(w:World)(h:Heap),YP w h->(K w.params).In h)(F:∀(w:World)(mg:Str->Option Value)(fa:Addr)(h:Heap),(K w.params).In h->h.Ns mainGlobals mg->mg d.name=some (.ref fa) ->
      ∃ fd:FuncData,(∀(s:Shared)(u:Value),BindsTo s fd ⟨[u],[]⟩ [(x,u)]) /\
        ∀ base:Heap,(K w.params).In base->base.Ns mainGlobals mg->FnOk l.prog w (K w.params) mg base (CX w) k fa fd [x] (sp w))(hsp:∀(w:World)(H:Hp)(a:Addr)(ns:List Int),ns.length<=n->Only H->SqL (K w.params) H a (ns.map V.int)->sp w [.ref a] H (λ v _=>v = .bl true) λ _ _ _=>False)(hCX:∀(w:World)(H:Hp)(s:Shared)(e:Value)(s':Shared),CX w [] H s (λ _ _ _=>False) e s'->False) :
    PySem.W.WalkO q loose XP YP l.row.toRowW d [] (λ f vs=>PySem.call f vs):=by
  refine Att.attach_call hn hdf λ w s₀ s₁ mg mb fa o pm cd doc a vs ns G Y ho hd hcd hmg hobj hints hlen hg=>?_;have KX:=hY w _ Y;obtain⟨fd,hb,hF⟩:=F w mg fa _ KX G.T.g hmg;exact Zfn KX G.T.g G.T.b G.T.builtins G.T.nolimit hg hobj hints (le_trans hlen hn2) hr hF hb (λ H hO hS=>hsp w H a ns hlen hO hS) λ H e s'=>hCX w H s₁ e s'
open PySem PySem.Spec PyProof.Rows
noncomputable def YV (s:Stmt):Arguments:=match s with
  |.FunctionDef _ a _ _ _ _ _ _ _ _=>a
  |_=>{ posonlyargs:=[],args:=[],vararg:=none,kwonlyargs:=[],kw_defaults:=[],kwarg:=none,defaults:=[] }
noncomputable def Yk (s:Stmt):List Stmt:=match s with
  |.FunctionDef _ _ b _ _ _ _ _ _ _=>b
  |_=>[]
noncomputable def Zk (s:Stmt):Scope:=match s with
  |.FunctionDef _ _ _ _ _ _ sc _ _ _=>sc
  |_=>{ kind:=.function,names:=[],isGenerator:=false,isCoroutine:=false }
noncomputable abbrev CX0:CXT:=λ _ _ _ _ _ _=>False
noncomputable abbrev E0:XK:=λ _ _ _=>False
theorem pass0 {X:Cx}:Xx CX0 X E0:=λ _ _ _ _ _ _ _ h=>h.elim
structure Fun (K:Frag)(x qual:Str)(st:Stmt)(f:Addr)(fd:FuncData):Prop where
  ex:∃(oc:Value)(od:Option Addr)(kV doc pm:Value)(an:Option Addr)(cdv ct:Value)(osl:Array (Option Value)),
    fd=fnOf x qual (YV st) (Yk st) (Zk st) .none kV doc pm an cdv ct/\K.lookup f=some ⟨oc,od, .func fd,osl⟩/\codeIn K cdv qual=true
  kp:keepIn K (.ref f)=true
section
variable {P:Program}{w:World}{K:Frag}{mg:Str->Option Value}{base:Heap}
theorem Fun.ok {x qual:Str}{st:Stmt}{f:Addr}{fd:FuncData}{N ps:List Str}{k:Nat}{sp:Sp}(F:Fun K x qual st f fd)(S:FnScope N ps (Zk st))(len:∀ vs H Q E,sp vs H Q E->vs.length=ps.length)(hbody:∀(cdv:Value)(A:Around)(outer:List Env)(s:Shared)(H:Hp)(vs:List V)(Q:VK)(E:XK),Room k (A.deeper (envOfC qual (Zk st) s.heap.objs.size f cdv))->sp vs H Q E ->
      ∃ t,PSs (Zp CX0 P w K mg base N qual (Zk st) f cdv A outer s H E).nox (Yk st) t/\t { nx:=λ _ H'=>Q .non H',rt:=Q } (JV N vs) H):FnOk P w K mg base CX0 (k+1) f fd ps sp:=by
  obtain⟨oc,od,kV,doc,pm,an,cdv,ct,osl,rfl,lk,hcd⟩:=F.ex;refine fn_of lk hcd S len λ A outer s H vs Q E hr hsp=>?_;obtain⟨t,h,q⟩:=hbody cdv A outer s H vs Q E hr hsp;exact⟨t,h.nox,q⟩
theorem Fun.binds {x qual:Str}{st:Stmt}{f:Addr}{fd:FuncData}{ps:List Str}(F:Fun K x qual st f fd)(h:∀(kV doc pm:Value)(an:Option Addr)(cdv ct:Value)(us:List Value),us.length=ps.length->bindArgs (fnOf x qual (YV st) (Yk st) (Zk st) .none kV doc pm an cdv ct) ⟨us,[]⟩=pure (ps.zip us)):JA K fd ps []:=by
 obtain⟨oc,od,kV,doc,pm,an,cdv,ct,osl,rfl,lk,hcd⟩:=F.ex;exact .all (h kV doc pm an cdv ct)
theorem Zfv {x qual:Str}{st:Stmt}{f:Addr}{oc:Value}{od an:Option Addr}{osl:Array (Option Value)}{kV doc pm cdv ct:Value}(l:K.lookup f=some ⟨oc,od, .func (fnOf x qual (YV st) (Yk st) (Zk st) .none kV doc pm an cdv ct),osl⟩)(c:codeIn K cdv qual=true)(k:keepIn K (.ref f)=true):Fun K x qual st f (fnOf x qual (YV st) (Yk st) (Zk st) .none kV doc pm an cdv ct):=⟨⟨oc,od,kV,doc,pm,an,cdv,ct,osl,rfl,l,c⟩,k⟩
end
theorem Zb8 {n:Nat}(h:n<=1000):n<sizeLine:=Nat.lt_of_le_of_lt h (by decide)
section
variable {X:Cx}
theorem pv (i:Nat){x:Str}{pos:Pos}(hN:X.N[i]? = some x:=by rfl)(hv:Vis X.env.scope x:=by first|exact Or.inl rfl|exact Or.inr (Or.inl rfl)|exact Or.inr (Or.inr rfl))(hd:(x == ("__debug__":Str))=false:=by decide)(hcd:(x == ("__classdict__":Str))=false:=by decide):PE X (.Name x pos) (tVar i):=pe_var hN hv hd hcd
end
section
variable {X:Cx}
end
theorem Yi {A B:Prop}(h:B):if false=true then A else B:=by
 rw[if_neg Bool.false_ne_true];exact h
theorem Xg {A B:Prop}(h:A):if true=true then A else B:=by
 rw[if_pos rfl];exact h
theorem Yb {c A B:Prop}[Decidable c](h1:c->A)(h2:¬ c->B):if c then A else B:=by
  by_cases h:c
  . rw[if_pos h];exact h1 h
  . rw[if_neg h];exact h2 h
noncomputable def Zn (H H':Hp):Prop:=∀ b o,H b=some o->H' b=some o
theorem Zn.refl (H:Hp):Zn H H:=λ _ _ h=>h
theorem Zn.trans {H H1 H2:Hp}(a:Zn H H1)(b:Zn H1 H2):Zn H H2:=λ c o h=>b c o (a c o h)
theorem Zn.free {H H':Hp}(e:Zn H H'){l:Addr}(h:H' l=Option.none):H l=Option.none:=by
  cases q:H l with
  |none=>rfl
  |some o=>
    rw[e l o q]at h;cases h
theorem Zn.seq {K:Frag}{H H':Hp}{a:Addr}{xs:List V}(e:Zn H H')(h:SqL K H a xs):SqL K H' a xs:=by
  rcases h with (h|⟨o,h⟩)|h
  . exact .inl (.inl (e _ _ h))
  . exact .inl (.inr ⟨o,e _ _ h⟩)
  . exact .inr h
section
variable {κ:Type}[DecidableEq κ]
end
open PySem PySem.Spec PyProof.Rows
structure Dn (P:Program)(w:World)(K:Frag)(mg:Str->Option Value)(base:Heap)(k:Nat)(x:Str)(ps:List Str)(sp:Sp):Prop where
  ex:∃ f fd,FnOk P w K mg base CX0 k f fd ps sp/\mg x=some (.ref f)/\keepIn K (.ref f)=true/\JA K fd ps []
noncomputable def tFn (sp:Sp)(t:TA):TE:=λ σ H Q=>t σ H λ vs H1=>sp vs H1 Q E0
section
variable {X:Cx}{k:Nat}{ps:List Str}{sp:Sp}{x:Str}{p pos:Pos}{e:Expr}{es:List Expr}{t:TA}
theorem Zy (D:Dn X.prog X.w X.K X.mg X.base k x ps sp)(hr:Room k X.A)(ha:PA X (e::es) t)(hg:Gl X x:=by rfl)(hdb:(x == ("__debug__":Str))=false:=by decide)(he:starEach (e::es) X.env=(false,eval e X.env)::starEach es X.env:=by rfl)(hpl:(backTo pos (starEach es X.env)).any (·.1)=false:=by rfl) :
    PE X (.Call (.Name x p) (e::es) [] pos) (tFn sp t):=by
  obtain⟨f,fd,F,hm,hk,hb⟩:=D.ex;have q:=ZdR (p:=p) (pos:=pos) F hr hg hm hk hb .nil pass0 ha hdb he hpl;have e:ZdM sp [] E0 t=tFn sp t:=by
    funext σ H Q;show t σ H (λ vs H1=>sp (vs++[]) H1 Q E0)=t σ H λ vs H1=>sp vs H1 Q E0;simp only[append_nil]
  rw[<- e];exact q
theorem Xh:YX X (.builtin "isinstance") (λ xs H Q=>∃ x n t b,xs=[x,V.ty n]/\TyOf X.K H x t/\PySem.W.kitOne X.K t (.type n)=some b/\Q (.bl b) H):=by
  intro pins s σ H xs us Q I r h;obtain⟨x,n,t,b,rfl,ty,e,q⟩:=h;cases r with
  |cons r1 r2=>
    cases r2 with
    |cons r3 r4=>
      cases r4;cases (show _=Value.type n from r3);exact Zez I r1 ty e λ tk=>⟨.bl b,H,I.tok _,rfl,q⟩
end
theorem kit_ii {K:Frag}:PySem.W.kitOne K (.type "int") (.type "int")=some true:=by rfl
theorem kit_ib {K:Frag}:PySem.W.kitOne K (.type "int") (.type "bool")=some false:=by rfl
theorem Zfp {K:Frag}:PySem.W.kitOne K (.type "tuple") (.type "tuple")=some true:=by rfl
theorem Ze {H:Hp}{p:Addr}(h:H p=none)(o:HO):Zn H (upd H p o):=λ b u q=>by rw[ZT (Yf q h)];exact q
theorem Zn.tupq {K:Frag}{H H':Hp}{a:Addr}{xs:List V}(e:Zn H H')(h:SqT K H a xs):SqT K H' a xs:=by
  rcases h with (h|⟨o,h⟩)|h
  . exact .inl (.inl (e _ _ h))
  . exact .inl (.inr ⟨o,e _ _ h⟩)
  . exact .inr h
open PySem PySem.Spec PyProof.Rows
noncomputable abbrev Cx.comp (X:Cx)(scope:Scope)(cl:List (Str×Addr))(C:Addr)(N':List Str)(s₀:Shared)(H₀:Hp)(fp:List Addr)(pins:List (Addr×Obj)):Cx:=
  { X with N:=N',s₀:=s₀,H₀:=H₀,env:=compEnvC scope cl C X.env,outer:=X.stack,stack:=X.stack,ex:=fp,fn:=λ _=>false,pn:=X.pn++pins,xe:=λ _ _=>False }
noncomputable abbrev PIfsb (X:Cx)(ifs:List Expr)(t:TT):Prop:=
  ∀(pins:List (Addr×Obj))(s:Shared)(σ:St)(H:Hp)(Q:Bool->Hp->Prop),Inv X pins σ H s->t σ H Q ->
    wpAny (model X.prog X.w) X.A (forIn ifs true λ c r=>if r=true then do let ok <- isTrue c X.env (eval c X.env);pure (ForInStep.yield ok) else pure (ForInStep.yield r)) (TP X pins σ Q) X.xe s
structure PIfs (X:Cx)(ifs:List Expr)(t:TT):Prop where
  go:PIfsb X ifs t
instance {X:Cx}{ifs:List Expr}{t:TT}:CoeFun (PIfs X ifs t) λ _=>PIfsb X ifs t:=⟨PIfs.go⟩
noncomputable def tAll:TT:=λ _ H Q=>Q true H
theorem X2 {X:Cx}:PIfs X [] tAll:=⟨λ _ _ _ H _ I h=>wpAny_tests_nil ⟨H,I,h⟩⟩
theorem Zbs {X:Cx}{c:Expr}{t:TT}(h:PT X c t):PIfs X [c] t:=⟨λ pins s σ H Q I q=>wpAny_tests_one (h pins s σ H Q I q)⟩
noncomputable def Yl (caps:List (Str×Nat))(σ:St):St:=caps.map λ p=>(σ[p.2]?).join
noncomputable def tLC (caps:List (Str×Nat))(wi:TI)(tt:TT)(te:TE):TE:=λ σ H Q=>wi σ H λ J H1=>∀ D,H1 D=none ->
  ∃ W:Nat->Nat->Hp->Prop,(∃ m,W 0 m (upd H1 D (.lst [])))/\∀ i m H2,W i m H2 ->
    (J.stop i H2/\Q (.ref D) H2)\/(J.go i H2/\∀ x H',J.yld i H2 x H'->tt (some x::Yl caps σ) H' λ b H3=>
      if b=true then te (some x::Yl caps σ) H3 λ v H4=>∃ ys m',H4 D=some (.lst ys)/\ys.length<sizeLine/\m'<m/\W (i+1) m' (upd H4 D (.lst (ys++[v])))
      else ∃ m',m'<m/\W (i+1) m' H3)
section
variable {X:Cx}
theorem Zd5 {scope:Scope}{cl:List (Str×Addr)}{N':List Str}{fp:List Addr}{pins:List (Addr×Obj)}{σ:St}{H:Hp}{s:Shared}(I:Inv X pins σ H s)(hf:∀ b∈fp,Xy X pins H b)(hin:∀ b∈fp,b<s.heap.objs.size)(hkind:scope.kind = .function)(hcl:∀ x c,cl.lookup x=some c->X.env.cells.lookup x=some c)(hhas:∀ x,((relabel scope X.env).names.lookup x=some .cell\/(relabel scope X.env).names.lookup x=some .free)->∃ c,cl.lookup x=some c) :
    (X.comp scope cl s.heap.objs.size N' s H fp pins).Ok where
  mod:=I.ok.mod
  kind:=by show(relabel scope X.env).kind=_;exact hkind
  glob:=I.ok.glob
  blt:=I.ok.blt
  above:=le_refl _
  inj:=λ x y c h1 h2=>I.ok.inj x y c (hcl x c h1) (hcl y c h2)
  has:=hhas
  cab:=λ x c h _=>by cases h
  hd:=I.ok.hd
  frames:=I.ok.frames
  stk:=.inl rfl
  exf:=λ b hb=>⟨ne_of_lt (hin b hb),λ x c e=>(hf b hb).2.2.2.2.1 x c (hcl x c e)⟩
  bs:=I.bs
  bsz:=le_trans I.ok.bsz I.sz
  noex:=λ b o e hb=>by
    rcases(hf b hb).2.2.2.1 with z|z
    . exact I.ok.noex b o e z
    . exact absurd (lt_of_lt_of_le (Heap.lt_size (I.ok.bs b o e).1) z) (lt_irrefl _)
  exfs:=λ b hb z=>by
    rcases List.mem_cons.mp (I.stkSub b z) with e|e
    . exact(hf b hb).2.1 e
    . exact(hf b hb).2.2.1 e
  funs:=I.stack
  frf:=I.stkFree
theorem ZfC {scope:Scope}{cl:List (Str×Addr)}{x:Str}{caps:List (Str×Nat)}{fp:List Addr}{pins:List (Addr×Obj)}{σ:St}{H:Hp}{s:Shared}{h1:Heap}{t':Nat}{m:Str->Option Value}(I:Inv X pins σ H s)(hf:∀ b∈fp,Xy X pins H b)(hin:∀ b∈fp,b<s.heap.objs.size)(hkind:scope.kind = .function)(hcl:∀ x c,cl.lookup x=some c->X.env.cells.lookup x=some c)(hhas:∀ x,((relabel scope X.env).names.lookup x=some .cell\/(relabel scope X.env).names.lookup x=some .free)->∃ c,cl.lookup x=some c)(hcap:∀ p∈caps,X.N[p.2]? = some p.1/\X.env.scope.names.lookup p.1=some .cell/\((relabel scope X.env).names.lookup p.1=some .cell\/(relabel scope X.env).names.lookup p.1=some .free))(hn:h1.Ns s.heap.objs.size m)(hk:∀ b o,s.heap.get? b=some o->h1.get? b=some o) :
    Inv (X.comp scope cl s.heap.objs.size (x::caps.map (·.1)) s H fp pins) [] (none::Yl caps σ) H { s with heap:=h1,toks:=t' }:=by
  refine⟨Zd5 I hf hin hkind hcl hhas,rfl,I.bare,Un.kept hk,⟨m,hn,λ i y v e1 e2 e3=>?_⟩,λ y c e=>?_,I.hok.fresh (le_refl _),λ y c e=>I.freeC y c (hcl y c e),λ p hp=>?_,I.hok.kept hk,?_⟩
  . cases i with
    |zero=>cases e2
    |succ i=>
      have e1':(caps.map (·.1))[i]? = some y:=e1;have e2':(caps.map λ p=>(σ[p.2]?).join)[i]? = some (some v):=e2;rw[getElem?_map]at e1' e2';cases q:caps[i]? with
      |none=>rw[q]at e1';cases e1'
      |some p=>
        rw[q]at e1' e2';have hy:p.1=y:=Option.some.inj e1';have hv:(σ[p.2]?).join=some v:=Option.some.inj e2';obtain⟨c1,c2,c3⟩:=hcap p (mem_of_getElem? q);have hv':σ[p.2]? = some (some v):=by
          cases z:σ[p.2]? with
          |none=>rw[z]at hv;cases hv
          |some w=>rw[z]at hv;rw[<- hv];rfl
        obtain⟨m0,_,hl0⟩:=I.loc;obtain⟨u,ru,lk⟩:=hl0 p.2 p.1 v c1 hv' (.inr (.inl c2));subst hy;refine⟨u,ru, .inr ⟨c3,?_⟩⟩;obtain⟨c,hc⟩:=hhas p.1 c3;rcases lk with ⟨k,_⟩|⟨_,c',hc',z⟩
        . have k':X.env.scope.names.lookup p.1=some .local:=k;rw[c2]at k';cases k'
        . have:c=c':=Option.some.inj ((hcl p.1 c hc).symm.trans hc');subst this;obtain⟨o,ho,hd⟩:=z;exact⟨c,hc,o,hk _ _ ho,hd⟩
  . obtain⟨v,o,ho,hd⟩:=I.cell y c (hcl y c e);exact⟨v,o,hk _ _ ho,hd⟩
  . have hp':p∈X.pn++pins:=by simpa using hp
    obtain⟨a1,a2,a3,a4,a5⟩:=I.pin p hp';refine⟨hk _ _ a1,a2,ne_of_lt (Heap.lt_size a1),λ z=>?_,a5⟩;rcases List.mem_cons.mp (I.stkSub p.1 z) with e|e
    . exact a3 e
    . exact a4 e
  . show(none::Yl caps σ).length=(x::caps.map (·.1)).length;simp[Yl]
theorem Zf6 {elt iter:Expr}{x:Str}{px:Pos}{ifs:List Expr}{scope:Scope}{cl:List (Str×Addr)}{pos:Pos}{caps:List (Str×Nat)}{wi:TI}{tt:TT}{te:TE}(hc:X.calm=true)(hi:PI X (.Name x px) iter wi)(ht:∀ C s₀ H₀ fp pins,PIfs (X.comp scope cl C (x::caps.map (·.1)) s₀ H₀ fp pins) ifs tt)(he:∀ C s₀ H₀ fp pins,PE (X.comp scope cl C (x::caps.map (·.1)) s₀ H₀ fp pins) elt te)(hclos:closureFor scope X.env=pure cl)(hcell:∀ y∈scope.names,y.2 ≠ .cell)(hkind:scope.kind = .function)(hnames:∀ y∈scope.names,y.2 = .local->scope.names.lookup y.1=some .local)(hx:scope.names.lookup x=some .local)(hcl:∀ x c,cl.lookup x=some c->X.env.cells.lookup x=some c)(hhas:∀ x,((relabel scope X.env).names.lookup x=some .cell\/(relabel scope X.env).names.lookup x=some .free)->∃ c,cl.lookup x=some c)(hcap:∀ p∈caps,X.N[p.2]? = some p.1/\X.env.scope.names.lookup p.1=some .cell/\((relabel scope X.env).names.lookup p.1=some .cell\/(relabel scope X.env).names.lookup p.1=some .free))(hnd:(x::caps.map (·.1)).Nodup)(hs:∀ x,foldedSetIterable iter X.env x=pure x){pins:List (Addr×Obj)}{s:Shared}{σ:St}{H:Hp}{Q:VK}{use:Option (Value->Sem Unit)}{QQ:Value->Shared->Prop}{pos2:Pos}(I:Inv X pins σ H s)(h:tLC caps wi tt te σ H Q)(fin:∀ D C H5 s6 r,Xy X pins H5 C->(∃ m,s6.heap.Ns C m)->Inv X pins σ H5 s6->Q (.ref D) H5->compPost (model X.prog X.w) X.A X.xe use QQ (.ref D) C (.ok r) s6) :
    wpAny (model X.prog X.w) X.A (comprehension (.ListComp elt [⟨.Name x px,iter,ifs,0⟩] scope pos) scope X.env pos2 (newList []) false (eval iter X.env) use) QQ X.xe s:=by
  refine wpAny_comprehension_free (use:=use) rfl hs hclos hkind hnames (thn (hi pins s σ H _ I h) λ v s1 h1=>thn h1 λ itv s2 h2=>?_);obtain⟨it,fp,tn,J,H2,e,I2,T,st2,f2,q2⟩:=h2;subst e;refine wpAny_newObj_type ?_ (by show 0<=sizeLine;exact zero_le _);have fD:H2 s2.heap.objs.size=none:=I2.fresh;obtain⟨W,⟨m0,w0⟩,turn⟩:=q2 s2.heap.objs.size fD;have I3:=I2.lnew (its:=[]) (ys:=[]) (t':=s2.toks) .nil (zero_le _);have lt2:∀ b∈fp,b<s2.heap.objs.size:=λ b hb=>by
    obtain⟨o,ho,_⟩:=T.obj 0 _ st2 b hb;exact Heap.lt_size ho
  have neD:∀ b∈fp,b≠s2.heap.objs.size:=λ b hb=>ne_of_lt (lt2 b hb);have st3:tn 0 (s2.heap.push { cls:=.type "list",data:=.seq ([]:List Value).toArray }):=T.keep 0 _ _ st2 λ b _ o e=>Heap.get?_push_of_some _ e;have f3:∀ b∈fp,Xy X pins (upd H2 s2.heap.objs.size (.lst [])) b:=λ b hb=>⟨by rw[ZT (neD b hb)];exact(f2 b hb).1,(f2 b hb).2⟩;generalize hs3:({ s2 with heap:=s2.heap.push { cls:=.type "list",data:=.seq ([]:List Value).toArray },toks:=s2.toks }:Shared)=s3 at I3;generalize hD:s2.heap.objs.size=D at *;have hs3h:s3.heap=s2.heap.push { cls:=.type "list",data:=.seq ([]:List Value).toArray }:=by rw[<- hs3]
  have goal3:wpAny (model X.prog X.w) X.A (newFunctionEnv scope X.env.globals cl [] X.env.qual none .none (some X.env)) (λ cenv s₄=>
      codeAny (model X.prog X.w) X.A (.compStart (.ListComp elt [⟨.Name x px,iter,ifs,0⟩] scope pos) 0 (.ref it) (.ref D) { cenv with scope:=relabel scope X.env })
        (compPost (model X.prog X.w) X.A X.xe use QQ (.ref D) cenv.locals) s₄) X.xe s3:=by
    have lt3:∀ b∈fp,b<s3.heap.objs.size:=λ b hb=>by
      rw[hs3h,Heap.size_push,hD];exact Nat.lt_succ_of_lt (lt2 b hb)
    refine wpAny_newFunctionEnv hcell (by intro y hy;simp at hy) (λ h₁ hns₁ hsb₁=>?_) hkind;have old:∀ b o,s3.heap.get? b=some o->h₁.get? b=some o:=λ b o e=>hsb₁.extBut b o (ne_of_lt (Heap.lt_size e)) (Heap.get?_push_of_some _ e);have I4:Inv (X.comp scope cl s3.heap.objs.size (x::caps.map (·.1)) s3 (upd H2 D (.lst [])) fp pins) [] (none::Yl caps σ) (upd H2 D (.lst [])) { s3 with heap:=h₁,toks:=s3.toks+0 }:=
      ZfC I3 f3 lt3 hkind hcl hhas hcap hns₁ old
    have st4:tn 0 h₁:=T.keep 0 _ _ (by rw[<- hs3h]at st3;exact st3) λ b hb o e=>old b o e;have stat:∀ {H':Hp},(∀ b∈fp,H' b=none)->∀ b∈fp,Xy (X.comp scope cl s3.heap.objs.size (x::caps.map (·.1)) s3 (upd H2 D (.lst [])) fp pins) [] H' b:=λ hn b hb=>
      ⟨hn b hb,ne_of_lt (lt3 b hb),I4.ok.exfs b hb, .inl hb,λ y c e=>(f3 b hb).2.2.2.2.1 y c (hcl y c e),λ p hp=>(f3 b hb).2.2.2.2.2 p (by simpa using hp)⟩
    have loop:codeAny (model X.prog X.w) X.A (.compLoop (.ListComp elt [⟨.Name x px,iter,ifs,0⟩] scope pos) 0 (.ref it) (.ref D) (compEnvC scope cl s3.heap.objs.size X.env))
        (compPost (model X.prog X.w) X.A X.xe use QQ (.ref D) s3.heap.objs.size) { s3 with heap:=h₁,toks:=s3.toks+0 }:=by
      refine codeAny_compLoop_tests (λ n s'=>∃ i v H',Inv (X.comp scope cl s3.heap.objs.size (x::caps.map (·.1)) s3 (upd H2 D (.lst [])) fp pins) [] (v::Yl caps σ) H' s'/\tn i s'.heap/\(∀ b∈fp,H' b=none)/\W i n H') ?_ m0 ⟨0,none,_,I4,st4,λ b hb=>(f3 b hb).1,w0⟩;rintro n s5 ⟨i,v5,H5,I5,st5,fr5,w5⟩;rcases turn i n H5 w5 with ⟨stop,qn⟩|⟨go,step⟩
      . refine wpAny_noRaise (thn (T.done (X.comp scope cl s3.heap.objs.size (x::caps.map (·.1)) s3 (upd H2 D (.lst [])) fp pins) rfl rfl rfl hc i [] s5 _ H5 (λ _ _=>False) I5 (stat fr5) st5 stop) λ r s6 zz9=>?_);obtain⟨hr,I6⟩:=zz9;subst hr;obtain⟨m6,hn6,_⟩:=I6.loc;have fC:H5 s3.heap.objs.size=none:=I6.free;have u6:Un (frs X.stack) fp (upd H2 D (.lst [])) H5 s3.heap s6.heap:=I6.base;exact fin _ _ _ _ _ (I3.fpOk (le_refl _) fC) ⟨m6,hn6⟩ (I3.call' (ch:=fp) I6.os u6 I6.hok I6.bare λ b hb=>⟨(f3 b hb).2.2.2.1,(f3 b hb).2.1,(f3 b hb).2.2.2.2.1,(f3 b hb).2.2.2.2.2⟩) qn
      . refine wpAny_noRaise (thn (T.item (X.comp scope cl s3.heap.objs.size (x::caps.map (·.1)) s3 (upd H2 D (.lst [])) fp pins) rfl rfl rfl hc i [] s5 _ H5 (λ _ _=>False) I5 (stat fr5) st5 go) λ r s6 zz9=>?_);obtain⟨u,hr,h6⟩:=zz9;subst hr;show wpAny _ _ (letOwnedTupleGo (.Name x px) (.ref it) u >>= λ _=>assign (.Name x px) (compEnvC scope cl s3.heap.objs.size X.env) u) _ _ _;refine wpAny_bind (wpAny_noRaise (thn h6 λ _ s6 zz9=>?_));obtain⟨y,H6,I6,r6,y6,st6,fr6⟩:=zz9;have I6':=I6.pinned (stat fr6) (T.obj _ _ st6);refine wpAny_assign_Name (wpAny_noRaise (Zbf (i:=0) I6' hnd rfl (.inl (lookup_relabel_local hx)) r6 (λ s7 I7=>?_) (.inr (lookup_relabel_local hx))));have again:∀ {v8:Option V} {H8:Hp} {s8:Shared} {m':Nat},Inv (X.comp scope cl s3.heap.objs.size (x::caps.map (·.1)) s3 (upd H2 D (.lst [])) fp pins) ([]++Zav fp s6.heap) (v8::Yl caps σ) H8 s8->W (i+1) m' H8 ->
            ∃ i v H',Inv (X.comp scope cl s3.heap.objs.size (x::caps.map (·.1)) s3 (upd H2 D (.lst [])) fp pins) [] (v::Yl caps σ) H' s8/\tn i s8.heap/\(∀ b∈fp,H' b=none)/\W i m' H':=λ {v8 H8 s8 m'} I8 w8=>by
          refine⟨i+1,v8,H8,I8.unpinned,T.keep _ _ _ st6 λ b hb o e=>(I8.pin (b,o) (mem_append_right _ (mem_append_right _ (Yo hb e)))).1,λ b hb=>?_,w8⟩;obtain⟨o,e,d⟩:=T.obj _ _ st6 b hb;exact(I8.pin (b,o) (mem_append_right _ (mem_append_right _ (Yo hb e)))).2.1
        refine wpAny_noRaise (thn (ht _ _ _ _ _ _ s7 _ H6 _ I7 (step y H6 y6)) λ ok s8 zz9=>?_);obtain⟨H8,I8,q8⟩:=zz9;cases ok with
        |false=>
          rw[if_neg Bool.false_ne_true]at q8 ⊢;obtain⟨m',hm',w8⟩:=q8;exact⟨m',hm',again I8 w8⟩
        |true=>
          rw[if_pos rfl]at q8 ⊢;refine wpAny_noRaise (thn (he _ _ _ _ _ _ s8 _ H8 _ I8 q8) λ z s9 zz9=>?_);obtain⟨v9,H9,I9,r9,ys,m',hD9,hz9,hm9,w9⟩:=zz9;refine wpAny_noRaise (thn (Jj _ s9 _ H9 (.ref D) [v9] (.ref D) [z] (λ v H'=>v = .non/\H'=upd H9 D (.lst (ys++[v9]))) I9 rfl (.cons r9 .nil) ⟨D,ys,v9,rfl,rfl,hD9,hz9,rfl,rfl⟩) λ _ s10 zz9=>?_);obtain⟨v10,H10,I10,_,_,eH⟩:=zz9;subst eH;exact⟨m',hm9,again I10 w9⟩
    exact codeAny_compStart_list loop (T.self _ 0 _ _ _ st4 loop)
  subst hs3;subst hD;exact goal3
theorem Zbt {elt iter:Expr}{x:Str}{px:Pos}{ifs:List Expr}{scope:Scope}{cl:List (Str×Addr)}{pos:Pos}{caps:List (Str×Nat)}{wi:TI}{tt:TT}{te:TE}(hc:X.calm=true)(hi:PI X (.Name x px) iter wi)(ht:∀ C s₀ H₀ fp pins,PIfs (X.comp scope cl C (x::caps.map (·.1)) s₀ H₀ fp pins) ifs tt)(he:∀ C s₀ H₀ fp pins,PE (X.comp scope cl C (x::caps.map (·.1)) s₀ H₀ fp pins) elt te)(hclos:closureFor scope X.env=pure cl)(hcell:∀ y∈scope.names,y.2 ≠ .cell)(hkind:scope.kind = .function)(hnames:∀ y∈scope.names,y.2 = .local->scope.names.lookup y.1=some .local)(hx:scope.names.lookup x=some .local)(hcl:∀ x c,cl.lookup x=some c->X.env.cells.lookup x=some c)(hhas:∀ x,((relabel scope X.env).names.lookup x=some .cell\/(relabel scope X.env).names.lookup x=some .free)->∃ c,cl.lookup x=some c)(hcap:∀ p∈caps,X.N[p.2]? = some p.1/\X.env.scope.names.lookup p.1=some .cell/\((relabel scope X.env).names.lookup p.1=some .cell\/(relabel scope X.env).names.lookup p.1=some .free))(hnd:(x::caps.map (·.1)).Nodup)(hs:∀ x,foldedSetIterable iter X.env x=pure x:=by intro _;rfl) :
    PE X (.ListComp elt [⟨.Name x px,iter,ifs,0⟩] scope pos) (tLC caps wi tt te):=by
  refine⟨?_⟩;intro pins s σ H Q I h;rw[eval_ListComp];refine Zf6 hc hi ht he hclos hcell hkind hnames hx hcl hhas hcap hnd hs I h ?_;intro D C H5 s6 r fC ⟨m6,hn6⟩ I6 q;exact⟨m6,hn6,λ h' hs'=>⟨.ref D,H5,I6.turned (λ b o n e=>(hs'.2 b n).trans e) fC.1 fC.2.1 fC.2.2.2.1 fC.2.2.2.2.1 fC.2.2.2.2.2,rfl,q⟩⟩
end
open PySem PySem.Spec PyProof.Rows
noncomputable def Fly (base:Heap)(l:List Env)(a T:Addr)(C:Value)(h:Heap):Prop:=
 base.StaysIn h/\base.get? a=none/\h.FunFrames base l/\∃ a0 oe vs oT ts,h.get? a=some oe/\(oe.cls=C/\vs[0]? = some a0)/\oe.data = .fields vs/\vs[1]? = some (.ref T)/\base.get? T=none/\T≠a/\h.get? T=some oT/\oT.data = .fields ts/\ts[3]? = some .none
noncomputable def CXR (P:Program)(w:World)(base:Heap):CXT:=λ outer H s E e s'=>∃(a T:Addr)(C:Value)(H':Hp),e = .ref a/\s'.os=s.os/\AllBare s'.gens/\Un (frs outer) [] H H' s.heap s'.heap/\HOk P w H' s'.heap /\
 Fly base outer a T C s'.heap/\H' a=none/\H' T=none/\s.heap.get? a=none/\s.heap.get? T=none/\E C none H'
theorem Z2.got {P:Program}{w:World}{H:Hp}{h:Heap}{a:Addr}{o:HO}(x:Z2 P w H h a o):∃ ob,h.get? a=some ob:=by
  cases o with
  |lst xs=>obtain⟨_,_,_,_,e⟩:=x;exact⟨_,e⟩
  |tup xs=>obtain⟨_,_,_,o,e,_⟩:=x;exact⟨_,e⟩
  |dK kvs=>obtain⟨_,_,_,_,o,_,_,e,_⟩:=x;exact⟨_,e⟩
  |dT kvs=>obtain⟨_,_,_,_,o,_,_,e,_⟩:=x;exact⟨_,e⟩
  |set S n=>obtain⟨o,_,_,_,e,_⟩:=x;exact⟨_,e⟩
  |ins C dx fs=>obtain⟨_,_,_,e,_⟩:=x;exact⟨_,e⟩
  |own y=>obtain⟨_,e⟩:=x;exact⟨_,e⟩
  |xd fs=>obtain⟨_,⟨_,_,_,e,_⟩,_⟩:=x;exact⟨_,e⟩
  |rng lo hi=>obtain⟨_,_,_,e⟩:=x;exact⟨_,e⟩
  |frz ob u=>obtain⟨e,_⟩:=x;exact⟨_,e⟩
  |tbl ps=>exact⟨_,(show h.get? a=some _ from x)⟩
  |met f y=>exact⟨_,(show h.get? a=some _ from x)⟩
  |ext φ=>obtain⟨_,⟨_,e⟩,_⟩:=x;exact⟨_,e⟩
section
variable {X:Cx}{pins:List (Addr×Obj)}{σ:St}{H:Hp}{s:Shared}
theorem Inv.untr (I:Inv X pins σ H s){b:Addr}(e:s.heap.get? b=none):H b=none:=by
  cases q:H b with
  |none=>rfl
  |some o=>
    obtain⟨ob,z⟩:=(I.hok b o q).got;rw[e]at z;cases z
theorem Inv.stkNo (I:Inv X pins σ H s){b:Addr}(h1:b≠X.env.locals)(h2:b∉X.fs):b∉frs X.stack:=λ z=>(List.mem_cons.mp (I.stkSub b z)).elim h1 h2
theorem Inv.turn2 {h2:Heap}{a T:Addr}(I:Inv X pins σ H s)(ha:X.s₀.heap.get? a=none)(hT:X.s₀.heap.get? T=none)(Ha:H a=none)(HT:H T=none)(hp:∀ p∈X.pn++pins,p.1≠a/\p.1≠T)(k:∀ b o,s.heap.get? b=some o->b≠a->b≠T->b∉frs X.stack->h2.get? b=some o)(U:s.heap.UpToSlots h2):Inv X pins σ H { s with heap:=h2 }:=by
  have ne:∀ b o,X.s₀.heap.get? b=some o->b≠a/\b≠T:=λ b o e=>⟨(λ z=>by rw[z,ha]at e;cases e),(λ z=>by rw[z,hT]at e;cases e)⟩;have neL:∀ b o,X.s₀.heap.get? b=some o->b≠X.env.locals:=λ b o e=>ne_of_lt (lt_of_lt_of_le (Heap.lt_size e) I.ok.above);have fr:∀ b,b∈frs X.stack->∃ o,s.heap.get? b=some o/\∀ vs,o.data ≠ .fields vs:=λ b hb=>(I.stack.mem hb).2;have cellK:∀ c v,s.heap.IsCell c v->h2.IsCell c v:=λ c v ⟨o,ho,hd⟩=>by
    obtain⟨sl,q⟩:=U c o ho λ vs z=>by rw[hd]at z;cases z
    exact⟨_,q,hd⟩
  refine⟨I.ok,I.os,I.bare,⟨λ b o e n hb hx=>?_,λ b o e n hb hx=>?_,I.base.free,λ b o e hx=>?_,I.base.tups,I.base.frzs,I.base.tbls⟩,?_,λ x c e=>?_,I.free,I.freeC,λ p hp'=>?_,λ b u e=>?_,I.len⟩
  . exact k b o (I.base.keep b o e n hb hx) (ne b o e).1 (ne b o e).2 (I.stkNo (neL b o e) hb)
  . obtain⟨sl,e1⟩:=I.base.slot b o e n hb hx;obtain⟨_,o',ho',d'⟩:=I.ok.funs.mem hb;have:o'=o:=by rw[e]at ho';exact(Option.some.inj ho').symm
    subst this;obtain⟨sl',e2⟩:=U b _ e1 (λ vs=>d' vs);exact⟨sl',e2⟩
  . obtain⟨o',e1⟩:=I.base.there b o e hx
    by_cases hb:b∈frs X.stack
    . obtain⟨o2,e2,d2⟩:=fr b hb;obtain⟨sl',e3⟩:=U b _ e2 d2;exact⟨_,e3⟩
    . exact⟨o',k b o' e1 (ne b o e).1 (ne b o e).2 hb⟩
  . obtain⟨m,hn,hl⟩:=I.loc;refine⟨m,U.ns hn,λ i x v e1 e2 e3=>?_⟩;obtain⟨u,r,l⟩:=hl i x v e1 e2 e3;refine⟨u,r,?_⟩;rcases l with l|⟨kk,c,e,z⟩
    . exact .inl l
    . exact .inr ⟨kk,c,e,cellK c _ z⟩
  . obtain⟨v,z⟩:=I.cell x c e;exact⟨v,cellK c v z⟩
  . obtain⟨e,n,nl,nf,d⟩:=I.pin p hp';exact⟨k p.1 p.2 e (hp p hp').1 (hp p hp').2 (I.stkNo nl nf),n,nl,nf,d⟩
  . have tr:∀ c v,H c=some v->c≠a/\c≠T/\c∉frs X.stack:=λ c v q=>⟨(λ z=>by rw[z,Ha]at q;cases q),(λ z=>by rw[z,HT]at q;cases q),(λ z=>by rw[I.stkFree c z]at q;cases q)⟩;refine(I.hok b u e).stay (λ c v hc q=>?_) (λ _ q=>q) λ _ _ q=>q;rcases hc with z|z
    . obtain⟨t1,t2,t3⟩:=tr b u e;rw[z]at q ⊢;exact k b v q t1 t2 t3
    . obtain⟨t1,t2,t3⟩:=tr c _ z;exact k c v q t1 t2 t3
end
abbrev bmV:List Value:=[.type "ValueError", .type "Exception", .type "BaseException", .type "object"]
noncomputable def XCls (K:Frag)(C:Addr):Prop:=excIn K C bmV "ValueError.__new__"=true
theorem ZeK {K:Frag}{h:Heap}{C:Addr}(X:K.In h)(q:XCls K C):∃ bm N nm q bs hdct sn sub ab col dd k0 k1 k2 k3 k5 mN,h.get? C=some (excClassObj nm q C N bs bm hdct sn sub ab col dd k0 k1 k2 k3 k5 "ValueError.__new__")/\h.Ns N mN/\mN "__init__"=none/\OwnTail h bmV bm:=by
  unfold XCls excIn at q;split at q
  . rename_i dd cd sl ho;split at q
    . rename_i C' bm k0 k1 k2 k3 n k5 hm hs;simp only[and_eq_true,beq_iff_eq,Bool.not_eq_true']at q;obtain⟨⟨⟨⟨⟨rfl,rfl⟩,hdel⟩,ht⟩,hok⟩,hni⟩:=q;obtain⟨nm,bs,mro,ns,qn,hd,sn,sub,ab,col,del⟩:=cd;dsimp only at hm hdel hok hni;subst hm hdel;have hsl:sl = #[k0,k1,k2,k3,some (.builtin "ValueError.__new__"),k5]:=by
        obtain⟨l⟩:=sl;simp only at hs;rw[hs]
      subst hsl;exact⟨bm,ns,nm,qn,bs,hd,sn,sub,ab,col,dd,k0,k1,k2,k3,k5,_,X _ _ ho, .of_isNs (PySem.W.isNs_of_in X hok),PySem.W.nsMap_none_of_in X hok hni,PySem.W.tail_of_in X ht⟩
    . cases q
  . cases q
section
variable {P:Program}{w:World}{K:Frag}{mg:Str->Option Value}{base:Heap}{N:List Str}{qual:Str}{scope:Scope}{f:Addr}{cd:Value}{A:Around}{outer:List Env}{s0:Shared}{H0:Hp}{E:XK}
theorem Yu {x:Str}{C:Addr}{e:Expr}{te:TE}{np cpos pos:Pos}(hE:XCls K C)(hm:mg x=some (.ref C))(he:PE (Zp (CXR P w base) P w K mg base N qual scope f cd A outer s0 H0 E) e te)(hg:Gl (Zp (CXR P w base) P w K mg base N qual scope f cd A outer s0 H0 E) x:=by rfl)(hst:starEach [e] (Zp (CXR P w base) P w K mg base N qual scope f cd A outer s0 H0 E).env=[(false,eval e (Zp (CXR P w base) P w K mg base N qual scope f cd A outer s0 H0 E).env)]:=by rfl)(hd:(x == ("__debug__":Str))=false:=by decide) :
    PS (Zp (CXR P w base) P w K mg base N qual scope f cd A outer s0 H0 E) (.Raise (some (.Call (.Name x np) [e] [] cpos)) none pos) (λ _ σ H=>te σ H λ v H1=>([v]:List V).length=1/\E (.ref C) none H1):=by
  refine⟨?_⟩;intro pins s σ H D I h;obtain⟨bm,Na,nm,q,bs,hdct,sn,sub,ab,col,dd,k0,k1,k2,k3,k5,mN,hC,hN,hni,T⟩:=ZeK I.ok.mod.kin hE;refine wpAny_Raise_call_subU (C:=C) (nm:=nm) (q:=q) (N:=Na) (bs:=bs) (bm:=bm) (hdct:=hdct) (sn:=sn) (sub:=sub) (ab:=ab) (col:=col) (dd:=dd) (k0:=k0) (k1:=k1) (k2:=k2) (k3:=k3) (k5:=k5)
    PySem.F.excBase_ValueError rfl PySem.F.excBase_ValueError (mN:=mN) (T.hasType rfl) (I.ok.hd rfl) (by rw[hst];rfl) hni (Jk I hg hm ⟨rfl,?_⟩ hd)
  have ha:=Za (X:=Zp (CXR P w base) P w K mg base N qual scope f cd A outer s0 H0 E) he Zb hst cpos pins s σ H (λ vs H1=>vs.length=1/\E (.ref C) none H1) I h;rw[hst]at ha ⊢;refine Calls.evalArgs_plain (wpAny_mono ha (λ us s2 ⟨vs,H2,I2,r2,hl2,q2⟩=>?_) λ _ _ z=>z);have hlu:us.length<=sizeLine:=by
    rw[<- r2.length,hl2]
    decide
  refine⟨rfl,hlu,I2.bk _ _ hC,hN.keeps I2.bk,T.keeps I2.bk,λ h' ex hx=>?_⟩;have hin:∀ env∈(envOfC qual scope s0.heap.objs.size f cd::outer),∀ b,env.frame=some b->b∈(envOfC qual scope s0.heap.objs.size f cd::outer).filterMap (·.frame):=λ env he b hb=>List.mem_filterMap.mpr ⟨env,he,hb⟩;have stk:s2.heap.FunFrames base (envOfC qual scope s0.heap.objs.size f cd::outer):=I2.stack;have notL:∀ b o,s0.heap.get? b=some o->b≠s0.heap.objs.size:=λ b o e=>ne_of_lt (Heap.lt_size e);have inB:∀ b o,s2.heap.get? b=some o->b∉frs (envOfC qual scope s0.heap.objs.size f cd::outer)->(hideAll s2.heap (frs (envOfC qual scope s0.heap.objs.size f cd::outer))).get? b=some o:=λ b o e n=>PySem.W.hideAll_get _ e n;show wpAny (model P w) (A.deeper (envOfC qual scope s0.heap.objs.size f cd)) (leaving (envOfC qual scope s0.heap.objs.size f cd) (.ref ex)) (λ _ s''=>CXR P w base outer H0 s0 E (.ref ex) s'') (λ e' s''=>CXR P w base outer H0 s0 E e' s'') { s2 with heap:=h' };refine wpAny_leaves_madeW (base:=hideAll s2.heap (frs (envOfC qual scope s0.heap.objs.size f cd::outer))) (h:=s2.heap) (L:=s0.heap.objs.size) I2.ok.frames rfl (λ b o z=>PySem.W.of_hideAll _ z) (PySem.W.funFrames_hide stk hin) hx λ h'' t fl tup ht U=>?_;obtain⟨f1,f2,f3,oe,vs,Tr,oT,ts,g1,g2,g3,g4,g5,g6,g7,g8,g9⟩:=fl;have baseB:base.StaysIn (hideAll s2.heap (frs (envOfC qual scope s0.heap.objs.size f cd::outer))):=λ b o z=>inB b o (I2.bk b o z) λ hb=>by rw[(stk.mem hb).1]at z;cases z
  have U2:∀ b o,s2.heap.get? b=some o->(∀ vs,o.data ≠ .fields vs)->∃ sl,h''.get? b=some { o with slots:=sl }:=λ b o z n=>U b o (hx.keeps b o z) n;have noT:s2.heap.get? Tr=none:=by
    cases z:s2.heap.get? Tr with
    |none=>rfl
    |some o=>
      by_cases hb:Tr∈frs (envOfC qual scope s0.heap.objs.size f cd::outer)
      . obtain⟨_,o',ho',d'⟩:=stk.mem hb;obtain⟨sl,z2⟩:=U2 Tr o' ho' d';rw[g7]at z2;have z3:=congrArg (λ q:Option Obj=>q.map (·.data)) z2;simp only[map_some,g8]at z3;exact absurd (Option.some.inj z3).symm (d' ts)
      . rw[inB Tr o z hb]at g5;cases g5
  have up:∀ b o,s0.heap.get? b=some o->s2.heap.get? b≠none:=λ b o z n=>by
    obtain⟨o',z'⟩:=I2.base.there b o z (λ q=>absurd (show b∈([]:List Addr) from q) (by simp));rw[n]at z';cases z'
  have no0:∀ b,s2.heap.get? b=none->s0.heap.get? b=none:=λ b n=>by
    cases z:s0.heap.get? b with
    |none=>rfl
    |some o=>exact absurd n (up b o z)
  have nex:∀ b,b∉(Zp (CXR P w base) P w K mg base N qual scope f cd A outer s0 H0 E).ex:=λ b q=>absurd (show b∈([]:List Addr) from q) (by simp);have notIn:∀ b o,s0.heap.get? b=some o->b∉frs outer->b∉frs (envOfC qual scope s0.heap.objs.size f cd::outer):=λ b o z n=>I2.stkNo (notL b o z) n;refine⟨ex,Tr, .ref C,H2,rfl,I2.os,I2.bare,⟨λ b o z n hb _=>?_,λ b o z n hb _=>?_,λ b o z n _=>I2.base.free b o z n (nex b),λ b o z _=>?_,I2.base.tups,I2.base.frzs,I2.base.tbls⟩,λ b u z=>?_,⟨λ b o z=>f1 b o (baseB b o z),?_,PySem.W.funFrames_base baseB f3, .ref t,oe,vs,oT,ts,g1,g2,g3,g4,?_,g6,g7,g8,g9⟩,I2.untr hx.new,I2.untr noT,no0 _ hx.new,no0 _ noT,q2⟩
  . exact f1 b o (inB b o (I2.base.keep b o z n hb (nex b)) (notIn b o z hb))
  . obtain⟨sl,z1⟩:=I2.base.slot b o z n hb (nex b);obtain⟨_,o',ho',d'⟩:=I2.ok.funs.mem hb;have:o'=o:=by rw[show(Zp (CXR P w base) P w K mg base N qual scope f cd A outer s0 H0 E).s₀.heap.get? b=some o from z]at ho';exact(Option.some.inj ho').symm
    subst this;obtain⟨sl',z2⟩:=U2 b _ z1 (λ vs=>d' vs);exact⟨sl',z2⟩
  . by_cases hb:b∈frs (envOfC qual scope s0.heap.objs.size f cd::outer)
    . obtain⟨_,o',ho',d'⟩:=stk.mem hb;obtain⟨sl,z2⟩:=U2 b o' ho' d';exact⟨_,z2⟩
    . obtain⟨o',z'⟩:=I2.base.there b o z (nex b);exact⟨o',f1 b o' (inB b o' z' hb)⟩
  . refine(I2.hok b u z).stay (λ c v hc q=>?_) (λ _ q=>q) λ _ _ q=>q;have tr:∀ c v,H2 c=some v->c∉frs (envOfC qual scope s0.heap.objs.size f cd::outer):=λ c v q n=>by rw[I2.stkFree c n]at q;cases q
    rcases hc with hc|hc
    . rw[hc]at q ⊢;exact f1 b v (inB b v q (tr b u z))
    . exact f1 c v (inB c v q (tr c _ hc))
  . cases z:base.get? ex with
    |none=>rfl
    |some o=>
      have:=I2.bk ex o z;rw[hx.new]at this;cases this
  . cases z:base.get? Tr with
    |none=>rfl
    |some o=>
      have:=I2.bk Tr o z;rw[noT]at this;cases this
end
open PySem PySem.Spec PyProof.Rows
noncomputable def XP (X:Cx)(pins:List (Addr×Obj))(σ:St)(R:Value->Hp->Prop)(e:Value)(s':Shared):Prop:=∃(a T:Addr)(C:Value)(H':Hp),e = .ref a/\Inv X pins σ H' s'/\Fly X.base X.stack a T C s'.heap/\H' a=none/\H' T=none /\
 X.s₀.heap.get? a=none/\X.s₀.heap.get? T=none/\(∀ p∈X.pn++pins,p.1≠a/\p.1≠T)/\a≠X.env.locals/\R C H'
noncomputable def PSX (X:Cx)(st:List Stmt)(t:Ends->St->Hp->(Value->Hp->Prop)->Prop):Prop:=
 ∀(pins:List (Addr×Obj))(s:Shared)(σ:St)(H:Hp)(D:Ends)(R:Value->Hp->Prop),Inv X pins σ H s->t D σ H R->wpAny (model X.prog X.w) X.A (execs st X.env) (SP X pins D) (XP X pins σ R) s
noncomputable def PEX (X:Cx)(e:Expr)(t:St->Hp->VK->(Value->Hp->Prop)->Prop):Prop:=
 ∀(pins:List (Addr×Obj))(s:Shared)(σ:St)(H:Hp)(Q:VK)(R:Value->Hp->Prop),Inv X pins σ H s->t σ H Q R->wpAny (model X.prog X.w) X.A (eval e X.env) (EP X pins σ Q) (XP X pins σ R) s
structure Dx (P:Program)(w:World)(K:Frag)(mg:Str->Option Value)(base:Heap)(k:Nat)(x:Str)(ps:List Str)(sp:Sp):Prop where
  ex:∃ f fd,FnOk P w K mg base (CXR P w base) k f fd ps sp/\mg x=some (.ref f)/\keepIn K (.ref f)=true/\JA K fd ps []
section
variable {X:Cx}{k:Nat}{ps:List Str}{sp:Sp}{x:Str}{p pos:Pos}{e:Expr}{es:List Expr}{t:TA}
theorem ZfR {f:Addr}{fd:FuncData}{pins:List (Addr×Obj)}{σ:St}{H:Hp}{s:Shared}{Q:VK}{R:Value->Hp->Prop}{us:List Value}{vs:List V}(F:FnOk X.prog X.w X.K X.mg X.base (CXR X.prog X.w X.base) k f fd ps sp)(hr:Room k X.A)(hb:JA X.K fd ps [])(hex:X.ex=[])(I:Inv X pins σ H s)(r:ZH vs us)(h:sp vs H Q (λ C _ H'=>R C H')):wpAny (model X.prog X.w) X.A (call (.ref f) us) (EP X pins σ Q) (XP X pins σ R) s:=by
  have hl:us.length=ps.length:=by rw[<- r.length];exact F.len _ _ _ _ h
  have hb':=hb s us I.kIn (by rw[append_nil];exact hl);rw[append_nil]at hb';refine wpAny_call (codeAny_mono (F.run X.A X.stack s H ⟨us,[]⟩ us vs Q _ hr I.env0 hb' r h) λ r s' hq=>?_);cases r with
  |error e=>
    obtain⟨a,T,C,H',rfl,os,bare,un,hok,fl,Ha,HT,ha,hT,q⟩:=hq;have I':Inv X pins σ H' s':=I.call' (ch:=[]) os un hok bare λ b z=>absurd z (by simp);have no:∀ b,s.heap.get? b=none->X.s₀.heap.get? b=none:=λ b n=>by
      cases z:X.s₀.heap.get? b with
      |none=>rfl
      |some o=>
        obtain⟨o',z'⟩:=I.base.there b o z (by rw[hex];simp);rw[n]at z';cases z'
    obtain⟨m,⟨o,_,_,ho,_⟩,_⟩:=I.loc;exact⟨a,T,C,H',rfl,I',fl,Ha,HT,no a ha,no T hT,λ p hp=>⟨(λ z=>by have:=(I.pin p hp).1;rw[z,ha]at this;cases this),(λ z=>by have:=(I.pin p hp).1;rw[z,hT]at this;cases this)⟩,(λ z=>by rw[z,ho]at ha;cases ha),q⟩
  |ok fl=>
    cases fl with
    |ret u=>exact I.after hq
    |next=>exact False.elim hq
    |brk=>exact False.elim hq
    |cont=>exact False.elim hq
theorem pex_fn (D:Dx X.prog X.w X.K X.mg X.base k x ps sp)(hr:Room k X.A)(hex:X.ex=[])(hxe:X.xe=λ _ _=>False)(ha:PA X (e::es) t)(hg:Gl X x:=by rfl)(hdb:(x == ("__debug__":Str))=false:=by decide)(he:starEach (e::es) X.env=(false,eval e X.env)::starEach es X.env:=by rfl)(hpl:(backTo pos (starEach es X.env)).any (·.1)=false:=by rfl) :
    PEX X (.Call (.Name x p) (e::es) [] pos) (λ σ H Q R=>t σ H λ vs H1=>sp vs H1 Q (λ C _ H'=>R C H')):=by
  obtain⟨f,fd,F,hm,hk,hb⟩:=D.ex;intro pins s σ H Q R I h;refine wpAny_Call_Name_kw (Jk I hg hm ?_ hdb);have q:=ha pos pins s σ H _ I h;rw[hxe]at q;refine PySem.W.callWith_K (h₀:=X.base) I.ok.mod.kin hk (wpAny_noRaise (thn q λ us s1 ⟨vs,H1,I1,r,q⟩=>⟨I1.kIn,?_⟩)) he hpl;exact ZfR F hr hb hex I1 r q
theorem ZfX {tx:St->Hp->VK->(Value->Hp->Prop)->Prop}(he:PEX X e tx):PSX X [.Return (some e) pos] (λ D σ H R=>tx σ H D.rt R):=by
 intro pins s σ H D R I h;exact wpAny_execs_cons (wpAny_Return_some (wpAny_mono (he pins s σ H _ R I h) (λ v s1 ⟨x,H1,I1,r1,q1⟩=>⟨x,σ,H1,I1,r1,q1⟩) λ _ _ z=>z))
end
noncomputable abbrev Cx.hand (X:Cx)(a:Addr)(oe:Obj):Cx:={ X with A:=X.A.mark (some (.ref a)),calm:=false,pn:=(a,oe)::X.pn,xe:=λ _ _=>False }
section
variable {X:Cx}{pins:List (Addr×Obj)}{σ:St}{H:Hp}{s:Shared}
theorem Inv.hand {a:Addr}{oe:Obj}{vs:Array Value}(I:Inv X pins σ H s)(h1:s.heap.get? a=some oe)(h2:H a=none)(h3:a≠X.env.locals)(h4:X.s₀.heap.get? a=none)(h5:oe.data = .fields vs):Inv (X.hand a oe) pins σ H s:=by
  have nf:a∉X.fs:=λ z=>by
    obtain⟨_,o,ho,_⟩:=I.ok.funs.mem z;rw[h4]at ho;cases ho
  refine⟨⟨I.ok.mod,I.ok.kind,I.ok.glob,I.ok.blt,I.ok.above,I.ok.inj,I.ok.has,I.ok.cab,(λ z=>by cases z),I.ok.frames,I.ok.stk,I.ok.exf,I.ok.bs,I.ok.bsz,I.ok.noex,I.ok.exfs,I.ok.funs,I.ok.frf⟩,I.os,I.bare,I.base,I.loc,I.cell,I.free,I.freeC,λ p hp=>?_,I.hok,I.len⟩;rcases List.mem_cons.mp (show p∈(a,oe)::(X.pn++pins) from hp) with z|z
  . rw[z];exact⟨h1,h2,h3,nf,λ v q=>by rw[h5]at q;cases q⟩
  . exact I.pin p z
theorem Inv.unhand {a:Addr}{oe:Obj}(hd:X.calm=true->X.A.handled=none)(I:Inv (X.hand a oe) pins σ H s):Inv X pins σ H s:=
 ⟨⟨I.ok.mod,I.ok.kind,I.ok.glob,I.ok.blt,I.ok.above,I.ok.inj,I.ok.has,I.ok.cab,hd,I.ok.frames,I.ok.stk,I.ok.exf,I.ok.bs,I.ok.bsz,I.ok.noex,I.ok.exfs,I.ok.funs,I.ok.frf⟩,I.os,I.bare,I.base,I.loc,I.cell,I.free,I.freeC,λ p hp=>I.pin p (mem_cons_of_mem _ hp),I.hok,I.len⟩
theorem Zfo {a T:Addr}{C:Value}{h6:Heap}(I:Inv X pins σ H s)(F:Fly X.base X.stack a T C s.heap)(Ha:H a=none)(HT:H T=none)(ha0:X.s₀.heap.get? a=none)(hT0:X.s₀.heap.get? T=none)(hpn:∀ p∈X.pn++pins,p.1≠a/\p.1≠T)(hB:(hideAll s.heap (a::T::frs X.stack)).StaysIn h6)(U:s.heap.UpToSlots h6):Inv X pins σ H { s with heap:=h6 }:=
  I.turn2 ha0 hT0 Ha HT hpn (λ b o z n1 n2 n3=>hB b o (PySem.W.hideAll_get _ z λ m=>by
    rcases List.mem_cons.mp m with q|q
    . exact n1 q
    . rcases List.mem_cons.mp q with q|q
      . exact n2 q
      . exact n3 q)) U
theorem ps_try {x:Str}{np hpos pos:Pos}{body suite:List Stmt}{b₀:Stmt}{c:Value}{tb:Ends->St->Hp->(Value->Hp->Prop)->Prop}{ts:TS}(hb:PSX X body tb)(hs:∀ a oe,PSs (X.hand a oe) (b₀::suite) ts)(hm:X.mg x=some c)(stk:X.stack=X.env::X.outer)(hf:X.env.frame=some X.env.locals)(hg:Gl X x:=by rfl)(hdb:(x == ("__debug__":Str))=false:=by decide) :
    PS X (.Try body [.ExceptHandler (some (.Name x np)) none (b₀::suite) hpos] [] [] pos) (λ D σ H=>tb D σ H (λ C H1=>PySem.W.exmOne X.K C c=some true/\ts D σ H1)):=by
  refine⟨?_⟩;intro pins s σ H D I h;refine wpAny_Try_except (wpAny_mono (hb pins s σ H D _ I h) (λ f s1 q=>?_) λ e s1 hx=>?_)
  . cases f with
    |next=>exact wpAny_execs_nil q
    |ret v=>exact q
    |brk=>exact q
    |cont=>exact q
  . obtain⟨a,T,C,H1,rfl,I1,F,Ha,HT,ha0,hT0,hpn,hne,hx1,q⟩:=hx;obtain⟨F1,F2,F3,a0,oe,vs,oT,ts',g1,g2,g3,g4,g5,g6,g7,g8,g9⟩:=id F;have fl:Heap.FlyingW (hideAll s1.heap (a::T::frs X.stack)) (X.env::X.outer) a C a0 s1.heap:=by
      refine⟨λ b o z=>PySem.W.of_hideAll _ z,PySem.W.hideAll_none _ (.head _),?_,oe,vs,T,oT,ts',g1,g2,g3,g4,PySem.W.hideAll_none _ (.tail _ (.head _)),g6,g7,g8,g9⟩;rw[<- stk];exact PySem.W.funFrames_hide F3 λ env he b hb => .tail _ (.tail _ (List.mem_filterMap.mpr ⟨env,he,hb⟩))
    refine wpAny_looks_onW (by rw[I1.ok.frames,stk]) hf fl λ h4 held4 U4=>?_;refine wpAny_landsW held4 λ h5 fl5 U5=>?_;have I5:Inv X pins σ H1 { s1 with heap:=h5 }:=Zfo I1 F Ha HT ha0 hT0 hpn fl5.1 (U4.trans U5);obtain⟨oe5,he5,hc5⟩:=fl5.there;obtain⟨oe5',vs5,_,_,_,he5',_,hd5,_⟩:=fl5.2.2.2;have:oe5'=oe5:=Option.some.inj (he5'.symm.trans he5);subst this;have I5h:=I5.hand he5 Ha hne ha0 hd5;refine wpAny_handleBy_cons (codeAny_handlers_test (Jk (X:=X.hand a oe5') I5h hg hm ?_ hdb)) (by intro z;cases z);have LT:PySem.W.Looks (model X.prog X.w) h5 (typeOf (.ref a)) C:=hc5▸(PySem.W.Looks.ld he5).andThen .now;refine(PySem.W.exm_one I5.kIn LT hx1).here ?_;refine codeAny_handlers_suite (lands_againW fl5 λ h6 fl6 U6=>?_);have I6:Inv X pins σ H1 { s1 with heap:=h6 }:=Zfo I1 F Ha HT ha0 hT0 hpn fl6.1 ((U4.trans U5).trans U6);obtain⟨oe6,vs6,_,_,_,he6,_,hd6,_⟩:=fl6.2.2.2;have I6h:=I6.hand he6 Ha hne ha0 hd6;refine wpAny_noRaise (thn (hs a oe6 pins _ σ H1 D I6h q) λ f s7 q7=>?_);cases f with
    |next=>obtain⟨σ7,H7,I7,n7⟩:=q7;exact⟨σ7,H7,I7.unhand I1.ok.hd,n7⟩
    |cont=>obtain⟨σ7,H7,I7,n7⟩:=q7;exact⟨σ7,H7,I7.unhand I1.ok.hd,n7⟩
    |brk=>obtain⟨σ7,H7,I7,n7⟩:=q7;exact⟨σ7,H7,I7.unhand I1.ok.hd,n7⟩
    |ret v=>obtain⟨x7,σ7,H7,I7,r7,n7⟩:=q7;exact⟨x7,σ7,H7,I7.unhand I1.ok.hd,r7,n7⟩
end
open PySem PySem.Spec PyProof.Rows PySem.W
structure XAt (K:Frag)(C:Addr):Prop where
  x:XCls K C
  ga:findIn K (.ref C) "__getattribute__"=some (some (.builtin "BaseException.__getattribute__"))
  hk:findIn K (.ref C) "__getattr__"=some none
  ca:findIn K (.ref C) "__class__"=some (some (.builtin "object.__class__"))
  mo:subIn K (.ref C) (.type "object")=some true
  sb:subIn K (.ref C) (.type "BaseException")=some true
section
variable {prog:Program}{w:World}{A:Around}{E:Value->Shared->Prop}{h:Heap}{g:Array GenState}{d:Drawn}{t:Nat}{os:OsState}{a C:Addr}{oe:Obj}{K:Frag}{vs:Array Value}
end
open PySem PySem.Spec PyProof.Rows PySem.W
section
variable {X:Cx}{pins:List (Addr×Obj)}{σ:St}{H:Hp}{s:Shared}
end
theorem Fun.okX {P:Program}{w:World}{K:Frag}{mg:Str->Option Value}{base:Heap}{x qual:Str}{st:Stmt}{f:Addr}{fd:FuncData}{N ps:List Str}{k:Nat}{sp:Sp}(F:Fun K x qual st f fd)(S:FnScope N ps (Zk st))(len:∀ vs H Q E,sp vs H Q E->vs.length=ps.length)(hbody:∀(cdv:Value)(A:Around)(outer:List Env)(s:Shared)(H:Hp)(vs:List V)(Q:VK)(E:XK),Room k (A.deeper (envOfC qual (Zk st) s.heap.objs.size f cdv))->sp vs H Q E ->
      ∃ t,PSs (Zp (CXR P w base) P w K mg base N qual (Zk st) f cdv A outer s H E) (Yk st) t/\t { nx:=λ _ H'=>Q .non H',rt:=Q } (JV N vs) H):FnOk P w K mg base (CXR P w base) (k+1) f fd ps sp:=by
  obtain⟨oc,od,kV,doc,pm,an,cdv,ct,osl,rfl,lk,hcd⟩:=F.ex;exact fn_of lk hcd S len λ A outer s H vs Q E hr hsp=>hbody cdv A outer s H vs Q E hr hsp
open PySem PySem.Spec PyProof.Rows
mutual
inductive Rds (K:Frag)(H:Hp):V->PyData->Prop
  | non:Rds K H .non .none
  | bl (b:Bool):Rds K H (.bl b) (.bool b)
  | int (i:Int):Rds K H (.int i) (.int i)
  | str (x:Str):Rds K H (.str x) (.str x)
  | list {a:Addr} {xs:List V} {ds:List PyData}:SqL K H a xs->RdsAll K H xs ds->Rds K H (.ref a) (.list ds)
  | tuple {a:Addr} {xs:List V} {ds:List PyData}:SqT K H a xs->RdsAll K H xs ds->Rds K H (.ref a) (.tuple ds)
inductive RdsAll (K:Frag)(H:Hp):List V->List PyData->Prop
  | nil:RdsAll K H [] []
  | cons {x:V} {xs:List V} {d:PyData} {ds:List PyData}:Rds K H x d->RdsAll K H xs ds->RdsAll K H (x::xs) (d::ds)
end
section
variable {X:Cx}{pins:List (Addr×Obj)}{σ:St}{H:Hp}{s:Shared}
mutual
theorem Rds.reads (I:Inv X pins σ H s):∀ {x:V} {d:PyData} {u:Value},Rds X.K H x d->ZM x u->∃ as,Reads s.heap u d as
  | _,_,_, .non,r=>by
    cases r;exact⟨[], .none⟩
  | _,_,_, .bl b,r=>by
    cases r;exact⟨[], .bool b⟩
  | _,_,_, .int i,r=>by
    obtain⟨t,rfl⟩:=r;exact⟨[], .int i t⟩
  | _,_,_, .str i,r=>by
    obtain⟨t,rfl⟩:=r;exact⟨[], .str i t⟩
  | _,_,_, .list (a:=a) h q,r=>by
    cases r;obtain⟨its,r',pl,_⟩:=I.list h;obtain⟨o,ho,hc,n,hd⟩:=pl.isList;obtain⟨as,z⟩:=RdsAll.reads I q r';exact⟨a::as, .list ho hc hd z⟩
  | _,_,_, .tuple (a:=a) h q,r=>by
    cases r;obtain⟨its,r',pl,_⟩:=I.tuple h;obtain⟨o,ho,hc,n,hd⟩:=pl;obtain⟨as,z⟩:=RdsAll.reads I q r';exact⟨as, .tuple ho hc hd z⟩
theorem RdsAll.reads (I:Inv X pins σ H s):∀ {xs:List V} {ds:List PyData} {us:List Value},RdsAll X.K H xs ds->ZH xs us->∃ as,ReadsAll s.heap us ds as
  |_,_,_, .nil, .nil=>⟨[], .nil⟩
  | _,_,_, .cons h t, .cons r rs=>by
    obtain⟨as,z⟩:=Rds.reads I h r;obtain⟨bs,y⟩:=RdsAll.reads I t rs;exact⟨as++bs, .cons z y⟩
end
noncomputable def rEqD (K:Frag)(ng:Bool):R2:=λ x y H Q=>∃ da db,Rds K H x da/\Rds K H y db/\SeqAt.shaped da=true/\SeqAt.shaped db=true/\Q (.bl (if ng then !PyData.eqv da db else PyData.eqv da db)) H
theorem Zfe {X:Cx}(hu:X.A.units+64<cLine):OpR X (compareOp .Eq) (rEqD X.K false):=by
 intro pins s σ H x y v u Q I rx ry h;obtain⟨da,db,ha,hb,sa,sb,q⟩:=h;obtain⟨as,z⟩:=ha.reads I rx;obtain⟨bs,z'⟩:=hb.reads I ry;exact SeqAt.compareEq_shaped z z' sa sb hu ⟨.bl _,H,I,rfl,q⟩
theorem op_neD {X:Cx}(hu:X.A.units+64<cLine):OpR X (compareOp .NotEq) (rEqD X.K true):=by
 intro pins s σ H x y v u Q I rx ry h;obtain⟨da,db,ha,hb,sa,sb,q⟩:=h;obtain⟨as,z⟩:=ha.reads I rx;obtain⟨bs,z'⟩:=hb.reads I ry;exact SeqAt.compareNe_shaped z z' sa sb hu ⟨.bl _,H,I,rfl,q⟩
end
end L2
namespace L2
open PySem PySem.Spec PyProof.Rows
section
variable {X:Cx}{pins:List (Addr×Obj)}{σ:List (Option V)}{H H':Hp}{s:Shared}{h':Heap}
theorem Inv.turnedL {t':Nat}{ch:List Addr}(I:Inv X pins σ H s)(k:∀ b o,b∉ch->s.heap.get? b=some o->h'.get? b=some o)(f:∀ b∈ch,Xy X pins H b):Inv X pins σ H { s with heap:=h',toks:=t' }:=by
  have nit:∀ b u,H b=some u->b∉ch:=λ b u e z=>by rw[(f b z).1]at e;cases e
  refine I.step (g':=s.gens) (d':=s.drawn) (ch:=ch) (λ b hb=>⟨(f b hb).2.2.2.1,(f b hb).2.1,(f b hb).2.2.2.2.1,(f b hb).2.2.2.2.2⟩) (λ b o _ _ hc e _=>k b o hc e) (λ b o _ _ hc e _=>⟨o.slots,k b o hc e⟩) (λ _ _ _ _ n=>n)
    (λ b o hc e=>⟨o,k b o hc e⟩) (λ _ _ e=>e) (λ _ _ _ e=>e) (λ b ps e=>⟨#[],by rw[e];simp⟩) (λ m hm=>?_) (λ b u e=>?_) I.bare
  . obtain⟨o,es,ep,ho,r⟩:=hm;exact⟨o,es,ep,k _ o (λ z=>(f _ z).2.1 rfl) ho,r⟩
  . refine(I.hok b u e).stay (λ c v hc q=>k c v ?_ q) (λ _ q=>q) λ _ _ q=>q;rcases hc with z|z
    . rw[z];exact nit b u e
    . exact nit c _ z
end
noncomputable def Ite (K:Frag)(a:Addr):It:=
 ⟨λ i H=>∃ xs x,SqL K H a xs/\xs[i]? = some x,λ i H v H'=>∃ T x,H T=none/\v = .ref T/\(∀ xs,SqL K H a xs->xs[i]? = some x)/\H'=upd H T (.tup [.int i,x]),λ i H=>∃ xs,SqL K H a xs/\xs.length<=i⟩
theorem Zeb {P:Program}{w:World}{K:Frag}{elts:List Expr}{k:Nat}{pos:Pos}(a e it:Addr)(hne:e≠it):Turn P w K (.Tuple elts k pos) (Ite K a) [e,it] e (λ i h=>(∃ old,IsEnum h e it i old)/\h.IsListIter it a i) where
  mem:=by simp
  obj:=λ i h st b hb=>by
    obtain⟨⟨old,s1⟩,o,e2,c,d⟩:=st;rcases List.mem_cons.mp hb with rfl|hb
    . exact⟨_,s1,λ v z=>by
        have z':Data.fields _=Data.cell v:=z;cases z'⟩
    . have q:b=it:=by simpa using hb
      subst q;exact⟨o,e2,λ v z=>by rw[d]at z;cases z⟩
  keep:=λ i h h' st k=>by
    obtain⟨⟨old,s1⟩,s2⟩:=st;exact⟨⟨old,k e (by simp) _ s1⟩,s2.at λ o q=>k it (by simp) o q⟩
  item:=by
    intro X hP hw hK hc i pins s σ H E I hf st hg;subst hP hw hK;obtain⟨xs,x,hq,hx⟩:=hg;obtain⟨its,rv,p,hz⟩:=I.list hq;obtain⟨u,hu,ru⟩:=rv.get hx;obtain⟨⟨old,s1⟩,s2⟩:=st;have e1:e<s.heap.objs.size:=Heap.lt_size s1;have e2:it<s.heap.objs.size:=by obtain⟨_,y,_⟩:=s2;exact Heap.lt_size y
    refine wpAny_pyNext_enum_item s1 s2 p.isList (x:=u) (by simpa using hu) hne λ h' ho hit hT hsz kk=>⟨_,rfl,?_⟩;refine wpAny_letOwnedTupleGo_enum ho λ h2 he hs=>?_;have fr:H s.heap.objs.size=none:=I.fresh;have I1:Inv X pins σ (upd H s.heap.objs.size (.tup [.int i,x])) { s with heap:=s.heap.push { cls:=.type "tuple",data:=.seq #[.int i s.toks,u] } }:=
      I.laid (t':=s.toks) (λ b o q=>Heap.get?_push_of_some _ q) (le_refl _) (show Z2 X.prog X.w _ _ _ (.tup [.int i,x]) from⟨by show 2<=sizeLine;decide,[.int i s.toks,u], .cons ⟨_,rfl⟩ (.cons ru .nil),IsTup.new _ _⟩)
    have ff:∀ b∈[e,it],Xy X pins (upd H s.heap.objs.size (.tup [.int i,x])) b:=λ b hb=>by
      refine⟨?_,(hf b hb).2⟩;rw[ZT]
      . exact(hf b hb).1
      . rcases List.mem_cons.mp hb with rfl|hb
        . exact ne_of_lt e1
        . rw[List.mem_singleton.mp hb];exact ne_of_lt e2
    have I2:Inv X pins σ (upd H s.heap.objs.size (.tup [.int i,x])) { s with heap:=h2,toks:=s.toks+1 }:=by
      have z:=Inv.turnedL (s:={ s with heap:=s.heap.push { cls:=.type "tuple",data:=.seq #[.int i s.toks,u] } }) (h':=h2) (t':=s.toks+1) (ch:=[e,it]) I1 (λ b o hb q=>?_) ff;exact z;have n1:b≠e:=λ z=>hb (by simp[z]);have n2:b≠it:=λ z=>hb (by simp[z]);refine(hs.2 b n1).trans ?_
      by_cases z:b=s.heap.objs.size
      . subst z;have q':(s.heap.push { cls:=.type "tuple",data:=.seq #[.int i s.toks,u] }).get? s.heap.objs.size=some o:=q;rw[Heap.get?_push_size _ rfl]at q';cases q';exact hT
      . have q':(s.heap.push { cls:=.type "tuple",data:=.seq #[.int i s.toks,u] }).get? b=some o:=q;rw[Heap.get?_push_ne _ _ _ z]at q';exact kk b o n1 n2 q'
    refine⟨.ref s.heap.objs.size,_,I2,rfl,⟨s.heap.objs.size,x,fr,rfl,λ ys hy=>by rw[I.list_inj hy hq];exact hx,rfl⟩,⟨⟨u,?_⟩,hit.at λ o q=>(hs.2 it (Ne.symm hne)).trans q⟩,λ b hb=>(ff b hb).1⟩;exact he
  done:=by
    intro X hP hw hK hc i pins s σ H E I hf st hg;subst hP hw hK;obtain⟨xs,hq,hx⟩:=hg;obtain⟨its,rv,p,hz⟩:=I.list hq;obtain⟨⟨old,s1⟩,s2⟩:=st;have hl:=rv.length;obtain⟨f0,f1,f2,f3,f4,f5⟩:=hf it (by simp);exact wpAny_pyNext_enum_end (I.ok.hd hc) s1 s2 p.isList (by simp;omega) λ h' eb=>⟨rfl,I.turned (t':=s.toks) (λ b o hb e=>eb b o hb e) f0 f1 f3 f4 f5⟩
  self:=λ _ _ _ _ _ st h=>by
    obtain⟨⟨old,s1⟩,_⟩:=st;exact wpAny_pyIter_enum s1 h
section
variable {X:Cx}
noncomputable def iEnum (K:Frag)(ta:TA):TI:=λ σ H R=>ta σ H λ vs H1=>∃ a,vs=[.ref a]/\(∃ xs,SqL K H1 a xs)/\R (Ite K a) H1
theorem ZdQ {a:Expr}{ta:TA}{p pos:Pos}{elts:List Expr}{k:Nat}{tp:Pos}(hg:Gl X "enumerate")(hm:X.mg "enumerate"=none)(ha:PA X [a] ta)(hs:starEach [a] X.env=[(false,eval a X.env)]:=by rfl) :
    PI X (.Tuple elts k tp) (.Call (.Name "enumerate" p) [a] [] pos) (iEnum X.K ta):=by
  refine⟨?_⟩;intro pins s σ H R I h;refine Call_ (JP I hg hm boot_enumerate (PyProof.Rows.callWith_type1 (thn (ha pos pins s σ H _ I h) λ us s1 zz9=>?_) hs rfl));obtain⟨vs,H1,I1,r1,q1⟩:=zz9;obtain⟨b,e,⟨xs,hq⟩,q⟩:=q1;subst e;obtain⟨u,rfl,rx⟩:=Xz r1;cases rx;obtain⟨its,rv,pl,hz⟩:=I1.list hq;refine call_enumerate_list pl.isList λ h' he hit hsz kk=>?_;refine wpAny_pyIter_enum he ?_;refine⟨s1.heap.objs.size+1,[s1.heap.objs.size+1,s1.heap.objs.size],_,_,H1,rfl,I1.kept (t':=s1.toks) kk,Zeb b _ _ (Nat.succ_ne_self _),⟨⟨_,he⟩,hit⟩,λ c hc=>?_,q⟩;rcases List.mem_cons.mp hc with rfl|hc
  . exact I1.fpOk (Nat.le_succ _) (I1.hok.fresh (Nat.le_succ _))
  . rw[List.mem_singleton.mp hc];exact I1.fpOk (le_refl _) (I1.hok.fresh (le_refl _))
end
end L2
namespace L2
open PySem PySem.Spec PyProof.Rows
section
variable {X:Cx}
theorem ZeG {scope:Scope}{cl:List (Str×Addr)}{xs:List Str}{caps:List (Str×Nat)}{fp:List Addr}{pins:List (Addr×Obj)}{σ:St}{H:Hp}{s:Shared}{h1:Heap}{t':Nat}{m:Str->Option Value}(I:Inv X pins σ H s)(hf:∀ b∈fp,Xy X pins H b)(hin:∀ b∈fp,b<s.heap.objs.size)(hkind:scope.kind = .function)(hcl:∀ x c,cl.lookup x=some c->X.env.cells.lookup x=some c)(hhas:∀ x,((relabel scope X.env).names.lookup x=some .cell\/(relabel scope X.env).names.lookup x=some .free)->∃ c,cl.lookup x=some c)(hcap:∀ p∈caps,X.N[p.2]? = some p.1/\X.env.scope.names.lookup p.1=some .cell/\((relabel scope X.env).names.lookup p.1=some .cell\/(relabel scope X.env).names.lookup p.1=some .free))(hn:h1.Ns s.heap.objs.size m)(hk:∀ b o,s.heap.get? b=some o->h1.get? b=some o) :
    Inv (X.comp scope cl s.heap.objs.size (xs++caps.map (·.1)) s H fp pins) [] (List.replicate xs.length none++Yl caps σ) H { s with heap:=h1,toks:=t' }:=by
  refine⟨Zd5 I hf hin hkind hcl hhas,rfl,I.bare,Un.kept hk,⟨m,hn,λ i y v e1 e2 e3=>?_⟩,λ y c e=>?_,I.hok.fresh (le_refl _),λ y c e=>I.freeC y c (hcl y c e),λ p hp=>?_,I.hok.kept hk,?_⟩
  . have e1':(xs++caps.map (·.1))[i]? = some y:=e1
    by_cases hi:i<xs.length
    . rw[getElem?_append_left (by simpa using hi),List.getElem?_replicate,if_pos hi]at e2;cases e2
    . rw[getElem?_append_right (by simpa using hi),List.length_replicate]at e2;rw[getElem?_append_right (by simpa using hi)]at e1';generalize i - xs.length=j at e1' e2;have e2':(caps.map λ p=>(σ[p.2]?).join)[j]? = some (some v):=e2;rw[getElem?_map]at e1' e2';cases q:caps[j]? with
      |none=>rw[q]at e1';cases e1'
      |some p=>
        rw[q]at e1' e2';have hy:p.1=y:=Option.some.inj e1';have hv:(σ[p.2]?).join=some v:=Option.some.inj e2';obtain⟨c1,c2,c3⟩:=hcap p (mem_of_getElem? q);have hv':σ[p.2]? = some (some v):=by
          cases z:σ[p.2]? with
          |none=>rw[z]at hv;cases hv
          |some w=>rw[z]at hv;rw[<- hv];rfl
        obtain⟨m0,_,hl0⟩:=I.loc;obtain⟨u,ru,lk⟩:=hl0 p.2 p.1 v c1 hv' (.inr (.inl c2));subst hy;refine⟨u,ru, .inr ⟨c3,?_⟩⟩;obtain⟨c,hc⟩:=hhas p.1 c3;rcases lk with ⟨k,_⟩|⟨_,c',hc',z⟩
        . have k':X.env.scope.names.lookup p.1=some .local:=k;rw[c2]at k';cases k'
        . have:c=c':=Option.some.inj ((hcl p.1 c hc).symm.trans hc');subst this;obtain⟨o,ho,hd⟩:=z;exact⟨c,hc,o,hk _ _ ho,hd⟩
  . obtain⟨v,o,ho,hd⟩:=I.cell y c (hcl y c e);exact⟨v,o,hk _ _ ho,hd⟩
  . have hp':p∈X.pn++pins:=by simpa using hp
    obtain⟨a1,a2,a3,a4,a5⟩:=I.pin p hp';refine⟨hk _ _ a1,a2,ne_of_lt (Heap.lt_size a1),λ z=>?_,a5⟩;rcases List.mem_cons.mp (I.stkSub p.1 z) with e|e
    . exact a3 e
    . exact a4 e
  . show(List.replicate xs.length none++Yl caps σ).length=(xs++caps.map (·.1)).length;simp[Yl]
end
end L2
namespace L2
open PySem PySem.Spec PyProof.Rows
theorem kit_ll {K:Frag}:PySem.W.kitOne K (.type "list") (.type "list")=some true:=by rfl
theorem kit_ss {K:Frag}:PySem.W.kitOne K (.type "str") (.type "str")=some true:=by rfl
section
variable {X:Cx}
theorem JB:SlR X (λ x lo hi H Q=>∃ z,x = .str z/\z.length<=sizeLine/\Q (.str (Txt.slice z lo hi)) H):=by
  intro pins s σ H x v vl vu lo hi sl Q I rx hs pl pu h;obtain⟨z,rfl,hz,q⟩:=h;obtain⟨t,rfl⟩:=rx;refine⟨"str",_,F.slot_str_getitem.lookup,typeIs_str _ _ _,?_⟩;cases pl with
  |none=>
    cases pu with
    |none=>exact wpAny_getItem_str_slice (l:=none) (u:=none) (st:=none) hs rfl (post_val_or_str ⟨le_trans (Txt.slice_le z _ _) hz,λ t' k=>⟨.str _,H,I.tok _,⟨t',rfl⟩,q⟩⟩)
    |int j uj=>exact wpAny_getItem_str_slice (l:=none) (u:=some (j,uj)) (st:=none) hs rfl (post_val_or_str ⟨le_trans (Txt.slice_le z _ _) hz,λ t' k=>⟨.str _,H,I.tok _,⟨t',rfl⟩,q⟩⟩)
  |int i ui=>
    cases pu with
    |none=>exact wpAny_getItem_str_slice (l:=some (i,ui)) (u:=none) (st:=none) hs rfl (post_val_or_str ⟨le_trans (Txt.slice_le z _ _) hz,λ t' k=>⟨.str _,H,I.tok _,⟨t',rfl⟩,q⟩⟩)
    |int j uj=>exact wpAny_getItem_str_slice (l:=some (i,ui)) (u:=some (j,uj)) (st:=none) hs rfl (post_val_or_str ⟨le_trans (Txt.slice_le z _ _) hz,λ t' k=>⟨.str _,H,I.tok _,⟨t',rfl⟩,q⟩⟩)
end
end L2
namespace Sh
noncomputable def G (a b:Int):Int:=(Nat.gcd a.toNat b.toNat:Int)
structure Low (n d q r:Int):Prop where
  q0:0<=q
  r0:0<r
  g:G q r=1
  eq:q * d=n * r
theorem G_pos {a b:Int}(hb:0<b):0<G a b:=by
 unfold G;have:=Nat.gcd_pos_of_pos_right a.toNat (show 0<b.toNat by omega);omega
theorem low {n d:Int}(hn:0<=n)(hd:0<d):Low n d (n / G n d) (d / G n d):=by
  have g0:=G_pos (a:=n) hd;have e1:n / G n d=((n.toNat / Nat.gcd n.toNat d.toNat:Nat):Int):=by
    conv=>lhs;rw[show n=(n.toNat:Int) by omega]
    unfold G;rw[toNat_natCast];rfl
  have e2:d / G n d=((d.toNat / Nat.gcd n.toNat d.toNat:Nat):Int):=by
    conv=>lhs;lhs;rw[show d=(d.toNat:Int) by omega]
    unfold G;rfl
  have p:0<Nat.gcd n.toNat d.toNat:=Nat.gcd_pos_of_pos_right n.toNat (show 0<d.toNat by omega);have dv1:=Nat.gcd_dvd_left n.toNat d.toNat;have dv2:=Nat.gcd_dvd_right n.toNat d.toNat;rw[e1,e2];refine⟨Int.natCast_nonneg _,?_,?_,?_⟩
  . have:=Nat.div_pos (Nat.le_of_dvd (show 0<d.toNat by omega) dv2) p;omega
  . unfold G;rw[toNat_natCast,toNat_natCast,Nat.gcd_div dv1 dv2,Nat.div_self p];rfl
  . have:n.toNat / Nat.gcd n.toNat d.toNat * d.toNat=n.toNat * (d.toNat / Nat.gcd n.toNat d.toNat):=by
      obtain⟨x,hx⟩:=dv1;obtain⟨y,hy⟩:=dv2;have x1:n.toNat / Nat.gcd n.toNat d.toNat=x:=by
        conv=>lhs;lhs;rw[hx]
        exact Nat.mul_div_cancel_left x p
      have y1:d.toNat / Nat.gcd n.toNat d.toNat=y:=by
        conv=>lhs;lhs;rw[hy]
        exact Nat.mul_div_cancel_left y p
      rw[x1,y1]
      conv=>lhs;rw[hy]
      conv=>rhs;rw[hx]
      rw[Nat.mul_left_comm,Nat.mul_assoc]
    have h:=congrArg (λ z:Nat=>(z:Int)) this;have h1:(n.toNat:Int)=n:=by omega
    have h2:(d.toNat:Int)=d:=by omega
    simp only[Int.natCast_mul,h1,h2]at h;exact h
end Sh
namespace Sh
end Sh
namespace L2
open PySem PySem.Spec PyProof.Rows
noncomputable def ltS (a b:Str):Prop:=a.cps.toList<b.cps.toList
instance (a b:Str):Decidable (ltS a b):=inferInstanceAs (Decidable (a.cps.toList<b.cps.toList))
theorem Yc {a b:Str}(h:a.cps.toList=b.cps.toList):a=b:=by
 cases a;cases b;simp at h;rw[h]
noncomputable abbrev En:=Str×Int×Int
noncomputable abbrev Ws:=List (En×Addr)
noncomputable def keys (es:List En):List Str:=es.map (·.1)
noncomputable def LedW (H:Hp)(l:Addr)(ws:Ws):Prop:=H l=some (.lst (ws.map λ w=>V.ref w.2))/\∀ w∈ws,H w.2=some (.tup [.str w.1.1, .int w.1.2.1, .int w.1.2.2])
noncomputable def Led (H:Hp)(l:Addr)(es:List En):Prop:=∃ ws:Ws,ws.map (·.1)=es/\LedW H l ws
noncomputable def DicW (K:Frag)(H:Hp)(d:Addr)(ws:Ws):Prop:=H d=some (.dK (ws.map λ w=>((Sum.inr w.1.1:Key),V.ref w.2)))/\∀ w∈ws,SqT K H w.2 [.int w.1.2.1, .int w.1.2.2]
noncomputable def Dic (K:Frag)(H:Hp)(d:Addr)(es:List En):Prop:=∃ ws:Ws,ws.map (·.1)=es/\DicW K H d ws
noncomputable def fnd (es:List En)(k:Str):Option En:=es.find? λ e=>decide (e.1=k)
noncomputable def look (es:List En)(k:Str):Int×Int:=match fnd es k with|some e=>e.2|none=>(0,1)
noncomputable def putE (es:List En)(k:Str)(n d:Int):List En:=if (es.any λ e=>decide (e.1=k))=true then es.map (λ e=>if e.1=k then (k,n,d) else e) else es++[(k,n,d)]
noncomputable def putW (ws:Ws)(k:Str)(w':En×Addr):Ws:=if (ws.any λ w=>decide (w.1.1=k))=true then ws.map (λ w=>if w.1.1=k then w' else w) else ws++[w']
noncomputable def enD (e:En):PyData:=.tuple [.str e.1, .int e.2.1, .int e.2.2]
noncomputable def ledD (es:List En):PyData:=.list (es.map enD)
end L2
namespace L2
open PySem PySem.Spec PyProof.Rows
theorem Zdl {K:Frag}{a:Addr}{xs:List V}{g:TG}{tb:TS}{D:Ends}{σ:St}{H:Hp}(Pv:Nat->St->Hp->Prop)(h0:Pv 0 σ H)(hl:∀ i σ H,i<=xs.length->Pv i σ H->SqL K H a xs)(hs:∀ i x σ H T,xs[i]? = some x->Pv i σ H->H T=none->g (.ref T) σ (upd H T (.tup [.int i,x])) λ σ2 H2=>tb { D with nx:=Pv (i+1),ct:=Pv (i+1),bk:=D.nx } σ2 H2)(hd:∀ σ H,Pv xs.length σ H->D.nx σ H) :
    ∃ W:Nat->Nat->St->Hp->Prop,(∃ m,W 0 m σ H)/\∀ i m σ H,W i m σ H ->
      ((Ite K a).stop i H/\D.nx σ H)\/((Ite K a).go i H/\∃ N:St->Hp->Prop,(∀ σ' H',N σ' H'->∃ m',m'<m/\W (i+1) m' σ' H')/\∀ x H',(Ite K a).yld i H x H'->g x σ H' λ σ2 H2=>tb { D with nx:=N,ct:=N,bk:=D.nx } σ2 H2):=by
  refine⟨λ i m σ H=>m=xs.length - i/\i<=xs.length/\Pv i σ H,⟨xs.length,by simp,zero_le _,h0⟩,?_⟩;rintro i m σ H ⟨rfl,hi,p⟩;have q:=hl i σ H hi p
  by_cases hlt:i<xs.length
  . refine .inr ⟨⟨xs,xs[i],q,by simp[hlt]⟩,Pv (i+1),λ σ' H' p'=>⟨xs.length - (i+1),by omega,rfl,hlt,p'⟩,λ x H' y=>?_⟩;obtain⟨T,z,hT,rfl,hz,rfl⟩:=y;exact hs i z σ H T (hz xs q) p hT
  . have e:i=xs.length:=by omega
    subst e;exact .inl ⟨⟨xs,q,le_refl _⟩,hd σ H p⟩
theorem Zec {α:Type}{l:List α}{i:Nat}(hi:i<l.length):l.take i++[l[i]]=l.take (i+1):=by
 rw[take_succ,getElem?_eq_getElem hi];rfl
theorem Z7 {G H:Hp}{D:Addr}{u:HO}(sm:Zn G H)(hD:G D=none):Zn G (upd H D u):=λ b x e=>by
 rw[ZT (Yf e hD)];exact sm b x e
end L2
namespace L2
open PySem PySem.Spec PyProof.Rows
section
variable {P:Program}{w:World}{K:Frag}{mg:Str->Option Value}{base:Heap}{N:List Str}{qual:Str}{scope:Scope}{f:Addr}{cd:Value}{A:Around}{outer:List Env}{s0:Shared}{H0:Hp}{E:XK}
theorem XF:Xx (CXR P w base) (Zp (CXR P w base) P w K mg base N qual scope f cd A outer s0 H0 E) E:=by
  intro pins σ H s e s2 I h;obtain⟨ex,T0,C,H2,rfl,os,bare,un,hok,fly,Ha,HT,ha,hT,q2⟩:=h;have I2:Inv (Zp (CXR P w base) P w K mg base N qual scope f cd A outer s0 H0 E) pins σ H2 s2:=I.call' (ch:=[]) os un hok bare λ b z=>absurd z (by simp);obtain⟨y1,y2,y3,a0,oe0,vs0,oT0,ts0,z1,z2,z3,z4,z5,z6,z7,z8,z9⟩:=fly
  let fr:=frs (envOfC qual scope s0.heap.objs.size f cd::outer)
  let B:=hideAll s2.heap (ex::T0::fr)
  have hin:∀ env∈(envOfC qual scope s0.heap.objs.size f cd::outer),∀ b,env.frame=some b->b∈ex::T0::fr:=λ env he b hb=>mem_cons_of_mem _ (mem_cons_of_mem _ (List.mem_filterMap.mpr ⟨env,he,hb⟩));have stk:s2.heap.FunFrames base (envOfC qual scope s0.heap.objs.size f cd::outer):=I2.stack;have notL:∀ b o,s0.heap.get? b=some o->b≠s0.heap.objs.size:=λ b o e=>ne_of_lt (Heap.lt_size e);have inB:∀ b o,s2.heap.get? b=some o->b∉ex::T0::fr->B.get? b=some o:=λ b o e n=>PySem.W.hideAll_get _ e n;have hid:∀ b,b∈ex::T0::fr->B.get? b=none:=λ b hb=>PySem.W.hideAll_none _ hb;have up:∀ b o,s0.heap.get? b=some o->∃ o',s.heap.get? b=some o':=λ b o z=>I.base.there b o z (λ q=>absurd (show b∈([]:List Addr) from q) (by simp));have no0:∀ b,s.heap.get? b=none->s0.heap.get? b=none:=λ b n=>by
    cases z:s0.heap.get? b with
    |none=>rfl
    |some o=>
      obtain⟨o',z'⟩:=up b o z;rw[n]at z';cases z'
  have no2:∀ b,s2.heap.get? b=none->s0.heap.get? b=none:=λ b n=>by
    cases z:s0.heap.get? b with
    |none=>rfl
    |some o=>
      obtain⟨o',z'⟩:=I2.base.there b o z (λ q=>absurd (show b∈([]:List Addr) from q) (by simp));rw[n]at z';cases z'
  have nex:∀ b,b∉(Zp (CXR P w base) P w K mg base N qual scope f cd A outer s0 H0 E).ex:=λ b q=>absurd (show b∈([]:List Addr) from q) (by simp);have notIn:∀ b o,s0.heap.get? b=some o->b∉frs outer->b∉ex::T0::fr:=λ b o z n hb=>by
    rcases List.mem_cons.mp hb with r|hb
    . rw[r,no0 _ ha]at z;cases z
    . rcases List.mem_cons.mp hb with r|hb
      . rw[r,no0 _ hT]at z;cases z
      . exact I2.stkNo (notL b o z) n hb
  show wpAny (model P w) (A.deeper (envOfC qual scope s0.heap.objs.size f cd)) (leaving (envOfC qual scope s0.heap.objs.size f cd) (.ref ex)) (λ _ s''=>CXR P w base outer H0 s0 E (.ref ex) s'') (λ e' s''=>CXR P w base outer H0 s0 E e' s'') s2;refine wpAny_leaves_onW (base:=B) (L:=s0.heap.objs.size) (cls:=C) (a0:=a0) I2.ok.frames rfl ⟨λ b o z=>PySem.W.of_hideAll _ z,hid ex (mem_cons_self ..),PySem.W.funFrames_hide stk hin,oe0,vs0,T0,oT0,ts0,z1,z2,z3,z4,hid T0 (mem_cons_of_mem _ (mem_cons_self ..)),z6,z7,z8,z9⟩ λ h'' fl U=>?_;obtain⟨f1,f2,f3,oe,vs,Tr,oT,ts,g1,g2,g3,g4,g5,g6,g7,g8,g9⟩:=fl;have U2:∀ b o,s2.heap.get? b=some o->(∀ vs,o.data ≠ .fields vs)->∃ sl,h''.get? b=some { o with slots:=sl }:=λ b o z n=>U b o z n;have baseB:base.StaysIn B:=λ b o z=>inB b o (I2.bk b o z) λ hb=>by
    rcases List.mem_cons.mp hb with r|hb
    . rw[r,y2]at z;cases z
    . rcases List.mem_cons.mp hb with r|hb
      . rw[r,z5]at z;cases z
      . rw[(stk.mem hb).1]at z;cases z
  have trN:H2 Tr=none/\s0.heap.get? Tr=none:=by
    cases z:s2.heap.get? Tr with
    |none=>exact⟨I2.untr z,no2 _ z⟩
    |some o=>
      by_cases hb:Tr∈ex::T0::fr
      . rcases List.mem_cons.mp hb with r|hb
        . exact absurd r g6
        . rcases List.mem_cons.mp hb with r|hb
          . rw[r];exact⟨HT,no0 _ hT⟩
          . obtain⟨_,o',ho',d'⟩:=stk.mem hb;obtain⟨sl,z2'⟩:=U2 Tr o' ho' d';rw[g7]at z2';have z3':=congrArg (λ q:Option Obj=>q.map (·.data)) z2';simp only[map_some,g8]at z3';exact absurd (Option.some.inj z3').symm (d' ts)
      . rw[inB Tr o z hb]at g5;cases g5
  refine⟨ex,Tr,C,H2,rfl,I2.os,I2.bare,⟨λ b o z n hb _=>?_,λ b o z n hb _=>?_,λ b o z n _=>I2.base.free b o z n (nex b),λ b o z _=>?_,I2.base.tups,I2.base.frzs,I2.base.tbls⟩,λ b u z=>?_,⟨λ b o z=>f1 b o (baseB b o z),y2,PySem.W.funFrames_base baseB f3,a0,oe,vs,oT,ts,g1,g2,g3,g4,?_,g6,g7,g8,g9⟩,Ha,trN.1,no0 _ ha,trN.2,q2⟩
  . exact f1 b o (inB b o (I2.base.keep b o z n hb (nex b)) (notIn b o z hb))
  . obtain⟨sl,w1⟩:=I2.base.slot b o z n hb (nex b);obtain⟨_,o',ho',d'⟩:=I2.ok.funs.mem hb;have:o'=o:=by rw[show(Zp (CXR P w base) P w K mg base N qual scope f cd A outer s0 H0 E).s₀.heap.get? b=some o from z]at ho';exact(Option.some.inj ho').symm
    subst this;obtain⟨sl',w2⟩:=U2 b _ w1 (λ vs=>d' vs);exact⟨sl',w2⟩
  . by_cases hb:b∈fr
    . obtain⟨_,o',ho',d'⟩:=stk.mem hb;obtain⟨sl,w2⟩:=U2 b o' ho' d';exact⟨_,w2⟩
    . obtain⟨o',z'⟩:=I2.base.there b o z (nex b);refine⟨o',f1 b o' (inB b o' z' λ hb'=>?_)⟩;rcases List.mem_cons.mp hb' with r|hb'
      . rw[r,no0 _ ha]at z;cases z
      . rcases List.mem_cons.mp hb' with r|hb'
        . rw[r,no0 _ hT]at z;cases z
        . exact hb hb'
  . refine(I2.hok b u z).stay (λ c v hc q=>?_) (λ _ q=>q) λ _ _ q=>q;have tr:∀ c v,H2 c=some v->c∉ex::T0::fr:=λ c v q n=>by
      rcases List.mem_cons.mp n with r|n
      . rw[r,Ha]at q;cases q
      . rcases List.mem_cons.mp n with r|n
        . rw[r,HT]at q;cases q
        . rw[I2.stkFree c n]at q;cases q
    rcases hc with hc|hc
    . rw[hc]at q ⊢;exact f1 b v (inB b v q (tr b u z))
    . exact f1 c v (inB c v q (tr c _ hc))
  . cases z:base.get? Tr with
    |none=>rfl
    |some o=>
      rw[baseB Tr o z]at g5;cases g5
end
noncomputable def tFnX (sp:Sp)(E:XK)(t:TA):TE:=λ σ H Q=>t σ H λ vs H1=>sp vs H1 Q E
theorem Y5 {X:Cx}{k:Nat}{x:Str}{ps:List Str}{sp:Sp}{E:XK}{p pos:Pos}{e:Expr}{es:List Expr}{t:TA}(hx:Xx (CXR X.prog X.w X.base) X E)(D:Dx X.prog X.w X.K X.mg X.base k x ps sp)(hr:Room k X.A)(ha:PA X (e::es) t)(hg:Gl X x:=by rfl)(hdb:(x == ("__debug__":Str))=false:=by decide)(he:starEach (e::es) X.env=(false,eval e X.env)::starEach es X.env:=by rfl)(hpl:(backTo pos (starEach es X.env)).any (·.1)=false:=by rfl) :
    PE X (.Call (.Name x p) (e::es) [] pos) (tFnX sp E t):=by
  obtain⟨f,fd,F,hm,hk,hb⟩:=D.ex;have q:=ZdR (p:=p) (pos:=pos) F hr hg hm hk hb .nil hx ha hdb he hpl;have e:ZdM sp [] E t=tFnX sp E t:=by
    funext σ H Q;show t σ H (λ vs H1=>sp (vs++[]) H1 Q E)=t σ H λ vs H1=>sp vs H1 Q E;simp only[append_nil]
  rw[<- e];exact q
end L2
namespace L2
open PySem PySem.Spec PyProof.Rows
end L2
namespace L2
open PySem PySem.Spec PyProof.Rows
end L2
namespace L2
open PySem PySem.Spec PyProof.Rows
noncomputable def vl (n d:Int):Rat:=(n:Rat) / (d:Rat)
end L2
namespace L2
open PySem PySem.Spec PyProof.Rows
theorem ZdK:∀(l:List (Str×Tok)),ZH ((l.map (·.1)).map V.str) (strValues l)
  |[] => .nil
  |(x,t)::r => .cons ⟨t,rfl⟩ (ZdK r)
section
variable {X:Cx}
theorem Zer:OpR X (compareOp .Gt) (λ x y H Q=>∃ i j,x = .str i/\y = .str j/\Q (.bl (decide (j.cps.toList<i.cps.toList))) H):=by
 intro pins s σ H x y v u Q I rx ry h;obtain⟨i,j,rfl,rfl,q⟩:=h;obtain⟨t,rfl⟩:=rx;obtain⟨t',rfl⟩:=ry;exact PySem.P.gt_str (ZA I q rfl)
theorem Jz:YX X (.type "int") (λ xs H Q=>∃ z n,xs=[.str z]/\PySem.intText? z=some n/\z.length<=640/\Q (.int n) H):=by
 intro pins s σ H xs us Q I r h;obtain⟨z,n,rfl,hn,hl,q⟩:=h;obtain⟨u,rfl,t,rfl⟩:=Xz r;exact PySem.W.KIN.call_text hn hl ⟨.int n,H,I.tok _,⟨_,rfl⟩,q⟩
noncomputable def rSplit:V->List V->Hp->VK->Prop:=λ x xs H Q=>∃ z y,x = .str z/\xs=[.str y]/\(y.length == 0)=false/\z.length<=sizeLine/\(Builtin.Str.partsBetween z (Builtin.Str.occurrences z y 0 z.length (z.length+1)) y.length).length<=sizeLine /\
 ∀ l,H l=none->Q (.ref l) (upd H l (.lst ((Txt.split z y).map V.str)))
theorem Zae:MtR X "str.split" rSplit:=by
  intro pins s σ H x xs v us Q I rx rv h;obtain⟨z,y,rfl,rfl,hy,hz,hz2,q⟩:=h;obtain⟨t,rfl⟩:=rx;obtain⟨u,rfl,t',rfl⟩:=Xz rv;have fin:∀(l:List (Str×Tok))(tk:Nat),l.map (·.1)=Txt.split z y->l.length<=sizeLine->EP X pins σ Q (.ref s.heap.objs.size) { s with heap:=s.heap.push { cls:=.type "list",data:=.seq (strValues l).toArray },toks:=tk }:=λ l tk e hl=>
    ⟨.ref s.heap.objs.size,_,I.laid (t':=tk) (o:=.lst ((Txt.split z y).map V.str)) (λ _ _ w=>Heap.get?_push_of_some _ w) (le_refl _) ⟨by rw[length_map,<- e,length_map];exact hl,strValues l,0,by rw[<- e];exact ZdK l,Heap.get?_push_size _ rfl⟩,rfl,q _ I.fresh⟩
  cases h1:(decide (z.length<y.length) || decide (Builtin.Str.strKind z<Builtin.Str.strKind y))
  . cases hf:(Builtin.Str.occurrences z y 0 z.length (z.length+1)).isEmpty
    . refine call_meets F.slot_str_split (typeIs_str _ _ _) F.entry_str_split (F.args_str_split_2 _ _) (meets_str_split_sep z y t t' h1 hy hf hz hz2) ?_;have w:=fin (numbered s.toks (Builtin.Str.partsBetween z (Builtin.Str.occurrences z y 0 z.length (z.length+1)) y.length)) (s.toks+(Builtin.Str.partsBetween z (Builtin.Str.occurrences z y 0 z.length (z.length+1)) y.length).length) ((numbered_texts _ _).trans (by unfold Txt.split;rw[h1,hf];rfl)) (by rw[<- length_map (f:=(·.1)),numbered_texts];exact hz2);rw[<- strsFrom_eq]at w;exact w
    . exact call_meets F.slot_str_split (typeIs_str _ _ _) F.entry_str_split (F.args_str_split_2 _ _) (meets_str_split_not_found z y t t' h1 hy hf) (fin [(z,t)] s.toks (by unfold Txt.split;rw[h1,hf];rfl) (by show 1<=sizeLine;decide))
  . exact call_meets F.slot_str_split (typeIs_str _ _ _) F.entry_str_split (F.args_str_split_2 _ _) (meets_str_split_cannot_occur z y t t' h1) (fin [(z,t)] s.toks (by unfold Txt.split;rw[h1];rfl) (by show 1<=sizeLine;decide))
noncomputable def Its (x:Str):It:=⟨λ i _=>i<x.cps.size,λ i H v H'=>H'=H/\∃ c,x.cps[i]? = some c/\v = .str ⟨#[c]⟩,λ i _=>x.cps.size<=i⟩
theorem ZeM {prog:Program}{w:World}{A:Around}(hh:A.handled=none)(it:Addr)(x:Str)(t:Tok):Walks prog w A it [it] [it] x.cps.size (SignAt x) (λ i h=>h.IsStrIter it (strIterType x) x t i):=by
  cases ha:x.cps.all (· < 128) with
  |true=>
    have e:strIterType x="str_ascii_iterator":=by unfold strIterType;rw[ha];rfl
    rw[e];exact Walks.strAscii hh it x t
  |false=>
    have e:strIterType x="str_iterator":=by unfold strIterType;rw[ha];rfl
    rw[e];exact Walks.strWide hh it x t
theorem ZeR {P:Program}{w:World}{K:Frag}{tg:Expr}(it:Addr)(x:Str)(t:Tok):Turn P w K tg (Its x) [it] it (λ i h=>h.IsStrIter it (strIterType x) x t i) where
  mem:=by simp
  obj:=λ i h st b hb=>by
    have e:b=it:=by simpa using hb
    subst e;obtain⟨o,e,c,d⟩:=st;exact⟨o,e,λ v z=>by rw[d]at z;cases z⟩
  keep:=λ i h h' st k=>by
    obtain⟨o,e,r⟩:=st;exact⟨o,k it (by simp) o e,r⟩
  item:=by
    intro X hP hw hK hc i pins s σ H E I hf st hg;subst hP hw hK;obtain⟨f0,f1,f2,f3,f4,f5⟩:=hf it (by simp);refine(ZeM (prog:=X.prog) (w:=X.w) (I.ok.hd hc) it x t).item i s _ _ hg st λ v h' tk hv st' kk=>?_;obtain⟨c,u,hc',rfl⟩:=hv;have I1:Inv X pins σ H { s with heap:=h',toks:=tk }:=I.turned (λ b o hb e=>kk b o (by simpa using hb) e) f0 f1 f3 f4 f5;obtain⟨o2,e,cl,d2⟩:=id st';refine⟨_,rfl,ZdY (s:={ s with heap:=h',toks:=tk }) e cl d2 ?_ ⟨.str ⟨#[c]⟩,H,I1,⟨u,rfl⟩,⟨rfl,c,hc',rfl⟩,st',λ b hb=>(hf b hb).1⟩⟩;unfold strIterType;cases x.cps.all (· < 128) <;> decide
  done:=by
    intro X hP hw hK hc i pins s σ H E I hf st hg;subst hP hw hK;obtain⟨f0,f1,f2,f3,f4,f5⟩:=hf it (by simp);have hn:x.cps[i]? = none:=Array.getElem?_eq_none hg;have fin:∀ h',Heap.ExtBut it s.heap h'->(none:Option Value)=none/\Inv X pins σ H { s with heap:=h' }:=λ h' eb=>⟨rfl,I.turned (t':=s.toks) (λ b o hb e=>eb b o hb e) f0 f1 f3 f4 f5⟩;cases ha:x.cps.all (· < 128) with
    |true=>
      rw[show strIterType x="str_ascii_iterator" by unfold strIterType;rw[ha];rfl]at st;exact wpAny_pyNext_ascii_end (I.ok.hd hc) st hn fin
    |false=>
      rw[show strIterType x="str_iterator" by unfold strIterType;rw[ha];rfl]at st;exact wpAny_pyNext_wide_end (I.ok.hd hc) st hn fin
  self:=λ _ i s _ _ st h=>by
    cases ha:x.cps.all (· < 128) with
    |true=>
      rw[show strIterType x="str_ascii_iterator" by unfold strIterType;rw[ha];rfl]at st;exact wpAny_pyIter_striter_ascii st h
    |false=>
      rw[show strIterType x="str_iterator" by unfold strIterType;rw[ha];rfl]at st;exact wpAny_pyIter_striter_wide st h
noncomputable def iStr (tl:TE):TI:=λ σ H R=>tl σ H λ x H1=>∃ z,x = .str z/\R (Its z) H1
theorem Ze8 {tg l:Expr}{tl:TE}(hl:PE X l tl):PI X tg l (iStr tl):=by
 refine⟨?_⟩;intro pins s σ H R I h;refine thn (hl pins s σ H _ I h) λ v s1 zz9=>?_;obtain⟨x,H1,I1,r1,q1⟩:=zz9;obtain⟨z,e,q⟩:=q1;subst e;obtain⟨t,rfl⟩:=r1;refine wpAny_pyIter_strU ?_;refine⟨s1.heap.objs.size,[s1.heap.objs.size],_,_,H1,rfl,I1.kept (t':=s1.toks) λ b o e=>Heap.get?_push_of_some _ e,ZeR _ z t,⟨_,Heap.get?_push_size _ rfl,rfl,rfl⟩,λ b hb=>?_,q⟩;have e:b=s1.heap.objs.size:=by simpa using hb
 subst e;exact I1.fpOk (le_refl _) (I1.hok.fresh (le_refl _))
noncomputable def gStar (K:Frag)(t:TGs):TG:=λ v σ H Q=>∃ l x xs,v = .ref l/\SqL K H l (x::xs)/\xs.length<=10000/\∀ D,H D=none->t [x, .ref D] σ (upd H D (.lst xs)) Q
theorem ZfZ {a b:Expr}{k:Nat}{sp pos:Pos}{t:TGs}(hc:X.calm=true)(h:PGs X [a,b] t)(hn:(assignEach [a, .Starred b sp] X.env).length=2:=by rfl)(hst:(assignEach [a, .Starred b sp] X.env).findIdx? (·.1)=some 1:=by rfl)(hm:(assignEach [a, .Starred b sp] X.env).map (·.2)=(assignEach [a,b] X.env).map (·.2):=by rfl):PG X (.Tuple [a, .Starred b sp] k pos) (gStar X.K t):=by
  refine⟨?_⟩;intro pins s σ H v u Q I r hw;obtain⟨l,x,xs,e1,hq,hl,hw⟩:=hw;subst e1;cases r;obtain⟨its,rv,pl,hz⟩:=I.list hq;have hL:=pl.isList;obtain⟨vx,its',rfl,rx,rr⟩:∃ vx its',its=vx::its'/\ZM x vx/\ZH xs its':=by
    cases rv with
    |cons p q=>exact⟨_,_,rfl,p,q⟩
  have hll:l<s.heap.objs.size:=by obtain⟨_,z,_⟩:=hL;exact Heap.lt_size z
  have hne:l≠s.heap.objs.size:=ne_of_lt hll;have hsz:(vx::its').toArray.size=its'.length+1:=by simp
  have hil:its'.length=xs.length:=rr.length.symm;rw[assign_Tuple];refine wpAny_bind (wpAny_standAt ?_);unfold unpack;rw[hn,hst,hm];refine wpAny_bind (wpAny_holding ?_);unfold unpackItems notIterableAtAll;refine wpAny_bind (wpAny_bind (wpAny_specialOf hL.typeIs slot_list_iter.lookup (wpAny_pure ?_)));simp only[Bool.false_eq_true,if_false];refine wpAny_bind (wpAny_holding (wpAny_pyIter_list hL ?_));refine wpAny_bind (wpAny_holding (PySem.W.kun_draw hne 1 0 _ _ ⟨_,Heap.get?_push_size _ rfl,rfl,rfl⟩ (hL.push _) (by rw[hsz];omega) λ g1 hit1 sb1=>?_));have hL1:g1.IsList l (vx::its').toArray:=(hL.push _).extBut sb1.extBut hne;obtain⟨oi,hoi,_⟩:=id hit1;obtain⟨ol,hol,_⟩:=id hL1;have tk1:(((vx::its').toArray.toList.drop 0).take 1)=[vx]:=rfl;rw[tk1];rw[if_neg (show ¬ ([vx].length<1) by simp)];refine wpAny_bind (wpAny_holding (PySem.W.kun_collect (s:={ s with heap:=g1 }) (T:="list_iterator") (.inr (.inr (.inl rfl))) (Walks.list (A:=X.A.in1) (I.ok.hd hc) s.heap.objs.size l hne (vx::its').toArray) (λ j w st=>st.1.typeIs) (k:=1) (by rw[hsz];omega) ⟨hit1,hL1⟩ (Heap.lt_size hoi) (Heap.lt_size hol) (λ g2 tk kp=>?_) (by rw[hsz,sizeLine_eq];omega)));have dr:(vx::its').toArray.toList.drop 1=its':=rfl;rw[dr];show wpAny _ _ (if its'.length<2 - 1 - 1 then _ else _) _ _ _;rw[if_neg (by omega)];show wpAny _ _ (newList (its'.take (its'.length - (2 - 1 - 1))) >>= λ d=>pure ([vx]++[d]++its'.drop (its'.length - (2 - 1 - 1)))) _ _ _;rw[show its'.length - (2 - 1 - 1)=its'.length by omega,take_length,List.drop_length];have keep:∀ b o,s.heap.get? b=some o->g2.get? b=some o:=λ b o e=>kp b o (ne_of_lt (Heap.lt_size e)) (sb1.extBut b o (ne_of_lt (Heap.lt_size e)) (Heap.get?_push_of_some _ e));have I1:Inv X pins σ H { s with heap:=g2,toks:=tk }:=I.kept keep;refine wpAny_bind (wpAny_newList ?_ (by rw[sizeLine_eq];omega));refine wpAny_pure ?_;have I2:=Inv.laid (s:={ s with heap:=g2,toks:=tk }) (h':=g2.push { cls:=.type "list",data:=.seq its'.toArray }) (t':=tk) (o:=.lst xs) I1 (λ _ _ w=>Heap.get?_push_of_some _ w) (le_refl _) ⟨by rw[sizeLine_eq];omega,its',0,rr,Heap.get?_push_size _ rfl⟩;exact h pins _ σ _ [x, .ref g2.objs.size] [vx, .ref g2.objs.size] Q I2 (.cons rx (.cons rfl .nil)) (hw _ I1.fresh)
end
end L2
namespace L2
open PySem PySem.Spec PyProof.Rows PySem.StrLaws
noncomputable def dot:Str:="."
noncomputable def inR (a b c:Nat):Bool:=decide (a<=c) && decide (c<=b)
noncomputable def gw (x:Str):Bool:=decide (1<=x.length) && decide (x.length<=8) && x.cps.toList.all (inR 97 122) && !(decide (x="crown") || decide (x="kids"))
noncomputable def gn (x:Str):Bool:=decide (1<=x.length) && decide (x.length<=2) && x.cps.toList.all (inR 48 57) && !decide (x.cps.toList.head? = some 48)
noncomputable def iv (x:Str):Int:=(PySem.intText? x).getD 0
theorem Zfr:(∀ c∈List.range 9,PySem.intText? ⟨#[49+c]⟩=some (iv ⟨#[49+c]⟩)/\1<=iv ⟨#[49+c]⟩)/\∀ c∈List.range 9,∀ d∈List.range 10,PySem.intText? ⟨#[49+c,48+d]⟩=some (iv ⟨#[49+c,48+d]⟩)/\1<=iv ⟨#[49+c,48+d]⟩:=by decide +kernel
theorem iv_gn {x:Str}(h:gn x=true):PySem.intText? x=some (iv x)/\1<=iv x:=by
  unfold gn at h;simp only[and_eq_true,decide_eq_true_eq,Bool.not_eq_true',decide_eq_false_iff_not]at h;obtain⟨⟨⟨h1,h2⟩,h3⟩,h4⟩:=h;obtain⟨⟨l⟩⟩:=x;have h1':1<=l.length:=h1;have h2':l.length<=2:=h2
  match l,h1',h2',h3,h4 with
  |[c],_,_,h3,h4=>
    simp[inR]at h3 h4;have e:c=49+(c - 49):=by omega
    rw[e];exact Zfr.1 (c - 49) (List.mem_range.mpr (by omega))
  |[c,d],_,_,h3,h4=>
    simp[inR]at h3 h4;have e:c=49+(c - 49):=by omega
    have e':d=48+(d - 48):=by omega
    rw[e,e'];exact Zfr.2 (c - 49) (List.mem_range.mpr (by omega)) (d - 48) (List.mem_range.mpr (by omega))
noncomputable def pcs (x:Str):List Str:=Txt.split x dot
noncomputable def wd (x:Str):Str:=(pcs x).headD ""
noncomputable def nms (x:Str):List Str:=(pcs x).tail
theorem YR (x:Str):pcs x=wd x::nms x:=by
  have h:1<=(pcs x).length:=split_pos x dot;unfold wd nms;cases e:pcs x with
  |nil=>rw[e]at h;simp at h
  |cons a r=>rfl
theorem Zf3 (x:Str):(nms x).length<=x.length+1:=by
 have h:(pcs x).length<=x.length+2:=split_le x dot;rw[YR,length_cons]at h;omega
theorem Zfb {x p:Str}(h:p∈pcs x):p.length<=x.length:=by
  unfold pcs Txt.split at h;split at h
  . rw[List.mem_singleton.mp h];exact le_refl _
  . split at h
    . rw[List.mem_singleton.mp h];exact le_refl _
    . unfold Builtin.Str.partsBetween at h;obtain⟨q,_,rfl⟩:=List.mem_map.mp h;exact le_strSub x q.1 q.2
noncomputable def pok (x:Str):Bool:=gw (wd x) && decide ((nms x).length<=5) && (nms x).all gn
noncomputable def pvl (x:Str):List V:=.str (wd x)::(nms x).map λ p=>V.int (iv p)
theorem gw_ok {x:Str}(h:gw x=true):PyData.strOk x=true:=by
 unfold gw at h;simp only[and_eq_true]at h;unfold PyData.strOk;rw[Array.all_eq_true_iff_forall_mem];intro c hc;have z:=List.all_eq_true.mp h.1.2 c (by simpa using hc);simp[inR]at z;simp;omega
noncomputable def up (x:Str):Str:=match Builtin.Str.lastOccurrence x dot 0 x.length with|some i=>Builtin.Str.strSub x 0 i|none=>Str.empty
theorem ZcS:dot=⟨#[46]⟩:=by decide +kernel
theorem ZcP (c a:Nat):((⟨#[c]⟩:Str).cps.toList<(⟨#[a]⟩:Str).cps.toList)↔c<a:=by
 show [c]<[a]↔c<a;have:=StrLaws.lt_cons_cons c a [] [];rw[StrLaws.lt_nil_nil,Bool.and_false,Bool.or_false]at this;simpa using this
theorem Zgb {x:Str}{g:TG}{tb:TS}{D:Ends}{σ:St}{H:Hp}(Pv:Nat->St->Hp->Prop)(h0:Pv 0 σ H)(hs:∀ i c σ H,x.cps.toList[i]? = some c->Pv i σ H->g (.str ⟨#[c]⟩) σ H λ σ2 H2=>tb { D with nx:=Pv (i+1),ct:=Pv (i+1),bk:=D.nx } σ2 H2)(hd:∀ σ H,Pv x.cps.toList.length σ H->D.nx σ H) :
    ∃ W:Nat->Nat->St->Hp->Prop,(∃ m,W 0 m σ H)/\∀ i m σ H,W i m σ H ->
      ((Its x).stop i H/\D.nx σ H)\/((Its x).go i H/\∃ N:St->Hp->Prop,(∀ σ' H',N σ' H'->∃ m',m'<m/\W (i+1) m' σ' H')/\∀ v H',(Its x).yld i H v H'->g v σ H' λ σ2 H2=>tb { D with nx:=N,ct:=N,bk:=D.nx } σ2 H2):=by
  have hl:x.cps.toList.length=x.cps.size:=length_toList;refine⟨λ i m σ H=>m=x.cps.size - i/\i<=x.cps.size/\Pv i σ H,⟨x.cps.size,by simp,zero_le _,h0⟩,?_⟩;rintro i m σ H ⟨rfl,hi,p⟩
  by_cases hlt:i<x.cps.size
  . refine .inr ⟨hlt,Pv (i+1),λ σ' H' p'=>⟨x.cps.size - (i+1),by omega,rfl,hlt,p'⟩,λ v H' y=>?_⟩;obtain⟨rfl,c,hc,rfl⟩:=y;exact hs i c σ _ (by rw[getElem?_toList];exact hc) p
  . have e:i=x.cps.toList.length:=by omega
    subst e;exact .inl ⟨by show x.cps.size<=_;omega,hd σ H p⟩
theorem ZfG {l:List Nat}{f:Nat->Bool}{i c:Nat}(h:(l.take i).all f=true)(hc:l[i]? = some c)(hf:f c=true):(l.take (i+1)).all f=true:=by
 rw[take_succ,hc,all_append,h];simp[hf]
theorem Zd7 {l:List Nat}{f:Nat->Bool}{i c:Nat}(hc:l[i]? = some c)(hf:f c=false):l.all f=false:=by
  cases e:l.all f with
  |false=>rfl
  |true=>
    have:=List.all_eq_true.mp e c (mem_of_getElem? hc);rw[hf]at this;cases this
end L2
namespace L2
open PySem PySem.Spec PyProof.Rows
section
variable {X:Cx}
theorem ZdZ (z:Str):Str.empty++z=z:=by
 refine Yc ?_;show(Str.empty.cps++z.cps).toList=z.cps.toList;simp[Str.empty]
end
end L2
namespace L2
open PySem PySem.Spec
noncomputable def yrs (bs:List (Str×Int)):List (Key×V):=bs.map λ p=>((Sum.inr p.1:Key),V.int p.2)
noncomputable def yr (bs:List (Str×Int))(n:Str):Option Int:=(bs.find? λ p=>decide (p.1=n)).map (·.2)
noncomputable def has (bs:List (Str×Int))(n:Str):Bool:=(yr bs n).isSome
noncomputable def kid (n:Str)(i:Nat):Str:=n++dot++(toString ((i:Int)+1):Str)
noncomputable def kidV (n:Str)(c:Nat):List V:=(List.range c).map λ i=>V.str (kid n i)
noncomputable def brs (ws:List (Str×Addr×Nat)):List (Key×V):=ws.map λ p=>((Sum.inr p.1:Key),V.ref p.2.1)
structure Book (C:Addr)(H:Hp)(b d1 d2 d3:Addr)(bs ds:List (Str×Int))(ws:List (Str×Addr×Nat)):Prop where
  obj:∃ dx,H b=some (.ins C dx [("births", .ref d1),("deaths", .ref d2),("broods", .ref d3)])
  h1:H d1=some (.dK (yrs bs))
  h2:H d2=some (.dK (yrs ds))
  h3:H d3=some (.dK (brs ws))
  n12:d1≠d2
  n13:d1≠d3
  n23:d2≠d3
  kids:∀ p∈ws,H p.2.1=some (.lst (kidV p.1 p.2.2))
  nod:(ws.map λ p=>p.2.1).Nodup
noncomputable def Keep (xs:List Addr)(H H':Hp):Prop:=(∀ a o,a∉xs->H a=some o->H' a=some o)/\∀ a,H' a=none->H a=none
end L2
namespace L2
open PySem PySem.Spec
end L2
namespace L2
open PySem PySem.Spec
structure Mdl (H:Hp)(m c e1 e2 e3:Addr)(y:Int)(bs ds cs:List (Str×Int)):Prop where
  tup:H m=some (.tup [.ref c, .ref e1, .ref e2, .ref e3])
  clk:H c=some (.lst [.int y])
  h1:H e1=some (.dK (yrs bs))
  h2:H e2=some (.dK (yrs ds))
  h3:H e3=some (.dK (yrs cs))
  n12:e1≠e2
  n13:e1≠e3
  n23:e2≠e3
end L2
namespace L2
open PySem PySem.Spec PyProof.Rows PySem.StrLaws
theorem ZfB {a b s t:List Nat}(h:a++46::s=b++46::t)(hs:46∉s)(ht:46∉t):a=b/\s=t:=by
  rcases List.append_eq_append_iff.mp h with ⟨c,e1,e2⟩|⟨c,e1,e2⟩
  . cases c with
    |nil=>simp at e1 e2;exact⟨e1.symm,e2⟩
    |cons x r=>
      simp at e2;exact absurd (show 46∈s by rw[e2.2];simp) hs
  . cases c with
    |nil=>simp at e1 e2;exact⟨e1,e2.symm⟩
    |cons x r=>
      simp at e2;exact absurd (show 46∈t by rw[e2.2];simp) ht
theorem Zd0:dot.cps.toList=[46]:=by rw[ZcS]
theorem Zz (a b:Str):(a++b).cps.toList=a.cps.toList++b.cps.toList:=cps_toList_append a b
theorem Zj (a b:Str):(a++b).length=a.length+b.length:=by
 show(a.cps++b.cps).size=_;rw[Array.size_append];rfl
theorem Zgg {a b s t:Str}(h:a++dot++s=b++dot++t)(hs:46∉s.cps.toList)(ht:46∉t.cps.toList):a=b/\s=t:=by
 have z:=congrArg (λ x:Str=>x.cps.toList) h;simp only[Zz,Zd0]at z;rw[append_assoc,append_assoc]at z;obtain⟨e1,e2⟩:=ZfB z hs ht;exact⟨Yc e1,Yc e2⟩
noncomputable abbrev ts (i:Nat):Str:=(toString ((i:Nat):Int):Str)
theorem ZfL (i:Int):46∉(toString i:Str).cps.toList:=int_text_free' 46 ⟨by decide,by decide⟩ i
theorem YL (s:Str):∀(l:List Str)(_:l≠[]),Str.join dot (l++[s])=Str.join dot l++dot++s
  |[a],_=>rfl
  | a::b::r,_=>by
    show a++dot++Str.join dot ((b::r)++[s])=(a++dot++Str.join dot (b::r))++dot++s;rw[YL s (b::r) (by simp)];refine Yc ?_;simp only[Zz,append_assoc]
theorem Zdi:∀(l m:List Str),l≠[]->m≠[]->(∀ p∈l,46∉p.cps.toList)->(∀ p∈m,46∉p.cps.toList)->Str.join dot l=Str.join dot m->l=m:=by
  have key:∀(n:Nat)(l m:List Str),l.length=n->l≠[]->m≠[]->(∀ p∈l,46∉p.cps.toList)->(∀ p∈m,46∉p.cps.toList)->Str.join dot l=Str.join dot m->l=m:=by
    intro n
    induction n with
    |zero=>intro l m h hl;exact absurd (List.length_eq_zero_iff.mp h) hl
    |succ n ih=>
      intro l m h hl hm fl fm e;rcases eq_nil_or_concat l with rfl|⟨l',a,rfl⟩
      . exact absurd rfl hl
      rcases eq_nil_or_concat m with rfl|⟨m',b,rfl⟩
      . exact absurd rfl hm
      simp only[List.concat_eq_append]at h hl hm fl fm e ⊢;have noDot:∀ x:Str,46∉x.cps.toList->∀(k:List Str)(y:Str),k≠[]->x≠Str.join dot (k++[y]):=λ x hx k y hk z=>by
        apply hx;rw[z,YL y k hk,Zz,Zz,Zd0];simp
      by_cases h1:l'=[]
      . subst h1
        by_cases h2:m'=[]
        . subst h2;have:a=b:=e;rw[this]
        . exact absurd e (noDot a (fl a (by simp)) m' b h2)
      . by_cases h2:m'=[]
        . subst h2;exact absurd e.symm (noDot b (fm b (by simp)) l' a h1)
        . rw[YL a l' h1,YL b m' h2]at e;obtain⟨e1,e2⟩:=Zgg e (fl a (by simp)) (fm b (by simp));rw[e2,ih l' m' (by simp at h;omega) h1 h2 (λ p hp=>fl p (by simp[hp])) (λ p hp=>fm p (by simp[hp])) e1]
  exact λ l m=>key l.length l m rfl
theorem Zaa {x p:Str}(h:p∈pcs x):46∉p.cps.toList:=split_free x 46 p (by have z:p∈Txt.split x dot:=h;rw[ZcS]at z;exact z)
theorem YQ (x:Str):Str.join dot (pcs x)=x:=join_split x dot
theorem Zax (x:Str):pcs x≠[]:=by rw[YR];simp
theorem ZdT (n:Str)(i:Nat):pcs (kid n i)=pcs n++[(toString ((i:Int)+1):Str)]:=by
  refine Zdi _ _ (Zax _) (by simp) (λ p hp=>Zaa hp) (λ p hp=>?_) ?_
  . rcases List.mem_append.mp hp with h|h
    . exact Zaa h
    . rw[List.mem_singleton.mp h];exact ZfL _
  . rw[YQ,YL _ _ (Zax n),YQ];rfl
theorem ZdS {x:Str}(h:46∉x.cps.toList):pcs x=[x]:=by
  refine Zdi _ _ (Zax _) (by simp) (λ p hp=>Zaa hp) (λ p hp=>?_) ?_
  . rw[List.mem_singleton.mp hp];exact h
  . rw[YQ];rfl
theorem ZdX {x:Str}(h:gw x=true):46∉x.cps.toList:=λ hm=>by
 unfold gw at h;simp only[and_eq_true]at h;have z:=List.all_eq_true.mp h.1.2 46 hm;revert z
 decide
theorem ZbG {x:Str}(h:gw x=true):1<=x.length/\x.length<=8:=by
 unfold gw at h;simp only[and_eq_true,decide_eq_true_eq]at h;exact⟨h.1.1.1,h.1.1.2⟩
theorem wd_kid (n:Str)(i:Nat):wd (kid n i)=wd n:=by
  unfold wd;rw[ZdT];cases e:pcs n with
  |nil=>exact absurd e (Zax n)
  |cons a r=>rfl
theorem ZdW (n:Str)(i:Nat):nms (kid n i)=nms n++[(toString ((i:Int)+1):Str)]:=by
  unfold nms;rw[ZdT];cases e:pcs n with
  |nil=>exact absurd e (Zax n)
  |cons a r=>rfl
theorem wd_gw {x:Str}(h:gw x=true):wd x=x:=by unfold wd;rw[ZdS (ZdX h)];rfl
theorem Zfj {x:Str}(h:gw x=true):nms x=[]:=by unfold nms;rw[ZdS (ZdX h)];rfl
theorem pok_gw {x:Str}(h:gw x=true):pok x=true:=by
 unfold pok;rw[wd_gw h,Zfj h,h];rfl
theorem gn_tab:∀ k∈List.range 99,gn (ts (k+1))=true/\(ts (k+1)).length<=2:=by decide +kernel
theorem gn_ts {i:Nat}(h:i<99):gn (toString ((i:Int)+1):Str)=true/\(toString ((i:Int)+1):Str).length<=2:=gn_tab i (List.mem_range.mpr h)
noncomputable def ZcR (x:Str):Nat:=(Builtin.Str.occurrences x dot 0 x.length (x.length+1)).length
theorem Zfz (x:Str):(ZcR x:Int)=cnt 46 x.cps.toList:=by
 have h:=count_is x 46;unfold ZcR;rw[ZcS];exact h
theorem Za9 (x:Str):ZcR x=(nms x).length:=by
 have h:=cnt_join dot 46 (by rw[Zd0];rfl) (pcs x) (λ t ht=>Zaa ht);rw[YQ,<- Zfz,YR]at h;simp at h;omega
theorem Zfy (n:Str)(i:Nat):ZcR (kid n i)=ZcR n+1:=by rw[Za9,Za9,ZdW];simp
theorem Zge {x:Str}(h:gw x=true):ZcR x=0:=by rw[Za9,Zfj h];rfl
theorem ZfY {n:Str}{i:Nat}(h:pok n=true)(hd:ZcR n<5)(hi:i<99):pok (kid n i)=true:=by
 unfold pok at h ⊢;simp only[and_eq_true,decide_eq_true_eq]at h ⊢;rw[wd_kid,ZdW];rw[Za9]at hd;refine⟨⟨h.1.1,by simp;omega⟩,?_⟩;rw[all_append,h.2];have z:=(gn_ts hi).1;simp only[List.all_cons,List.all_nil,Bool.and_true,Bool.true_and];exact z
theorem Zfq (B:Nat)(n:Nat):∀(l:List Str),l.length=n->l≠[]->(∀ p∈l.tail,p.length<=B)->(Str.join dot l).length+B+1<=(l.headD Str.empty).length+l.length * (B+1):=by
  induction n with
  |zero=>intro l h hl;exact absurd (List.length_eq_zero_iff.mp h) hl
  |succ n ih=>
    intro l hn hl hB;rcases eq_nil_or_concat l with rfl|⟨l,s,rfl⟩
    . exact absurd rfl hl
    simp only[List.concat_eq_append]at hn hl hB ⊢
    by_cases h:l=[]
    . subst h;show s.length+B+1<=s.length+1 * (B+1);omega
    . have z:=ih l (by simp at hn;omega) h (λ p hp=>hB p (by cases l with|nil=>exact absurd rfl h|cons a r=>simp at hp ⊢;exact .inl hp));have zs:s.length<=B:=hB s (by cases l with|nil=>exact absurd rfl h|cons a r=>simp);rw[YL s l h,Zj,Zj];have hd:(l++[s]).headD Str.empty=l.headD Str.empty:=by cases l with|nil=>exact absurd rfl h|cons a r=>rfl
      have d1:dot.length=1:=by rw[ZcS];rfl
      rw[hd,d1,length_append,length_singleton,Nat.add_mul];omega
theorem ZV {x:Str}(h:pok x=true):x.length<=23:=by
  unfold pok at h;simp only[and_eq_true,decide_eq_true_eq]at h;have hl:=Zfq 2 _ (pcs x) rfl (Zax x) (λ p hp=>by
    have z:=List.all_eq_true.mp h.2 p hp;unfold gn at z;simp only[and_eq_true,decide_eq_true_eq]at z;exact z.1.1.2)
  rw[YQ]at hl;have hw:=(ZbG h.1.1).2;have e:(pcs x).headD Str.empty=wd x:=by rw[YR];rfl
  have e2:(pcs x).length=(nms x).length+1:=by rw[YR];simp
  rw[e,e2]at hl;omega
end L2
namespace L2
open PySem PySem.Spec PyProof.Rows
theorem Zf9 (n:Str):has [] n=false:=rfl
noncomputable def nk (bs:List (Str×Int))(n:Str):Nat:=(List.range 1000).findIdx λ i => !has bs (kid n i)
theorem nk_of {bs:List (Str×Int)}{n:Str}{k:Nat}(hk:k<1000)(h1:∀ i,i<k->has bs (kid n i)=true)(h2:has bs (kid n k)=false):nk bs n=k:=by
  unfold nk;refine(List.findIdx_eq (by rw[List.length_range];exact hk)).mpr ⟨?_,λ j hj=>?_⟩
  . rw[List.getElem_range,h2];rfl
  . rw[List.getElem_range,h1 j hj];rfl
structure Wf (bs ds:List (Str×Int)):Prop where
  nod:(bs.map (·.1)).Nodup
  sub:∀ n,has ds n=true->has bs n=true
  wrt:∀ n,has bs n=true->pok n=true
  par:∀ n i,has bs (kid n i)=true->has bs n=true
  cnt:∀ n i,i<1000->(has bs (kid n i)=true↔i<nk bs n)
  lim:bs.length<1000
  few:∀ n,nk bs n<=bs.length
theorem Wf.nil:Wf [] [] where
 nod:=by simp
 sub:=λ n h=>by cases h
 wrt:=λ n h=>by cases h
 par:=λ n i h=>by cases h
 cnt:=λ n i _=>by rw[nk_of (k:=0) (by decide) (λ i h=>by omega) rfl];simp[Zf9]
 lim:=by decide
 few:=λ n=>by rw[nk_of (k:=0) (by decide) (λ i h=>by omega) rfl];exact zero_le _
theorem Zn.kp {H H':Hp}(s:Zn H H'):Keep [] H H':=⟨λ a o _ e=>s a o e,λ a e=>s.free e⟩
noncomputable def Grow (H:Hp)(R R':List Addr):Prop:=∀ a∈R',a∈R\/H a=none
noncomputable def Live (H:Hp)(R:List Addr):Prop:=∀ a∈R,∃ o,H a=some o
noncomputable def Dj (R S:List Addr):Prop:=∀ a∈R,a∉S
theorem Dj.symm {R S:List Addr}(h:Dj R S):Dj S R:=λ a ha hb=>h a hb ha
noncomputable def foot (b d1 d2 d3:Addr)(ws:List (Str×Addr×Nat)):List Addr:=b::d1::d2::d3::ws.map (·.2.1)
structure LivesAt (C:Addr)(H:Hp)(b:Addr)(bs ds:List (Str×Int))(R:List Addr):Prop where
  ex:∃ d1 d2 d3 ws,Book C H b d1 d2 d3 bs ds ws/\ws.map (·.1)=bs.map (·.1)/\(∀ p∈ws,p.2.2=nk bs p.1)/\R=foot b d1 d2 d3 ws
  wf:Wf bs ds
noncomputable def mfoot (m c e1 e2 e3:Addr):List Addr:=[m,c,e1,e2,e3]
structure MdlAt (H:Hp)(m:Addr)(y:Int)(bs ds cs:List (Str×Int))(R:List Addr):Prop where
  ex:∃ c e1 e2 e3,Mdl H m c e1 e2 e3 y bs ds cs/\R=mfoot m c e1 e2 e3
end L2
namespace L2
open PySem PySem.Spec
set_option genInjectivity false in
set_option genSizeOfSpec false in
structure Ga where
  LandError:Addr:=0
  NoText:Addr:=0
  Lives:Addr:=0
  World:Addr:=0
  BARRED:Addr:=0
  ATOMS:Addr:=0
  READERS:Addr:=0
  read_number:Addr:=0
  read_word:Addr:=0
  read_name:Addr:=0
  LONGEST_WORD:Tok:=0
  LONGEST_NUMBER:Tok:=0
  MOST_NUMBERS:Tok:=0
  MOST_FIGURES:Tok:=0
end L2
namespace L2
open PySem PySem.Spec PyProof.Rows
section
variable {X:Cx}
noncomputable def Zdy (K:Frag):List V->Hp->VK->Prop:=λ xs H Q=>∃ p ys,xs=[.ref p]/\(SqL K H p ys\/SqT K H p ys)/\∀ l,H l=none->Q (.ref l) (upd H l (.lst ys))
theorem ZbR:YX X (.type "list") (Zdy X.K):=ZcU
end
end L2
namespace L2
open PySem PySem.Spec PyProof.Rows
noncomputable def al (bs ds:List (Str×Int))(n:Str):Bool:=has bs n && !has ds n
end L2
set_option maxHeartbeats 0
namespace L2
open PySem PySem.Spec
theorem Ja {names:List (Str×NameKind)}{cl:List (Str×Addr)}(h:names.all (λ p => !(p.2 == .cell || p.2 == .free) || (cl.map (·.1)).contains p.1)=true):∀ x,(names.lookup x=some .cell\/names.lookup x=some .free)->∃ c,cl.lookup x=some c:=by
  intro x hx;have key:∀ k,names.lookup x=some k->(k == NameKind.cell || k == NameKind.free)=true->∃ c,cl.lookup x=some c:=λ k e hk=>by
    have m:=PySem.mem_of_lookup e;have q:=List.all_eq_true.mp h _ m;simp only[hk,Bool.not_true,Bool.false_or]at q;have q':x∈cl.map (·.1):=by simpa using q
    clear q h m e
    induction cl with
    |nil=>simp at q'
    |cons p r ih=>
      obtain⟨y,c⟩:=p;rw[List.lookup_cons];cases z:x == y with
      |true=>exact⟨c,rfl⟩
      |false=>
        refine ih ?_;rcases List.mem_cons.mp (show x∈y::r.map (·.1) from q') with e|e
        . rw[e]at z;simp at z
        . exact e
  rcases hx with e|e
  . exact key _ e rfl
  . exact key _ e rfl
theorem Zbc {σ:St}{H:Hp}{A B:Hp->Prop}(h:A H):tAll σ H (λ b H3=>if b=true then A H3 else B H3):=by
 show if true=true then A H else B H
 exact Xg h
noncomputable def abc:Str:="abcdefghijklmnopqrstuvwxyz"
theorem Zfh {a b:Str}(ha:PyData.strOk a=true)(hb:PyData.strOk b=true):PyData.strOk (a++b)=true:=by
 unfold PyData.strOk at *;show(a.cps++b.cps).all _=true;rw[Array.all_append,ha,hb];rfl
theorem Zgn {X:Cx}{st:List Stmt}{t t':TS}(h:PSs X st t)(i:∀ D σ H,t' D σ H->t D σ H):PSs X st t':=⟨λ pins s σ H D I q=>h pins s σ H D I (i D σ H q)⟩
theorem Zd6 (a x:Str):(a == x)=decide (x=a):=by
  by_cases h:x=a
  . subst h;rw[decide_eq_true rfl];exact beq_self_eq_true x
  . rw[decide_eq_false h];exact beq_eq_false_iff_ne.mpr λ z=>h z.symm
theorem Zf4 {n:Nat}(h:n<=500):n<=sizeLine:=le_of_lt (Zb8 (by omega))
theorem lc_mem (c:Nat):(!(Builtin.Str.occurrences "abcdefghijklmnopqrstuvwxyz" ⟨#[c]⟩ 0 ("abcdefghijklmnopqrstuvwxyz":Str).length 1).isEmpty)=inR 97 122 c:=by
 rw[StrLaws.found_one,show("abcdefghijklmnopqrstuvwxyz":Str).cps.toList=(List.range 26).map (97+·) by decide +kernel];unfold inR;rw[Bool.eq_iff_iff,and_eq_true,decide_eq_true_iff,decide_eq_true_iff,decide_eq_true_iff];constructor
 . intro h;obtain⟨i,hi,rfl⟩:=List.mem_map.mp h;have:=List.mem_range.mp hi;omega
 . intro h;exact List.mem_map.mpr ⟨c - 97,List.mem_range.mpr (by omega),by omega⟩
theorem cut1 (x:V)(xs:List V):Xu (x::xs) (some 1) none=xs:=by
 unfold Xu HT.sIx;simp
theorem ZeU {z:Str}{i:Int}(h0:0<=i)(h1:i<z.length):∃ c,atI z.cps.toList i=some c:=by
 have hl:z.cps.toList.length=z.length:=length_toList;have gi:i.toNat<z.cps.toList.length:=by omega
 have e:atI z.cps.toList ((i.toNat:Nat):Int)=some (z.cps.toList[i.toNat]):=ZE (getElem?_eq_getElem gi);rw[show((i.toNat:Nat):Int)=i by omega]at e;exact⟨_,e⟩
open PySem PySem.Spec
theorem abc_in {i:Int}(h0:0<=i)(h1:i<26):∃ c:Nat,atI abc.cps.toList i=some c/\inR 97 122 c=true:=by
 have hl:abc.cps.toList.length=26:=by decide +kernel
 have hi:i.toNat<abc.cps.toList.length:=by omega
 have e:atI abc.cps.toList ((i.toNat:Nat):Int)=some (abc.cps.toList[i.toNat]):=ZE (getElem?_eq_getElem hi);rw[show((i.toNat:Nat):Int)=i by omega]at e;refine⟨_,e,?_⟩;have a:abc.cps.toList.all (inR 97 122)=true:=by decide +kernel
 exact List.all_eq_true.mp a _ (getElem_mem hi)
end L2
namespace L2
open PySem PySem.Spec
inductive Deed where
  | arrive (w:Str) (a:Int)
  | birth (n:Str)
  | death (n:Str)
  | comes (w:Str)
  | years (k:Int)
noncomputable def Deed.vals:Deed->List V
  |.arrive w a=>[.str "arrive", .str w, .int a]
  |.birth n=>[.str "birth", .str n]
  |.death n=>[.str "death", .str n]
  |.comes w=>[.str "comes", .str w]
  |.years k=>[.str "years", .int k]
structure Mo where
  y:Int
  bs:List (Str×Int)
  ds:List (Str×Int)
  cs:List (Str×Int)
noncomputable def Mo.step (S:Mo):Deed->Mo
  |.arrive w a=>{ S with bs:=S.bs++[(w,S.y - a)] }
  |.birth n=>{ S with bs:=S.bs++[(kid n (nk S.bs n),S.y)] }
  |.death n=>{ S with ds:=S.ds++[(n,S.y)] }
  |.comes w=>{ S with cs:=S.cs++[(w,S.y)] }
  |.years k=>{ S with y:=S.y+k }
noncomputable def Mo.good (S:Mo)(far:Int):Deed->Prop
  |.arrive w a=>gw w=true/\has S.bs w=false/\0<=a/\a<=120
  |.birth n=>has S.bs n=true/\has S.ds n=false/\ZcR n<5
  |.death n=>has S.bs n=true/\has S.ds n=false
  |.comes w=>gw w=true/\has S.cs w=false
  |.years k=>1<=k/\k<=far
structure Mo.Ok (S:Mo)(k:Nat):Prop where
  wf:Wf S.bs S.ds
  cw:∀ w,has S.cs w=true->gw w=true
  lb:S.bs.length<=k
  ld:S.ds.length<=k
  lc:S.cs.length<=k
noncomputable def MoAt (H:Hp)(m:Addr)(S:Mo)(R:List Addr):Prop:=MdlAt H m S.y S.bs S.ds S.cs R
noncomputable def mo0 (y:Int):Mo:=⟨y,[],[],[]⟩
structure DeedsAt (H:Hp)(l:Addr)(ds:List Deed)(ps:List Addr):Prop where
  lst:H l=some (.lst (ps.map V.ref))
  len:ps.length=ds.length
  at_:∀(i:Nat)(p:Addr)(d:Deed),ps[i]? = some p->ds[i]? = some d->H p=some (.tup d.vals)
open PySem PySem.Spec
section
variable {H:Hp}{m c e1 e2 e3 p:Addr}{y:Int}{bs ds cs:List (Str×Int)}{R:List Addr}{xs:List V}
end
end L2
namespace L2
open PySem PySem.Spec
noncomputable def strD (l:List Str):PyData:=.list (l.map PyData.str)
theorem ZeY {K:Frag}{H:Hp}(l:List Str):RdsAll K H (l.map V.str) (l.map PyData.str):=by
  induction l with
  |nil=>exact .nil
  |cons p r ih=>exact .cons (.str _) ih
theorem Zc4 {K:Frag}{H:Hp}{a:Addr}{l:List Str}(h:SqL K H a (l.map V.str)):Rds K H (.ref a) (strD l):=.list h (ZeY l)
theorem ZeT {l:List Str}(h:∀ p∈l,PyData.strOk p=true):PyData.canLayAll0 (l.map PyData.str)=true/\PyData.depthAll (l.map PyData.str)=0:=by
  induction l with
  |nil=>exact⟨rfl,rfl⟩
  |cons p r ih=>
    have ih:=ih (λ q hq=>h q (mem_cons_of_mem _ hq));refine⟨?_,?_⟩
    . simp only[map_cons,PyData.canLayAll0,PyData.canLay0];rw[h p (by simp),ih.1];rfl
    . simp only[map_cons,PyData.depthAll,PyData.depth];rw[ih.2];rfl
theorem ZaQ {l:List Str}(h:∀ p∈l,PyData.strOk p=true):SeqAt.shaped (strD l)=true:=by
 obtain⟨h1,h2⟩:=ZeT h;unfold SeqAt.shaped;rw[and_eq_true];refine⟨h1,decide_eq_true ?_⟩;show PyData.depthAll (l.map PyData.str)+1<=64;rw[h2]
 decide
theorem Zau {x:Str}(h:pok x=true):PyData.strOk x=true:=by
  have hp:∀ p∈pcs x,PyData.strOk p=true:=λ p hp=>by
    unfold pok at h;simp only[and_eq_true]at h;rw[YR]at hp;rcases List.mem_cons.mp hp with rfl|hp
    . exact gw_ok h.1.1
    . have z:=List.all_eq_true.mp h.2 p hp;unfold gn at z;simp only[and_eq_true]at z;unfold PyData.strOk;rw[Array.all_eq_true_iff_forall_mem];intro c hc;have z2:=List.all_eq_true.mp z.1.2 c (by simpa using hc);simp[inR]at z2;simp;omega
  have key:∀ l:List Str,(∀ p∈l,PyData.strOk p=true)->PyData.strOk (Str.join dot l)=true:=by
    intro l
    induction l with
    |nil=>intro _;decide +kernel
    |cons a r ih=>
      intro hl;cases r with
      |nil=>exact hl a (by simp)
      |cons b r'=>
        show PyData.strOk (a++dot++Str.join dot (b::r'))=true;exact Zfh (Zfh (hl a (by simp)) (by decide +kernel)) (ih (λ p hp=>hl p (mem_cons_of_mem _ hp)))
  rw[<- YQ x];exact key _ hp
structure First (was:List (Str×Int)):Prop where
  nod:(was.map (·.1)).Nodup
  len:was.length<=3
  ok:∀ p∈was,gw p.1=true/\0<=p.2/\p.2<=120
noncomputable def arr (p:Str×Int):Deed:=.arrive p.1 p.2
open PySem PySem.Spec
open PySem PySem.Spec
section
variable {H H2:Hp}{x dx C:Addr}
end
theorem Mo.Ok.mono {S:Mo}{k j:Nat}(O:S.Ok k)(h:k<=j):S.Ok j:=⟨O.wf,O.cw,le_trans O.lb h,le_trans O.ld h,le_trans O.lc h⟩
open PySem PySem.Spec
end L2
namespace L2
open PySem PySem.Spec PyProof.Rows PySem.W
structure RoomU (k:Nat)(A:Around):Prop where
  dp:A.depth+3 * k+5<recursionLimit
  un:A.units+16 * k+200<cLine
section
variable {X:Cx}
noncomputable def del (H:Hp)(a:Addr):Hp:=λ b=>if b=a then none else H b
noncomputable abbrev xo (a:Addr)(oe:Obj):HO:=.frz oe (.own a)
end
end L2
namespace L2
open PySem PySem.Spec
end L2
namespace L2
open PySem PySem.Spec PyProof.Rows
noncomputable def tLCt (n:Nat)(caps:List (Str×Nat))(wi:TI)(g:TG)(tt:TT)(te:TE):TE:=λ σ H Q=>wi σ H λ J H1=>∀ D,H1 D=none ->
  ∃ W:Nat->Nat->Hp->Prop,(∃ m,W 0 m (upd H1 D (.lst [])))/\∀ i m H2,W i m H2 ->
    (J.stop i H2/\Q (.ref D) H2)\/(J.go i H2/\∀ x H',J.yld i H2 x H'->∀ vals:St,vals.length=n->g x (vals++Yl caps σ) H' λ σ2 H3=>∃ vals':St,vals'.length=n/\σ2=vals'++Yl caps σ /\
      tt σ2 H3 λ b H4=>if b=true then te σ2 H4 λ v H5=>∃ ys m',H5 D=some (.lst ys)/\ys.length<sizeLine/\m'<m/\W (i+1) m' (upd H5 D (.lst (ys++[v])))
      else ∃ m',m'<m/\W (i+1) m' H4)
section
variable {X:Cx}
end
end L2
namespace L2
open PySem PySem.Spec PyProof.Rows
section
variable {M:Model}{A:Around}{E:Value->Shared->Prop}{s:Shared}
theorem ZdD {base:Heap}{env:Env}{outer:List Env}{L ex:Addr}{cls a0 fl:Value}{Q:Unit->Shared->Prop}(z1:A.frames=some (env::outer))(z2:s.heap.FunFrames base (env::outer))(z3:env.frame=some L)(z4:s.heap.TracedAtW base ex cls a0 fl)(z5:base.StaysIn s.heap)(z6:base.get? ex=none)(z7:∀ h',Heap.LeftW base (env::outer) ex cls a0 s.heap h'->Q () { s with heap:=h' }):wpAny M A (leaving env (.ref ex)) Q E s:=by
  by_cases hfl:fl=rawInt L
  . subst hfl;unfold leaving;refine wpAny_bind (wpAny_noteFrame_againW z3 z4 (wpAny_setFlight_noneW z5 z2 z4 λ h' k1 k2 k3 k4=>z7 h' ⟨k1,k2,k3,λ b o hb hn=>⟨o.slots,k4 b o hb hn⟩⟩))
  . obtain⟨oe,vs,T,oT,ts,y1,⟨rfl,y2⟩,y3,y4,y5,y6,y7,y8,y9⟩:=z4;unfold leaving noteFrame;simp only[z3];refine wpAny_bind (wpAny_bind (wpAny_field y1 y3 y4 ?_));rw[if_pos (show(Value.ref T != Value.none)=true from by simp)];refine wpAny_bind (wpAny_field y7 y8 y9 ?_);rw[if_neg (λ c=>hfl (eq_of_beq c))];refine wpAny_bind (wpAny_setField y7 y8 (Array.getElem?_eq_some_iff.mp y9).1 ?_);have oth:∀ b,b≠T->(s.heap.update T (Obj.mapFields (·.setIfInBounds 3 Value.none))).get? b=s.heap.get? b:=λ b n=>Heap.get?_update_other _ _ (Ne.symm n);have nrc:∀ b o,s.heap.get? b=some o->(∀ vs,o.data ≠ .fields vs)->b≠T:=λ b o c n q=>by
      rw[q,y7]at c;cases c;exact n ts y8
    refine wpAny_newEntryW z1 (z2.of_keeps λ b o c n=>⟨o,(oth b (nrc b o c n)).trans c,rfl⟩) z3 ((oth ex (Ne.symm y6)).trans y1)
      (λ b o c=>(oth b λ q=>by rw[q,y5]at c;cases c).trans (z5 b o c)) z6 y3 (Array.getElem?_eq_some_iff.mp y4).1 y2 λ h' ⟨x1,x2,x3,x4⟩=>z7 h' ⟨x1,x2,x3,λ b o c n=>x4 b o ((oth b (nrc b o c n)).trans c) n⟩
theorem Zfc {base:Heap}{l:List Env}{ex:Addr}{cls a0 fl:Value}{what:String}{cenv:Env}{Q:Value->Shared->Prop}(z2:s.heap.FunFrames base l)(z4:s.heap.TracedAtW base ex cls a0 fl)(z5:base.StaysIn s.heap)(z7:∀ h',base.StaysIn h'->h'.FunFrames base l->(∃ fl',h'.TracedAtW base ex cls a0 fl')->(∀ b o,s.heap.get? b=some o->(∀ vs,o.data ≠ .fields vs)->h'.get? b=some o)->E (.ref ex) { s with heap:=h' }) :
    wpAny M A (PySem.passOn what (.ref ex) cenv:Sem Value) Q E s:=by
  obtain⟨oe,vs,T,oT,ts,y1,y2,y3,y4,y5,y6,y7,y8,y9⟩:=z4;unfold PySem.passOn setFlight;refine wpAny_bind (wpAny_field y1 y3 y4 ?_);rw[if_neg (show ¬ (Value.ref T == Value.none)=true from by simp)];refine wpAny_bind (wpAny_bind (wpAny_field y1 y3 y4 ?_));rw[if_pos (show(Value.ref T != Value.none)=true from by simp)];have hs3:3<ts.size:=(Array.getElem?_eq_some_iff.mp y9).1;refine wpAny_setField y7 y8 hs3 ?_;have oth:∀ b,b≠T->(s.heap.update T (Obj.mapFields (·.setIfInBounds 3 (cenv.frame.elim Value.none λ f=>rawInt f)))).get? b=s.heap.get? b:=λ b n=>Heap.get?_update_other _ _ (Ne.symm n);have nrc:∀ b o,s.heap.get? b=some o->(∀ vs,o.data ≠ .fields vs)->b≠T:=λ b o c n q=>by
    rw[q,y7]at c;cases c;exact n ts y8
  refine wpAny_throw (z7 _ (λ b o c=>(oth b λ q=>by rw[q,y5]at c;cases c).trans (z5 b o c)) (z2.of_keeps λ b o c n=>⟨o,(oth b (nrc b o c n)).trans c,rfl⟩) ?_ λ b o c n=>(oth b (nrc b o c n)).trans c);exact⟨cenv.frame.elim Value.none λ f=>rawInt f,oe,vs,T,_,_,(oth ex (Ne.symm y6)).trans y1,y2,y3,y4,y5,y6,Heap.get?_update_self _ y7 (Obj.isFreed_of_fields (Obj.data_mapFields y8 _)),Obj.data_mapFields y8 _,by simp[hs3]⟩
end
theorem ZbH {base h h':Heap}{C:Addr}(k:∀ b o,b≠C->h.get? b=some o->h'.get? b=some o):∀ {l:List Env},h.FunFrames base l->(∀ env∈l,env.frame≠some C)->h'.FunFrames base l
  |[],_,_=>trivial
  |env::_,⟨hk,⟨L,o,hf,hn,ho,hd⟩,hr⟩,hc=>⟨hk,⟨L,o,hf,hn,k L o (λ z=>hc env (.head _) (by rw[hf,z])) ho,hd⟩,ZbH k hr λ e he=>hc e (.tail _ he)⟩
noncomputable abbrev Cx.compX (X:Cx)(scope:Scope)(cl:List (Str×Addr))(C:Addr)(N':List Str)(s₀:Shared)(H₀:Hp)(fp:List Addr)(pins:List (Addr×Obj))(E:XK):Cx:=
  (X.comp scope cl C N' s₀ H₀ fp pins).wish λ e s'=>∃(H5:Hp)(s5:Shared),s5.os=s₀.os/\AllBare s5.gens/\Un (frs X.stack) fp H₀ H5 s₀.heap s5.heap/\HOk X.prog X.w H5 s5.heap/\(∃ m,s5.heap.Ns C m)/\H5 C=none/\CXR X.prog X.w X.base X.stack H5 s5 E e s'
theorem passC {X:Cx}{scope:Scope}{cl:List (Str×Addr)}{C:Addr}{N':List Str}{s₀:Shared}{H₀:Hp}{fp:List Addr}{pins:List (Addr×Obj)}{E:XK}:Xx (CXR X.prog X.w X.base) (X.compX scope cl C N' s₀ H₀ fp pins E) E:=λ pins' σ' H s e s' I h=>
 ⟨H,s,I.os,I.bare,I.base,I.hok,let ⟨m,h1,_⟩:=I.loc;⟨m,h1⟩,I.free,h⟩
section
variable {P:Program}{w:World}{K:Frag}{mg:Str->Option Value}{base:Heap}{N:List Str}{qual:Str}{scope:Scope}{f:Addr}{cd:Value}{A:Around}{outer:List Env}{s0:Shared}{H0:Hp}{E:XK}
theorem Zfw {env:Env}{l:List Env}{b:Addr}(h:b∈frs l):b∈frs (env::l):=by
 obtain⟨e,h1,h2⟩:=List.mem_filterMap.mp h;exact List.mem_filterMap.mpr ⟨e,mem_cons_of_mem _ h1,h2⟩
theorem Zf5 {pins:List (Addr×Obj)}{σ:St}{H2:Hp}{s2:Shared}{ex T0 C:Addr}{Cc a0:Value}{h3:Heap}{t':Nat}(I2:Inv (Zp (CXR P w base) P w K mg base N qual scope f cd A outer s0 H0 E) pins σ H2 s2)(y2:base.get? ex=none)(y5:base.get? T0=none)(yC:base.get? C=none)(Ha:H2 ex=none)(HT:H2 T0=none)(HC:H2 C=none)(na:s0.heap.get? ex=none)(nT:s0.heap.get? T0=none)(nC:s0.heap.get? C=none)(q2:E Cc none H2)(hCf:C∉frs (envOfC qual scope s0.heap.objs.size f cd::outer))(f1:(hideAll s2.heap (ex::T0::C::frs (envOfC qual scope s0.heap.objs.size f cd::outer))).StaysIn h3)(f3:h3.FunFrames (hideAll s2.heap (ex::T0::C::frs (envOfC qual scope s0.heap.objs.size f cd::outer))) outer)(f4:h3.TracedW (hideAll s2.heap (ex::T0::C::frs (envOfC qual scope s0.heap.objs.size f cd::outer))) ex Cc a0)(U:∀ b o,b≠C->s2.heap.get? b=some o->(∀ vs,o.data ≠ .fields vs)->∃ sl,h3.get? b=some { o with slots:=sl }) :
    CXR P w base outer H0 s0 E (.ref ex) { s2 with heap:=h3,toks:=t' }:=by
  let fr:=frs (envOfC qual scope s0.heap.objs.size f cd::outer)
  let B:=hideAll s2.heap (ex::T0::C::fr)
  have stk:s2.heap.FunFrames base (envOfC qual scope s0.heap.objs.size f cd::outer):=I2.stack;have notL:∀ b o,s0.heap.get? b=some o->b≠s0.heap.objs.size:=λ b o e=>ne_of_lt (Heap.lt_size e);have inB:∀ b o,s2.heap.get? b=some o->b∉ex::T0::C::fr->B.get? b=some o:=λ b o e n=>PySem.W.hideAll_get _ e n;have hid:∀ b,b∈ex::T0::C::fr->B.get? b=none:=λ b hb=>PySem.W.hideAll_none _ hb;have nex:∀ b,b∉(Zp (CXR P w base) P w K mg base N qual scope f cd A outer s0 H0 E).ex:=λ b q=>absurd (show b∈([]:List Addr) from q) (by simp);have no2:∀ b,s2.heap.get? b=none->s0.heap.get? b=none:=λ b n=>by
    cases z:s0.heap.get? b with
    |none=>rfl
    |some o=>
      obtain⟨o',z'⟩:=I2.base.there b o z (nex b);rw[n]at z';cases z'
  have cases4:∀ {b:Addr},b∈ex::T0::C::fr->b=ex\/b=T0\/b=C\/b∈fr:=λ {b} h=>by
    rcases List.mem_cons.mp h with r|h
    . exact .inl r
    . rcases List.mem_cons.mp h with r|h
      . exact .inr (.inl r)
      . rcases List.mem_cons.mp h with r|h
        . exact .inr (.inr (.inl r))
        . exact .inr (.inr (.inr h))
  have notIn:∀ b o,s0.heap.get? b=some o->b∉frs outer->b∉ex::T0::C::fr:=λ b o z n hb=>by
    rcases cases4 hb with r|r|r|hb
    . rw[r,na]at z;cases z
    . rw[r,nT]at z;cases z
    . rw[r,nC]at z;cases z
    . exact I2.stkNo (notL b o z) n hb
  have notF:∀ {b:Addr},b∈fr->b≠C:=λ {b} hb r=>hCf (r▸hb);have baseB:base.StaysIn B:=λ b o z=>inB b o (I2.bk b o z) λ hb=>by
    rcases cases4 hb with r|r|r|hb
    . rw[r,y2]at z;cases z
    . rw[r,y5]at z;cases z
    . rw[r,yC]at z;cases z
    . rw[(stk.mem hb).1]at z;cases z
  obtain⟨oe,vs,Tr,oT,ts,g1,g2,g3,g4,g5,g6,g7,g8,g9⟩:=f4;have trN:H2 Tr=none/\s0.heap.get? Tr=none:=by
    cases z:s2.heap.get? Tr with
    |none=>exact⟨I2.untr z,no2 _ z⟩
    |some o=>
      by_cases hb:Tr∈ex::T0::C::fr
      . rcases cases4 hb with r|r|r|hb
        . exact absurd r g6
        . rw[r];exact⟨HT,nT⟩
        . rw[r];exact⟨HC,nC⟩
        . obtain⟨_,o',ho',d'⟩:=stk.mem hb;obtain⟨sl,z2'⟩:=U Tr o' (notF hb) ho' d';rw[g7]at z2';have z3':=congrArg (λ q:Option Obj=>q.map (·.data)) z2';simp only[map_some,g8]at z3';exact absurd (Option.some.inj z3').symm (d' ts)
      . have z':=inB Tr o z hb;rw[show B.get? Tr=none from g5]at z';cases z'
  refine⟨ex,Tr,Cc,H2,rfl,I2.os,I2.bare,⟨λ b o z n hb _=>?_,λ b o z n hb _=>?_,λ b o z n _=>I2.base.free b o z n (nex b),λ b o z _=>?_,I2.base.tups,I2.base.frzs,I2.base.tbls⟩,λ b u z=>?_,⟨λ b o z=>f1 b o (baseB b o z),y2,PySem.W.funFrames_base baseB f3,a0,oe,vs,oT,ts,g1,g2,g3,g4,?_,g6,g7,g8,g9⟩,Ha,trN.1,na,trN.2,q2⟩
  . exact f1 b o (inB b o (I2.base.keep b o z n hb (nex b)) (notIn b o z hb))
  . obtain⟨sl,w1⟩:=I2.base.slot b o z n hb (nex b);obtain⟨_,o',ho',d'⟩:=I2.ok.funs.mem hb;have:o'=o:=by rw[show(Zp (CXR P w base) P w K mg base N qual scope f cd A outer s0 H0 E).s₀.heap.get? b=some o from z]at ho';exact(Option.some.inj ho').symm
    subst this;obtain⟨sl',w2⟩:=U b _ (notF (Zfw hb)) w1 (λ vs=>d' vs);exact⟨sl',w2⟩
  . by_cases hb:b∈fr
    . obtain⟨_,o',ho',d'⟩:=stk.mem hb;obtain⟨sl,w2⟩:=U b o' (notF hb) ho' d';exact⟨_,w2⟩
    . obtain⟨o',z'⟩:=I2.base.there b o z (nex b);refine⟨o',f1 b o' (inB b o' z' λ hb'=>?_)⟩;rcases cases4 hb' with r|r|r|hb'
      . rw[r,na]at z;cases z
      . rw[r,nT]at z;cases z
      . rw[r,nC]at z;cases z
      . exact hb hb'
  . refine(I2.hok b u z).stay (λ c v hc q=>?_) (λ _ q=>q) λ _ _ q=>q;have tr:∀ c v,H2 c=some v->c∉ex::T0::C::fr:=λ c v q n=>by
      rcases cases4 n with r|r|r|n
      . rw[r,Ha]at q;cases q
      . rw[r,HT]at q;cases q
      . rw[r,HC]at q;cases q
      . rw[I2.stkFree c n]at q;cases q
    rcases hc with hc|hc
    . rw[hc]at q ⊢;exact f1 b v (inB b v q (tr b u z))
    . exact f1 c v (inB c v q (tr c _ hc))
  . cases z:base.get? Tr with
    |none=>rfl
    |some o=>
      have z':=baseB Tr o z;rw[show B.get? Tr=none from g5]at z';cases z'
theorem ZfD {pins:List (Addr×Obj)}{σ:St}{H3:Hp}{s3:Shared}{fp:List Addr}{N':List Str}{sc:Scope}{cl:List (Str×Addr)}{use:Option (Value->Sem Unit)}{QQ:Value->Shared->Prop}{acc e:Value}{s':Shared}(I3:Inv (Zp (CXR P w base) P w K mg base N qual scope f cd A outer s0 H0 E) pins σ H3 s3)(f3:∀ b∈fp,Xy (Zp (CXR P w base) P w K mg base N qual scope f cd A outer s0 H0 E) pins H3 b)(h:((Zp (CXR P w base) P w K mg base N qual scope f cd A outer s0 H0 E).compX sc cl s3.heap.objs.size N' s3 H3 fp pins E).xe e s') :
    notedBy (model P w) (Zp (CXR P w base) P w K mg base N qual scope f cd A outer s0 H0 E).A (compEnvC sc cl s3.heap.objs.size (Zp (CXR P w base) P w K mg base N qual scope f cd A outer s0 H0 E).env)
      (λ e s'=>compPost (model P w) (Zp (CXR P w base) P w K mg base N qual scope f cd A outer s0 H0 E).A (Zp (CXR P w base) P w K mg base N qual scope f cd A outer s0 H0 E).xe use QQ acc s3.heap.objs.size (.error e) s') e s':=by
  obtain⟨H5,s5,o5,b5,u5,hok5,⟨m5,ns5⟩,hC5,ex,T0,Cc,H2,rfl,os,bare,un,hok,fly,Ha,HT,ha,hT,q2⟩:=h;obtain⟨C,hC⟩:∃ C,C=s3.heap.objs.size:=⟨_,rfl⟩;rw[<- hC]at ns5 hC5 ⊢;have stk3:s3.heap.FunFrames base (envOfC qual scope s0.heap.objs.size f cd::outer):=I3.stack;have hCf:C∉frs (envOfC qual scope s0.heap.objs.size f cd::outer):=λ hb=>by
    obtain⟨_,o',ho',_⟩:=stk3.mem hb;have:=Heap.lt_size ho';rw[hC]at this;exact lt_irrefl _ this
  have I2:Inv (Zp (CXR P w base) P w K mg base N qual scope f cd A outer s0 H0 E) pins σ H2 s':=I3.call' (ch:=fp) (os.trans o5) (u5.trans (un.mono (λ _ h=>h) (λ _ h=>nomatch h))) hok bare λ b hb=>⟨(f3 b hb).2.2.2.1,(f3 b hb).2.1,(f3 b hb).2.2.2.2.1,(f3 b hb).2.2.2.2.2⟩;obtain⟨oC,esC,epC,gC,dC,rC⟩:=id ns5;have HC:H2 C=none:=un.free C oC gC hC5 (λ z=>nomatch z);have gC':s'.heap.get? C=some oC:=un.keep C oC gC hC5 hCf (λ z=>nomatch z);have nsC:s'.heap.Ns C m5:=⟨oC,esC,epC,gC',dC,rC⟩;obtain⟨y1,y2,y3,a0,oe0,vs0,oT0,ts0,z1,z2,z3,z4,z5,z6,z7,z8,z9⟩:=fly;have stk:s'.heap.FunFrames base (envOfC qual scope s0.heap.objs.size f cd::outer):=I2.stack;have nex:∀ b,b∉(Zp (CXR P w base) P w K mg base N qual scope f cd A outer s0 H0 E).ex:=λ b q=>absurd (show b∈([]:List Addr) from q) (by simp);have up3:∀ b o,s0.heap.get? b=some o->∃ o',s3.heap.get? b=some o':=λ b o z=>I3.base.there b o z (nex b);have no5:∀ b,s5.heap.get? b=none->s0.heap.get? b=none:=λ b n=>by
    cases z:s0.heap.get? b with
    |none=>rfl
    |some o=>
      obtain⟨o',z'⟩:=up3 b o z;obtain⟨o'',z''⟩:=u5.there b o' z' λ hb=>by
        rcases(f3 b hb).2.2.2.1 with q|q
        . exact nex b q
        . exact absurd (Heap.lt_size z) (Nat.not_lt.mpr q)
      rw[n]at z'';cases z''
  have noC:s3.heap.get? C=none:=by
    cases z:s3.heap.get? C with
    |none=>rfl
    |some o=>rw[hC]at z;exact absurd (Heap.lt_size z) (lt_irrefl _)
  have yC:base.get? C=none:=by
    cases z:base.get? C with
    |none=>rfl
    |some o=>have:=I3.bk C o z;rw[noC]at this;cases this
  have nC:s0.heap.get? C=none:=by
    cases z:s0.heap.get? C with
    |none=>rfl
    |some o=>obtain⟨o',z'⟩:=up3 C o z;rw[noC]at z';cases z'
  have hid:∀ b,b∈ex::T0::C::frs (envOfC qual scope s0.heap.objs.size f cd::outer)->(hideAll s'.heap (ex::T0::C::frs (envOfC qual scope s0.heap.objs.size f cd::outer))).get? b=none:=λ b hb=>PySem.W.hideAll_none _ hb;have hin:∀ env∈(envOfC qual scope s0.heap.objs.size f cd::outer),∀ b,env.frame=some b->b∈ex::T0::C::frs (envOfC qual scope s0.heap.objs.size f cd::outer):=λ env he b hb=>mem_cons_of_mem _ (mem_cons_of_mem _ (mem_cons_of_mem _ (List.mem_filterMap.mpr ⟨env,he,hb⟩)));show wpAny (model P w) (A.deeper (envOfC qual scope s0.heap.objs.size f cd)) (noteFrame (.ref ex) (envOfC qual scope s0.heap.objs.size f cd)) _ _ s';refine wpAny_noteFrame_onW (base:=hideAll s'.heap (ex::T0::C::frs (envOfC qual scope s0.heap.objs.size f cd::outer))) (L:=s0.heap.objs.size) (cls:=Cc) (a0:=a0) I2.ok.frames (PySem.W.funFrames_hide stk hin) rfl ⟨oe0,vs0,T0,oT0,ts0,z1,z2,z3,z4,hid T0 (mem_cons_of_mem _ (mem_cons_self ..)),z6,z7,z8,z9⟩ (λ b o z=>PySem.W.of_hideAll _ z) (hid ex (mem_cons_self ..)) λ h1 hN=>?_;obtain⟨n1,n2,n3,n4⟩:=hN;have ns1:h1.Ns C m5:=Heap.UpToSlots.ns n4 nsC;refine⟨m5,ns1,λ h' hs' cenv _=>?_⟩;have k':∀ b o,b≠C->h1.get? b=some o->h'.get? b=some o:=λ b o n e=>(hs'.2 b n).trans e;have nfC:∀ b o vs,h1.get? b=some o->o.data = .fields vs->b≠C:=λ b o vs e d z=>by
    obtain⟨o1,es1,ep1,g1,d1,_⟩:=ns1;rw[z,g1]at e;cases e;rw[d1]at d;cases d
  have Tr':h'.TracedAtW (hideAll s'.heap (ex::T0::C::frs (envOfC qual scope s0.heap.objs.size f cd::outer))) ex Cc a0 (rawInt s0.heap.objs.size):=by
    obtain⟨oe,vs,Tr,oT,ts,g1,g2,g3,g4,g5,g6,g7,g8,g9⟩:=n3;exact⟨oe,vs,Tr,oT,ts,k' _ _ (nfC _ _ _ g1 g3) g1,g2,g3,g4,g5,g6,k' _ _ (nfC _ _ _ g7 g8) g7,g8,g9⟩
  refine Zfc (base:=hideAll s'.heap (ex::T0::C::frs (envOfC qual scope s0.heap.objs.size f cd::outer))) (ZbH k' n2 λ env he z=>hCf (List.mem_filterMap.mpr ⟨env,he,z⟩)) Tr' (λ b o e=>k' b o (λ z=>by rw[z,hid C (mem_cons_of_mem _ (mem_cons_of_mem _ (mem_cons_self ..)))]at e;cases e) (n1 b o e)) λ h2 p1 p2 ⟨fl',p3⟩ p4=>?_;show wpAny (model P w) (A.deeper (envOfC qual scope s0.heap.objs.size f cd)) (leaving (envOfC qual scope s0.heap.objs.size f cd) (.ref ex)) (λ _ s''=>CXR P w base outer H0 s0 E (.ref ex) s'') (λ e' s''=>CXR P w base outer H0 s0 E e' s'') _;refine ZdD (base:=hideAll s'.heap (ex::T0::C::frs (envOfC qual scope s0.heap.objs.size f cd::outer))) (L:=s0.heap.objs.size) I2.ok.frames p2 rfl p3 p1 (hid ex (mem_cons_self ..)) λ h3 ⟨r1,⟨_,_,r2⟩,r3,r4⟩=>?_;have U:∀ b o,b≠C->s'.heap.get? b=some o->(∀ vs,o.data ≠ .fields vs)->∃ sl,h3.get? b=some { o with slots:=sl }:=λ b o nb gb db=>by
    obtain⟨sl,e1⟩:=n4 b o gb db;obtain⟨sl2,e2⟩:=r4 b { o with slots:=sl } (p4 b _ (k' b { o with slots:=sl } nb e1) db) db;exact⟨sl2,e2⟩
  have zz:=Zf5 (s2:=s') (t':=s'.toks) I2 y2 z5 yC Ha HT HC (no5 _ ha) (no5 _ hT) nC q2 hCf r1 r2 r3 U;exact zz
end
theorem loopLx {prog:Program}{w:World}{A:Around}{R:Result->Shared->Prop}{s:Shared}{el tg iter:Expr}{ifs:List Expr}{scope:Scope}{pos:Pos}{it acc:Value}{env:Env}(J:Nat->Shared->Prop)(XE:Value->Shared->Prop)(err:∀ e s',XE e s'->notedBy (model prog w) A env (λ e s'=>R (.error e) s') e s')(turn:∀ n s,J n s->wpAny (model prog w) A (pyNext it) (λ r s1=>match r with
      |none=>R (.ok .next) s1
      |some v=>wpAny (model prog w) A (letOwnedTupleGo tg it v) (λ _ s2=>wpAny (model prog w) A (assign tg env v) (λ _ s3=>
          wpAny (model prog w) A (forIn ifs true λ c r=>if r=true then do let ok <- isTrue c env (eval c env);pure (ForInStep.yield ok) else pure (ForInStep.yield r)) (λ ok s4=>
            if ok=true then wpAny (model prog w) A (eval el env) (λ x s5=>wpAny (model prog w) A (call (.builtin "list.append") [acc,x]) (λ _ s6=>∃ m,m<n/\J m s6) XE s5) XE s4
            else ∃ m,m<n/\J m s4) XE s3) XE s2) XE s1) XE s)(n:Nat)(h:J n s):codeAny (model prog w) A (.compLoop (.ListComp el [⟨tg,iter,ifs,0⟩] scope pos) 0 it acc env) R s:=by
  refine codeAny_loop rfl J (λ n s hJ=>?_) n h;show wpAny _ A ((compTurn (.ListComp el [⟨tg,iter,ifs,0⟩] scope pos) 0 it acc env).onRaise (λ x=>do noteFrame x env;theTreesLotGoes x)) _ _ s;refine wpAny_noted (wpAny_mono ?_ (λ _ _ h=>h) err);rw[compTurn_list];refine wpAny_bind (wpAny_standAt (wpAny_bind (thn (turn n s hJ) λ r s1 h1=>?_)));cases r with
  |none=>exact wpAny_pure h1
  |some v=>
    refine wpAny_bind (thn h1 λ _ s2 h2=>wpAny_bind (thn h2 λ _ s3 h3=>wpAny_bind (thn h3 λ ok s4 h4=>?_)));cases ok with
    |false=>exact wpAny_pure ⟨rfl,h4⟩
    |true=>exact wpAny_bind (wpAny_bind (thn h4 λ x s5 h5=>wpAny_bind (thn h5 λ _ s6 h6=>wpAny_pure (wpAny_pure ⟨rfl,h6⟩))))
section
variable {P:Program}{w:World}{K:Frag}{mg:Str->Option Value}{base:Heap}{N:List Str}{qual:Str}{scp:Scope}{f:Addr}{cd:Value}{A:Around}{outer:List Env}{s0:Shared}{H0:Hp}{E:XK}
theorem Zfm {elt iter tg:Expr}{xs:List Str}{ifs:List Expr}{scope:Scope}{cl:List (Str×Addr)}{pos:Pos}{caps:List (Str×Nat)}{wi:TI}{g:TG}{tt:TT}{te:TE}(hc:(Zp (CXR P w base) P w K mg base N qual scp f cd A outer s0 H0 E).calm=true)(hi:PI (Zp (CXR P w base) P w K mg base N qual scp f cd A outer s0 H0 E) tg iter wi)(hg:∀ C s₀ H₀ fp pins,PG ((Zp (CXR P w base) P w K mg base N qual scp f cd A outer s0 H0 E).compX scope cl C (xs++caps.map (·.1)) s₀ H₀ fp pins E) tg g)(ht:∀ C s₀ H₀ fp pins,PIfs ((Zp (CXR P w base) P w K mg base N qual scp f cd A outer s0 H0 E).compX scope cl C (xs++caps.map (·.1)) s₀ H₀ fp pins E) ifs tt)(he:∀ C s₀ H₀ fp pins,PE ((Zp (CXR P w base) P w K mg base N qual scp f cd A outer s0 H0 E).compX scope cl C (xs++caps.map (·.1)) s₀ H₀ fp pins E) elt te)(hclos:closureFor scope (Zp (CXR P w base) P w K mg base N qual scp f cd A outer s0 H0 E).env=pure cl)(hcell:∀ y∈scope.names,y.2 ≠ .cell)(hkind:scope.kind = .function)(hnames:∀ y∈scope.names,y.2 = .local->scope.names.lookup y.1=some .local)(hcl:∀ x c,cl.lookup x=some c->(Zp (CXR P w base) P w K mg base N qual scp f cd A outer s0 H0 E).env.cells.lookup x=some c)(hhas:∀ x,((relabel scope (Zp (CXR P w base) P w K mg base N qual scp f cd A outer s0 H0 E).env).names.lookup x=some .cell\/(relabel scope (Zp (CXR P w base) P w K mg base N qual scp f cd A outer s0 H0 E).env).names.lookup x=some .free)->∃ c,cl.lookup x=some c)(hcap:∀ p∈caps,(Zp (CXR P w base) P w K mg base N qual scp f cd A outer s0 H0 E).N[p.2]? = some p.1/\(Zp (CXR P w base) P w K mg base N qual scp f cd A outer s0 H0 E).env.scope.names.lookup p.1=some .cell/\((relabel scope (Zp (CXR P w base) P w K mg base N qual scp f cd A outer s0 H0 E).env).names.lookup p.1=some .cell\/(relabel scope (Zp (CXR P w base) P w K mg base N qual scp f cd A outer s0 H0 E).env).names.lookup p.1=some .free))(hs:∀ x,foldedSetIterable iter (Zp (CXR P w base) P w K mg base N qual scp f cd A outer s0 H0 E).env x=pure x){pins:List (Addr×Obj)}{s:Shared}{σ:St}{H:Hp}{Q:VK}{use:Option (Value->Sem Unit)}{QQ:Value->Shared->Prop}{pos2:Pos}(I:Inv (Zp (CXR P w base) P w K mg base N qual scp f cd A outer s0 H0 E) pins σ H s)(h:tLCt xs.length caps wi g tt te σ H Q)(fin:∀ D C H5 s6 r,Xy (Zp (CXR P w base) P w K mg base N qual scp f cd A outer s0 H0 E) pins H5 C->(∃ m,s6.heap.Ns C m)->Inv (Zp (CXR P w base) P w K mg base N qual scp f cd A outer s0 H0 E) pins σ H5 s6->Q (.ref D) H5->compPost (model (Zp (CXR P w base) P w K mg base N qual scp f cd A outer s0 H0 E).prog (Zp (CXR P w base) P w K mg base N qual scp f cd A outer s0 H0 E).w) (Zp (CXR P w base) P w K mg base N qual scp f cd A outer s0 H0 E).A (Zp (CXR P w base) P w K mg base N qual scp f cd A outer s0 H0 E).xe use QQ (.ref D) C (.ok r) s6) :
    wpAny (model (Zp (CXR P w base) P w K mg base N qual scp f cd A outer s0 H0 E).prog (Zp (CXR P w base) P w K mg base N qual scp f cd A outer s0 H0 E).w) (Zp (CXR P w base) P w K mg base N qual scp f cd A outer s0 H0 E).A (comprehension (.ListComp elt [⟨tg,iter,ifs,0⟩] scope pos) scope (Zp (CXR P w base) P w K mg base N qual scp f cd A outer s0 H0 E).env pos2 (newList []) false (eval iter (Zp (CXR P w base) P w K mg base N qual scp f cd A outer s0 H0 E).env) use) QQ (Zp (CXR P w base) P w K mg base N qual scp f cd A outer s0 H0 E).xe s:=by
  refine wpAny_comprehension_free (use:=use) rfl hs hclos hkind hnames (thn (hi pins s σ H _ I h) λ v s1 h1=>thn h1 λ itv s2 h2=>?_);obtain⟨it,fp,tn,J,H2,e,I2,T,st2,f2,q2⟩:=h2;subst e;refine wpAny_newObj_type ?_ (by show 0<=sizeLine;exact zero_le _);have fD:H2 s2.heap.objs.size=none:=I2.fresh;obtain⟨W,⟨m0,w0⟩,turn⟩:=q2 s2.heap.objs.size fD;have I3:=I2.lnew (its:=[]) (ys:=[]) (t':=s2.toks) .nil (zero_le _);have lt2:∀ b∈fp,b<s2.heap.objs.size:=λ b hb=>by
    obtain⟨o,ho,_⟩:=T.obj 0 _ st2 b hb;exact Heap.lt_size ho
  have neD:∀ b∈fp,b≠s2.heap.objs.size:=λ b hb=>ne_of_lt (lt2 b hb);have st3:tn 0 (s2.heap.push { cls:=.type "list",data:=.seq ([]:List Value).toArray }):=T.keep 0 _ _ st2 λ b _ o e=>Heap.get?_push_of_some _ e;have f3:∀ b∈fp,Xy (Zp (CXR P w base) P w K mg base N qual scp f cd A outer s0 H0 E) pins (upd H2 s2.heap.objs.size (.lst [])) b:=λ b hb=>⟨by rw[ZT (neD b hb)];exact(f2 b hb).1,(f2 b hb).2⟩;generalize hs3:({ s2 with heap:=s2.heap.push { cls:=.type "list",data:=.seq ([]:List Value).toArray },toks:=s2.toks }:Shared)=s3 at I3;generalize hD:s2.heap.objs.size=D at *;have hs3h:s3.heap=s2.heap.push { cls:=.type "list",data:=.seq ([]:List Value).toArray }:=by rw[<- hs3]
  have goal3:wpAny (model (Zp (CXR P w base) P w K mg base N qual scp f cd A outer s0 H0 E).prog (Zp (CXR P w base) P w K mg base N qual scp f cd A outer s0 H0 E).w) (Zp (CXR P w base) P w K mg base N qual scp f cd A outer s0 H0 E).A (newFunctionEnv scope (Zp (CXR P w base) P w K mg base N qual scp f cd A outer s0 H0 E).env.globals cl [] (Zp (CXR P w base) P w K mg base N qual scp f cd A outer s0 H0 E).env.qual none .none (some (Zp (CXR P w base) P w K mg base N qual scp f cd A outer s0 H0 E).env)) (λ cenv s₄=>
      codeAny (model (Zp (CXR P w base) P w K mg base N qual scp f cd A outer s0 H0 E).prog (Zp (CXR P w base) P w K mg base N qual scp f cd A outer s0 H0 E).w) (Zp (CXR P w base) P w K mg base N qual scp f cd A outer s0 H0 E).A (.compStart (.ListComp elt [⟨tg,iter,ifs,0⟩] scope pos) 0 (.ref it) (.ref D) { cenv with scope:=relabel scope (Zp (CXR P w base) P w K mg base N qual scp f cd A outer s0 H0 E).env })
        (compPost (model (Zp (CXR P w base) P w K mg base N qual scp f cd A outer s0 H0 E).prog (Zp (CXR P w base) P w K mg base N qual scp f cd A outer s0 H0 E).w) (Zp (CXR P w base) P w K mg base N qual scp f cd A outer s0 H0 E).A (Zp (CXR P w base) P w K mg base N qual scp f cd A outer s0 H0 E).xe use QQ (.ref D) cenv.locals) s₄) (Zp (CXR P w base) P w K mg base N qual scp f cd A outer s0 H0 E).xe s3:=by
    have lt3:∀ b∈fp,b<s3.heap.objs.size:=λ b hb=>by
      rw[hs3h,Heap.size_push,hD];exact Nat.lt_succ_of_lt (lt2 b hb)
    refine wpAny_newFunctionEnv hcell (by intro y hy;simp at hy) (λ h₁ hns₁ hsb₁=>?_) hkind;have old:∀ b o,s3.heap.get? b=some o->h₁.get? b=some o:=λ b o e=>hsb₁.extBut b o (ne_of_lt (Heap.lt_size e)) (Heap.get?_push_of_some _ e);have I4:Inv ((Zp (CXR P w base) P w K mg base N qual scp f cd A outer s0 H0 E).compX scope cl s3.heap.objs.size (xs++caps.map (·.1)) s3 (upd H2 D (.lst [])) fp pins E) [] (List.replicate xs.length none++Yl caps σ) (upd H2 D (.lst [])) { s3 with heap:=h₁,toks:=s3.toks+0 }:=
      (ZeG I3 f3 lt3 hkind hcl hhas hcap hns₁ old).wish _
    have st4:tn 0 h₁:=T.keep 0 _ _ (by rw[<- hs3h]at st3;exact st3) λ b hb o e=>old b o e;have stat:∀ {H':Hp},(∀ b∈fp,H' b=none)->∀ b∈fp,Xy ((Zp (CXR P w base) P w K mg base N qual scp f cd A outer s0 H0 E).compX scope cl s3.heap.objs.size (xs++caps.map (·.1)) s3 (upd H2 D (.lst [])) fp pins E) [] H' b:=λ hn b hb=>
      ⟨hn b hb,ne_of_lt (lt3 b hb),I4.ok.exfs b hb, .inl hb,λ y c e=>(f3 b hb).2.2.2.2.1 y c (hcl y c e),λ p hp=>(f3 b hb).2.2.2.2.2 p (by simpa using hp)⟩
    have loop:codeAny (model (Zp (CXR P w base) P w K mg base N qual scp f cd A outer s0 H0 E).prog (Zp (CXR P w base) P w K mg base N qual scp f cd A outer s0 H0 E).w) (Zp (CXR P w base) P w K mg base N qual scp f cd A outer s0 H0 E).A (.compLoop (.ListComp elt [⟨tg,iter,ifs,0⟩] scope pos) 0 (.ref it) (.ref D) (compEnvC scope cl s3.heap.objs.size (Zp (CXR P w base) P w K mg base N qual scp f cd A outer s0 H0 E).env))
        (compPost (model (Zp (CXR P w base) P w K mg base N qual scp f cd A outer s0 H0 E).prog (Zp (CXR P w base) P w K mg base N qual scp f cd A outer s0 H0 E).w) (Zp (CXR P w base) P w K mg base N qual scp f cd A outer s0 H0 E).A (Zp (CXR P w base) P w K mg base N qual scp f cd A outer s0 H0 E).xe use QQ (.ref D) s3.heap.objs.size) { s3 with heap:=h₁,toks:=s3.toks+0 }:=by
      refine loopLx (XE:=((Zp (CXR P w base) P w K mg base N qual scp f cd A outer s0 H0 E).compX scope cl s3.heap.objs.size (xs++caps.map (·.1)) s3 (upd H2 D (.lst [])) fp pins E).xe) (err:=λ e s' h=>ZfD I3 f3 h) (λ n s'=>∃ i vals H',vals.length=xs.length/\Inv ((Zp (CXR P w base) P w K mg base N qual scp f cd A outer s0 H0 E).compX scope cl s3.heap.objs.size (xs++caps.map (·.1)) s3 (upd H2 D (.lst [])) fp pins E) [] (vals++Yl caps σ) H' s'/\tn i s'.heap/\(∀ b∈fp,H' b=none)/\W i n H') ?_ m0 ⟨0,List.replicate xs.length none,_,List.length_replicate,I4,st4,λ b hb=>(f3 b hb).1,w0⟩;rintro n s5 ⟨i,vals,H5,hv5,I5,st5,fr5,w5⟩;rcases turn i n H5 w5 with ⟨stop,qn⟩|⟨go,step⟩
      . refine wpAny_noRaise (thn (T.done ((Zp (CXR P w base) P w K mg base N qual scp f cd A outer s0 H0 E).compX scope cl s3.heap.objs.size (xs++caps.map (·.1)) s3 (upd H2 D (.lst [])) fp pins E) rfl rfl rfl hc i [] s5 _ H5 (λ _ _=>False) I5 (stat fr5) st5 stop) λ r s6 zz9=>?_);obtain⟨hr,I6⟩:=zz9;subst hr;obtain⟨m6,hn6,_⟩:=I6.loc;have fC:H5 s3.heap.objs.size=none:=I6.free;have u6:Un (frs (Zp (CXR P w base) P w K mg base N qual scp f cd A outer s0 H0 E).stack) fp (upd H2 D (.lst [])) H5 s3.heap s6.heap:=I6.base;exact fin _ _ _ _ _ (I3.fpOk (le_refl _) fC) ⟨m6,hn6⟩ (I3.call' (ch:=fp) I6.os u6 I6.hok I6.bare λ b hb=>⟨(f3 b hb).2.2.2.1,(f3 b hb).2.1,(f3 b hb).2.2.2.2.1,(f3 b hb).2.2.2.2.2⟩) qn
      . refine wpAny_noRaise (thn (T.item ((Zp (CXR P w base) P w K mg base N qual scp f cd A outer s0 H0 E).compX scope cl s3.heap.objs.size (xs++caps.map (·.1)) s3 (upd H2 D (.lst [])) fp pins E) rfl rfl rfl hc i [] s5 _ H5 (λ _ _=>False) I5 (stat fr5) st5 go) λ r s6 zz9=>?_);obtain⟨u,hr,h6⟩:=zz9;subst hr;refine wpAny_noRaise (thn h6 λ _ s6 zz9=>?_);obtain⟨y,H6,I6,r6,y6,st6,fr6⟩:=zz9;have I6':=I6.pinned (stat fr6) (T.obj _ _ st6);have again:∀ {v8:St} {H8:Hp} {s8:Shared} {m':Nat},v8.length=xs.length->Inv ((Zp (CXR P w base) P w K mg base N qual scp f cd A outer s0 H0 E).compX scope cl s3.heap.objs.size (xs++caps.map (·.1)) s3 (upd H2 D (.lst [])) fp pins E) ([]++Zav fp s6.heap) (v8++Yl caps σ) H8 s8->W (i+1) m' H8 ->
            ∃ i vals H',vals.length=xs.length/\Inv ((Zp (CXR P w base) P w K mg base N qual scp f cd A outer s0 H0 E).compX scope cl s3.heap.objs.size (xs++caps.map (·.1)) s3 (upd H2 D (.lst [])) fp pins E) [] (vals++Yl caps σ) H' s8/\tn i s8.heap/\(∀ b∈fp,H' b=none)/\W i m' H':=λ {v8 H8 s8 m'} hv8 I8 w8=>by
          refine⟨i+1,v8,H8,hv8,I8.unpinned,T.keep _ _ _ st6 λ b hb o e=>(I8.pin (b,o) (mem_append_right _ (mem_append_right _ (Yo hb e)))).1,λ b hb=>?_,w8⟩;obtain⟨o,e,d⟩:=T.obj _ _ st6 b hb;exact(I8.pin (b,o) (mem_append_right _ (mem_append_right _ (Yo hb e)))).2.1
        refine(thn (hg _ _ _ _ _ _ s6 _ H6 _ _ _ I6' r6 (step y H6 y6 vals hv5)) λ _ s7 zz9=>?_);obtain⟨σ7,H7,I7,vals7,hv7,es7,q7⟩:=zz9;subst es7;refine(thn (ht _ _ _ _ _ _ s7 _ H7 _ I7 q7) λ ok s8 zz9=>?_);obtain⟨H8,I8,q8⟩:=zz9;cases ok with
        |false=>
          rw[if_neg Bool.false_ne_true]at q8 ⊢;obtain⟨m',hm',w8⟩:=q8;exact⟨m',hm',again hv7 I8 w8⟩
        |true=>
          rw[if_pos rfl]at q8 ⊢;refine(thn (he _ _ _ _ _ _ s8 _ H8 _ I8 q8) λ z s9 zz9=>?_);obtain⟨v9,H9,I9,r9,ys,m',hD9,hz9,hm9,w9⟩:=zz9;refine(thn (Jj _ s9 _ H9 (.ref D) [v9] (.ref D) [z] (λ v H'=>v = .non/\H'=upd H9 D (.lst (ys++[v9]))) I9 rfl (.cons r9 .nil) ⟨D,ys,v9,rfl,rfl,hD9,hz9,rfl,rfl⟩) λ _ s10 zz9=>?_);obtain⟨v10,H10,I10,_,_,eH⟩:=zz9;subst eH;exact⟨m',hm9,again hv7 I10 w9⟩
    exact codeAny_compStart_list loop (T.self _ 0 _ _ _ st4 loop)
  subst hs3;subst hD;exact goal3
theorem Zf0 {elt iter tg:Expr}{xs:List Str}{ifs:List Expr}{scope:Scope}{cl:List (Str×Addr)}{pos:Pos}{caps:List (Str×Nat)}{wi:TI}{g:TG}{tt:TT}{te:TE}(hc:(Zp (CXR P w base) P w K mg base N qual scp f cd A outer s0 H0 E).calm=true)(hi:PI (Zp (CXR P w base) P w K mg base N qual scp f cd A outer s0 H0 E) tg iter wi)(hg:∀ C s₀ H₀ fp pins,PG ((Zp (CXR P w base) P w K mg base N qual scp f cd A outer s0 H0 E).compX scope cl C (xs++caps.map (·.1)) s₀ H₀ fp pins E) tg g)(ht:∀ C s₀ H₀ fp pins,PIfs ((Zp (CXR P w base) P w K mg base N qual scp f cd A outer s0 H0 E).compX scope cl C (xs++caps.map (·.1)) s₀ H₀ fp pins E) ifs tt)(he:∀ C s₀ H₀ fp pins,PE ((Zp (CXR P w base) P w K mg base N qual scp f cd A outer s0 H0 E).compX scope cl C (xs++caps.map (·.1)) s₀ H₀ fp pins E) elt te)(hclos:closureFor scope (Zp (CXR P w base) P w K mg base N qual scp f cd A outer s0 H0 E).env=pure cl)(hcell:∀ y∈scope.names,y.2 ≠ .cell)(hkind:scope.kind = .function)(hnames:∀ y∈scope.names,y.2 = .local->scope.names.lookup y.1=some .local)(hcl:∀ x c,cl.lookup x=some c->(Zp (CXR P w base) P w K mg base N qual scp f cd A outer s0 H0 E).env.cells.lookup x=some c)(hhas:∀ x,((relabel scope (Zp (CXR P w base) P w K mg base N qual scp f cd A outer s0 H0 E).env).names.lookup x=some .cell\/(relabel scope (Zp (CXR P w base) P w K mg base N qual scp f cd A outer s0 H0 E).env).names.lookup x=some .free)->∃ c,cl.lookup x=some c)(hcap:∀ p∈caps,(Zp (CXR P w base) P w K mg base N qual scp f cd A outer s0 H0 E).N[p.2]? = some p.1/\(Zp (CXR P w base) P w K mg base N qual scp f cd A outer s0 H0 E).env.scope.names.lookup p.1=some .cell/\((relabel scope (Zp (CXR P w base) P w K mg base N qual scp f cd A outer s0 H0 E).env).names.lookup p.1=some .cell\/(relabel scope (Zp (CXR P w base) P w K mg base N qual scp f cd A outer s0 H0 E).env).names.lookup p.1=some .free))(hs:∀ x,foldedSetIterable iter (Zp (CXR P w base) P w K mg base N qual scp f cd A outer s0 H0 E).env x=pure x:=by intro _;rfl) :
    PE (Zp (CXR P w base) P w K mg base N qual scp f cd A outer s0 H0 E) (.ListComp elt [⟨tg,iter,ifs,0⟩] scope pos) (tLCt xs.length caps wi g tt te):=by
  refine⟨?_⟩;intro pins s σ H Q I h;rw[eval_ListComp];refine Zfm hc hi hg ht he hclos hcell hkind hnames hcl hhas hcap hs I h ?_;intro D C H5 s6 r fC ⟨m6,hn6⟩ I6 q;exact⟨m6,hn6,λ h' hs'=>⟨.ref D,H5,I6.turned (λ b o n e=>(hs'.2 b n).trans e) fC.1 fC.2.1 fC.2.2.2.1 fC.2.2.2.2.1 fC.2.2.2.2.2,rfl,q⟩⟩
end
end L2
namespace L2
open PySem PySem.Spec PyProof.Rows
structure Draws (P:Program)(w:World)(A:Around)(it:Addr)(F:List Addr)(J:Nat->Heap->Prop)(v:Nat->Option Value):Prop where
  mem:it∈F
  got:∀ k h,J k h->∀ c∈F,∃ o,h.get? c=some o
  keep:∀ k h h',J k h->(∀ c o,c∈F->h.get? c=some o->h'.get? c=some o)->J k h'
  item:∀(E:Value->Shared->Prop)(s:Shared)(k:Nat)(x:Value)(Q:Value->Shared->Prop),J k s.heap->v k=some x->(∀ g,J (k+1) g->Heap.SameBut it s.heap g->Q x { s with heap:=g })->wpAny (model P w) A (Builtin.SmallTypes.nextOf (.ref it)) Q E s
  stop:∀(E:Value->Shared->Prop)(s:Shared)(k:Nat)(Q:Value->Shared->Prop),J k s.heap->v k=none->(∀ g e,Heap.ExtBut it s.heap g->(∃ o,g.get? e=some o/\o.cls = .type "StopIteration")->E (.ref e) { s with heap:=g })->wpAny (model P w) A (Builtin.SmallTypes.nextOf (.ref it)) Q E s
section
variable {P:Program}{w:World}{A:Around}
theorem ZdG (hh:A.handled=none)(it l:Addr)(ne:l≠it)(its:Array Value):Draws P w A it [it,l] (λ k h=>h.IsListIter it l k/\h.IsList l its) (λ k=>its[k]?) where
  mem:=by simp
  got:=λ k h ⟨a,b⟩ c hc=>by
    rcases List.mem_cons.mp hc with rfl|hc
    . obtain⟨o,e,_⟩:=a;exact⟨o,e⟩
    . rw[List.mem_singleton.mp hc];obtain⟨o,e,_⟩:=b;exact⟨o,e⟩
  keep:=λ k h h' ⟨a,b⟩ q=>⟨a.at λ o e=>q it o (by simp) e,by
    obtain⟨o,e,r⟩:=b;exact⟨o,q l o (by simp) e,r⟩⟩
  item:=λ E s k x Q ⟨a,b⟩ hx q=>wpAny_nextOf_list_item a b hx λ g a' sb=>q g ⟨a',b.extBut sb.extBut ne⟩ sb
  stop:=λ E s k Q ⟨a,b⟩ hx q=>wpAny_nextOf_list_end hh a b hx q
theorem ZaS (hh:A.handled=none)(it l:Addr)(ne:l≠it)(its:Array Value):Draws P w A it [it,l] (λ k h=>h.IsTupleIter it l k/\h.IsTuple l its) (λ k=>its[k]?) where
  mem:=by simp
  got:=λ k h ⟨a,b⟩ c hc=>by
    rcases List.mem_cons.mp hc with rfl|hc
    . obtain⟨o,e,_⟩:=a;exact⟨o,e⟩
    . rw[List.mem_singleton.mp hc];obtain⟨o,e,_⟩:=b;exact⟨o,e⟩
  keep:=λ k h h' ⟨a,b⟩ q=>⟨by
    obtain⟨o,e,r⟩:=a;exact⟨o,q it o (by simp) e,r⟩,by
    obtain⟨o,e,r⟩:=b;exact⟨o,q l o (by simp) e,r⟩⟩
  item:=λ E s k x Q ⟨a,b⟩ hx q=>by
    obtain⟨o,e1,e2,e3⟩:=id a;obtain⟨ol,g1,g2,n,g3⟩:=id b;unfold Builtin.SmallTypes.nextOf;refine wpAny_bind (wpAny_callSpecial?_slot (name:=Str.ofString "__next__") a.typeIs F.slot_tuple_iterator_next (wpAny_call_entry F.slot_tuple_iterator_next a.typeIs F.entry_tuple_iterator_next ?_ (F.args_tuple_iterator_next_1 _)));refine wpAny_bind (m:=field (.ref it) 0) (wpAny_field e1 e3 (x:=.ref l) rfl ?_);refine wpAny_bind (m:=field (.ref it) 1) (wpAny_field e1 e3 (x:=.int k 0) rfl ?_);refine wpAny_bind (m:=seqItems? (.ref l)) (wpAny_seqItems g1 g3 ?_);simp only[toNat_natCast,hx];refine wpAny_bind (wpAny_setField e1 e3 (by simp) (wpAny_pure ⟨x,rfl,wpAny_pure (q _ ⟨⟨_,Heap.get?_update_self _ e1 (Obj.isFreed_of_fields (Obj.data_mapFields e3 _)),(Obj.cls_mapFields ..).trans e2,by rw[Obj.data_mapFields e3];simp[rawInt]⟩,?_⟩ (Heap.SameBut.update ..))⟩));exact b.extBut (Heap.SameBut.update ..).extBut ne
  stop:=λ E s k Q ⟨a,b⟩ hx q=>by
    obtain⟨o,e1,e2,e3⟩:=id a;obtain⟨ol,g1,g2,n,g3⟩:=id b;unfold Builtin.SmallTypes.nextOf;refine wpAny_bind (wpAny_callSpecial?_slot (name:=Str.ofString "__next__") a.typeIs F.slot_tuple_iterator_next (wpAny_call_entry F.slot_tuple_iterator_next a.typeIs F.entry_tuple_iterator_next ?_ (F.args_tuple_iterator_next_1 _)));refine wpAny_bind (m:=field (.ref it) 0) (wpAny_field e1 e3 (x:=.ref l) rfl ?_);refine wpAny_bind (m:=field (.ref it) 1) (wpAny_field e1 e3 (x:=.int k 0) rfl ?_);refine wpAny_bind (m:=seqItems? (.ref l)) (wpAny_seqItems g1 g3 ?_);simp only[toNat_natCast,hx];refine wpAny_bind (wpAny_rule (wpAny_bind (wpAny_setField e1 e3 (by simp) (wpAny_bind (m:=newExc (.type "StopIteration") []) ?_))));simp only[newExc,newTuple];refine wpAny_bind (wpAny_newObj_type (wpAny_bind (m:=firstArgMember _ _) (wpAny_of_eq (a:=Value.none) (by first|rfl|(simp only[firstArgMember];rfl)) (wpAny_newObj_type ?_ (by size_fits)))) (by size_fits));simp only[raiseNew];refine wpAny_bind (wpAny_handled ?_)
    first|rw[show A.in1.handled=none from hh]|rw[hh]
    exact wpAny_bind (wpAny_pure (wpAny_throw (q _ _ (((Heap.SameBut.update ..).extBut.push _).push _) ⟨_,Heap.get?_push_size _ rfl,rfl⟩)))
variable {z TI TO i1 i2:Addr}{F1 F2:List Addr}{J1 J2:Nat->Heap->Prop}{v1 v2:Nat->Option Value}{s:Shared}{E:Value->Shared->Prop}
structure ZpApart (z TI TO i1 i2:Addr)(F1 F2:List Addr):Prop where
  tz:TI≠z
  oz:TO≠z
  to:TI≠TO
  t1:TI∉F1
  t2:TI∉F2
  z1:z∉F1
  z2:z∉F2
  o1:TO∉F1
  o2:TO∉F2
  a1:i1∉F2
  a2:i2∉F1
theorem ZfH {k:Nat}{x y a b:Value}{Q:Value->Shared->Prop}(D1:Draws P w A.in1 i1 F1 J1 v1)(D2:Draws P w A.in1 i2 F2 J2 v2)(D:ZpApart z TI TO i1 i2 F1 F2)(hz:IsZip s.heap z TI TO .none)(hI:IsPair s.heap TI (.ref i1) (.ref i2))(hO:IsPair s.heap TO a b)(j1:J1 k s.heap)(j2:J2 k s.heap)(hx:v1 k=some x)(hy:v2 k=some y)(q:∀ g,IsZip g z TI TO (rawInt s.heap.objs.size)->IsPair g TO x y->J1 (k+1) g->J2 (k+1) g->IsPair g s.heap.objs.size x y->g.objs.size=s.heap.objs.size+1->(∀ c o,c≠z->c≠TO->c≠i1->c≠i2->s.heap.get? c=some o->g.get? c=some o)->Q (.ref s.heap.objs.size) { s with heap:=g }) :
    wpAny (model P w) A.in1 (Builtin.«zip.__next__» ⟨[.ref z],[]⟩) (λ f s'=>∃ v,f = .done (.ret v)/\Q v s') E s:=by
  have ne:∀ {c d:Addr} {F:List Addr},c∈F->d∉F->c≠d:=λ hc hd e=>hd (e▸hc);refine wpAny_bind (m:=field (.ref z) 2) (wpAny_field hz rfl (x:=.bool false) rfl ?_);refine wpAny_bind (m:=field (.ref z) 3) (wpAny_field hz rfl (x:=.ref TI) rfl ?_);refine wpAny_bind (wpAny_seqItems hI rfl ?_);refine wpAny_bind (m:=Builtin.SmallTypes.ownedTupleIsFree (.ref z)) (wpAny_bind (wpAny_field hz rfl (x:=.none) rfl (wpAny_pure ?_)));simp only[if_true];refine wpAny_bind (wpAny_rule (wpAny_bind (wpAny_field hz rfl (x:=.ref TO) rfl (wpAny_bind (wpAny_setField_rec hz (by simp) λ g1 c1 s1=>wpAny_bind ?_)))));have c1:IsZip g1 z TI TO .ellipsis:=c1;simp only[List.zipIdx_cons,List.zipIdx_nil,List.forIn_cons,List.forIn_nil];refine wpAny_bind (wpAny_bind (wpAny_onRaise (wpAny_bind (m:=Builtin.SmallTypes.nextOf (.ref i1)) (D1.item _ _ k x _ (D1.keep _ _ _ j1 λ c o hc e=>s1.extBut _ _ (ne hc D.z1) e) hx λ g2 u2 s2=>wpAny_pure ?_))));have o2:IsPair g2 TO a b:=s2.extBut _ _ (Ne.symm (ne D1.mem D.o1)) (s1.extBut _ _ D.oz hO);refine wpAny_bind (wpAny_seqItems o2 rfl (wpAny_bind (wpAny_updateSeq_pair o2 λ g3 o3 s3=>wpAny_bind (wpAny_letGo (wpAny_pure ?_)))));have o3:IsPair g3 TO x b:=o3;refine wpAny_bind (wpAny_bind (wpAny_onRaise (wpAny_bind (m:=Builtin.SmallTypes.nextOf (.ref i2)) (D2.item _ _ k y _ (D2.keep _ _ _ j2 λ c o hc e=>s3.extBut _ _ (ne hc D.o2) (s2.extBut _ _ (ne hc D.a1) (s1.extBut _ _ (ne hc D.z2) e))) hy λ g4 u4 s4=>wpAny_pure ?_))));have o4:IsPair g4 TO x b:=s4.extBut _ _ (Ne.symm (ne D2.mem D.o2)) o3;refine wpAny_bind (wpAny_seqItems o4 rfl (wpAny_bind (wpAny_updateSeq_pair o4 λ g5 o5 s5=>wpAny_bind (wpAny_letGo (wpAny_pure (wpAny_pure ?_))))));have o5:IsPair g5 TO x y:=o5;refine wpAny_bind (wpAny_seqItems o5 rfl (wpAny_bind (wpAny_newTuple ?_)));have n1:i1≠z:=ne D1.mem D.z1;have n2:i2≠z:=ne D2.mem D.z2;have sz:g5.objs.size=s.heap.objs.size:=by rw[s5.1,s4.1,s3.1,s2.1,s1.1]
  have z5:IsZip g5 z TI TO .ellipsis:=s5.extBut _ _ (Ne.symm D.oz) (s4.extBut _ _ (Ne.symm n2) (s3.extBut _ _ (Ne.symm D.oz) (s2.extBut _ _ (Ne.symm n1) c1)));have k5:∀ c o,c≠z->c≠TO->c≠i1->c≠i2->s.heap.get? c=some o->g5.get? c=some o:=λ c o a b d f e=>s5.extBut _ _ b (s4.extBut _ _ f (s3.extBut _ _ b (s2.extBut _ _ d (s1.extBut _ _ a e))));have u5:J1 (k+1) g5:=D1.keep _ _ _ u2 λ c o hc e=>s5.extBut _ _ (ne hc D.o1) (s4.extBut _ _ (ne hc D.a2) (s3.extBut _ _ (ne hc D.o1) e));have w5:J2 (k+1) g5:=D2.keep _ _ _ u4 λ c o hc e=>s5.extBut _ _ (ne hc D.o2) e;have lz:z<g5.objs.size:=Heap.lt_size z5;refine wpAny_bind (m:=Builtin.SmallTypes.ownedTupleHandOut (.ref z) (.ref g5.objs.size)) ?_;unfold Builtin.SmallTypes.ownedTupleHandOut;have z6:IsZip (g5.push { cls:=.type "tuple",data:=.seq #[x,y] }) z TI TO .ellipsis:=Heap.get?_push_of_some _ z5;refine wpAny_bind (wpAny_setField_rec z6 (by simp) λ g7 z7 s7=>?_);have z7:IsZip g7 z TI TO (rawInt g5.objs.size):=z7;refine wpAny_setField_rec z7 (by simp) λ g8 z8 s8=>?_;have z8:IsZip g8 z TI TO (rawInt g5.objs.size):=z8;have up:∀ c o,c≠z->g5.get? c=some o->g8.get? c=some o:=λ c o a e=>s8.extBut _ _ a (s7.extBut _ _ a (Heap.get?_push_of_some _ e));have t8:IsPair g8 g5.objs.size x y:=s8.extBut _ _ (Nat.ne_of_gt lz) (s7.extBut _ _ (Nat.ne_of_gt lz) (Heap.get?_push_size _ rfl));have l8:g8.objs.size=g5.objs.size+1:=by rw[s8.1,s7.1,Heap.size_push]
  rw[sz]at z8 t8 l8;refine wpAny_pure ⟨_,rfl,?_⟩;show Q (.ref g5.objs.size) _;rw[sz];exact q g8 z8 (up _ _ D.oz o5) (D1.keep _ _ _ u5 λ c o hc e=>up c o (ne hc D.z1) e) (D2.keep _ _ _ w5 λ c o hc e=>up c o (ne hc D.z2) e) t8 l8 λ c o a b d f e=>up c o a (k5 c o a b d f e)
theorem zp_end {k:Nat}{a b:Value}{Q:PySem.Fin->Shared->Prop}(D1:Draws P w A.in1 i1 F1 J1 v1)(D:ZpApart z TI TO i1 i2 F1 F2)(hz:IsZip s.heap z TI TO .none)(hI:IsPair s.heap TI (.ref i1) (.ref i2))(j1:J1 k s.heap)(hx:v1 k=none)(q:∀ g e,(∀ c o,c≠z->c≠i1->s.heap.get? c=some o->g.get? c=some o)->(∃ o,g.get? e=some o/\o.cls = .type "StopIteration")->E (.ref e) { s with heap:=g }) :
    wpAny (model P w) A.in1 (Builtin.«zip.__next__» ⟨[.ref z],[]⟩) Q E s:=by
  have ne:∀ {c d:Addr} {F:List Addr},c∈F->d∉F->c≠d:=λ hc hd e=>hd (e▸hc);refine wpAny_bind (m:=field (.ref z) 2) (wpAny_field hz rfl (x:=.bool false) rfl ?_);refine wpAny_bind (m:=field (.ref z) 3) (wpAny_field hz rfl (x:=.ref TI) rfl ?_);refine wpAny_bind (wpAny_seqItems hI rfl ?_);refine wpAny_bind (m:=Builtin.SmallTypes.ownedTupleIsFree (.ref z)) (wpAny_bind (wpAny_field hz rfl (x:=.none) rfl (wpAny_pure ?_)));simp only[if_true];refine wpAny_bind (wpAny_rule (wpAny_bind (wpAny_field hz rfl (x:=.ref TO) rfl (wpAny_bind (wpAny_setField_rec hz (by simp) λ g1 c1 s1=>wpAny_bind ?_)))));have c1:IsZip g1 z TI TO .ellipsis:=c1;simp only[List.zipIdx_cons,List.zipIdx_nil,List.forIn_cons,List.forIn_nil];refine wpAny_bind (wpAny_bind (wpAny_onRaise (wpAny_bind (m:=Builtin.SmallTypes.nextOf (.ref i1)) (D1.stop _ _ k _ (D1.keep _ _ _ j1 λ c o hc e=>s1.extBut _ _ (ne hc D.z1) e) hx λ g2 e s2 he=>?_))));obtain⟨oe,h1,h2⟩:=he;have z2:IsZip g2 z TI TO .ellipsis:=s2 _ _ (Ne.symm (ne D1.mem D.z1)) c1;have nz:e≠z:=λ x=>by
    subst x;rw[z2]at h1;cases h1;simp at h2
  exact wpAny_setField_rec z2 (by simp) λ g3 _ s3=>q g3 e (λ c o n m x=>s3.extBut _ _ n (s2 _ _ m (s1.extBut _ _ n x))) ⟨oe,s3.extBut _ _ nz h1,h2⟩
end
noncomputable def Itz (K:Frag)(a b:Addr):It:=
 ⟨λ i H=>∃ xs ys x y,SqT K H a xs/\SqL K H b ys/\xs[i]? = some x/\ys[i]? = some y,λ i H v H'=>∃ T x y,H T=none/\v = .ref T/\(∀ xs,SqT K H a xs->xs[i]? = some x)/\(∀ ys,SqL K H b ys->ys[i]? = some y)/\H'=upd H T (.tup [x,y]),λ i H=>∃ xs,SqT K H a xs/\xs.length<=i⟩
theorem ZeQ {P:Program}{w:World}{K:Frag}{elts:List Expr}{k:Nat}{pos:Pos}(a b z TI TO i1 i2:Addr)(na:a≠i1)(nb:b≠i2)(i12:i1≠i2)(D:ZpApart z TI TO i1 i2 [i1,a] [i2,b]) :
    Turn P w K (.Tuple elts k pos) (Itz K a b) [z,TI,TO,i1,i2] z (λ i h=>IsZip h z TI TO .none/\IsPair h TI (.ref i1) (.ref i2)/\(∃ u v,IsPair h TO u v)/\h.IsTupleIter i1 a i/\h.IsListIter i2 b i) where
  mem:=by simp
  obj:=λ i h st c hc=>by
    obtain⟨h1,h2,⟨u,v,h3⟩,⟨o4,h4,c4,d4⟩,⟨o5,h5,c5,d5⟩⟩:=st;simp only[mem_cons,not_mem_nil,or_false]at hc;rcases hc with rfl|rfl|rfl|rfl|rfl
    . exact⟨_,h1,λ v z=>by cases (show Data.fields _=Data.cell v from z)⟩
    . exact⟨_,h2,λ v z=>by cases (show Data.seq _ _=Data.cell v from z)⟩
    . exact⟨_,h3,λ v z=>by cases (show Data.seq _ _=Data.cell v from z)⟩
    . exact⟨o4,h4,λ v z=>by rw[d4]at z;cases z⟩
    . exact⟨o5,h5,λ v z=>by rw[d5]at z;cases z⟩
  keep:=λ i h h' st q=>by
    obtain⟨h1,h2,⟨u,v,h3⟩,⟨o4,h4,r4⟩,⟨o5,h5,r5⟩⟩:=st;exact⟨q z (by simp) _ h1,q TI (by simp) _ h2,⟨u,v,q TO (by simp) _ h3⟩,⟨o4,q i1 (by simp) _ h4,r4⟩,⟨o5,q i2 (by simp) _ h5,r5⟩⟩
  item:=by
    intro X hP hw hK hc i pins s σ H E I hf st hg;subst hP hw hK;obtain⟨xs,ys,x,y,hq,hr,hx,hy⟩:=hg;obtain⟨its,rv,p,hzz⟩:=I.tuple hq;obtain⟨jts,rw_,pl,hzl⟩:=I.list hr;obtain⟨u,hu,ru⟩:=rv.get hx;obtain⟨v,hv,rv2⟩:=rw_.get hy;obtain⟨h1,h2,⟨c1,c2,h3⟩,h4,h5⟩:=st;have hT:s.TypeIs (.ref z) "zip":=⟨_,h1,rfl⟩;have hh:X.A.in1.handled=none:=I.ok.hd hc;have lt:∀ c∈[z,TI,TO,i1,i2],c<s.heap.objs.size:=λ c hc=>by
      simp only[mem_cons,not_mem_nil,or_false]at hc;rcases hc with rfl|rfl|rfl|rfl|rfl
      . exact Heap.lt_size h1
      . exact Heap.lt_size h2
      . exact Heap.lt_size h3
      . obtain⟨_,e,_⟩:=h4;exact Heap.lt_size e
      . obtain⟨_,e,_⟩:=h5;exact Heap.lt_size e
    unfold pyNext;refine wpAny_bind (wpAny_attempt (wpAny_callSpecial?_slot (name:=Str.ofString "__next__") hT F.slot_zip_next (wpAny_call_entry F.slot_zip_next hT F.entry_zip_next
      (ZfH (x:=u) (y:=v) (ZaS hh i1 a na its.toArray) (ZdG hh i2 b nb jts.toArray) D h1 h2 h3 ⟨h4,p⟩ ⟨h5,pl.isList⟩ (by simpa using hu) (by simpa using hv) λ g k1 k2 k3 k4 k5 k6 kk=>wpAny_pure ⟨_,rfl,?_⟩) (F.args_zip_next_1 _))))
    refine wpAny_letOwnedTupleGo_zip k1 λ g2 he hs=>?_;have fr:H s.heap.objs.size=none:=I.fresh;have I1:Inv X pins σ (upd H s.heap.objs.size (.tup [x,y])) { s with heap:=s.heap.push { cls:=.type "tuple",data:=.seq #[u,v] } }:=
      I.laid (t':=s.toks) (λ b o q=>Heap.get?_push_of_some _ q) (le_refl _) (show Z2 X.prog X.w _ _ _ (.tup [x,y]) from⟨by show 2<=sizeLine;decide,[u,v], .cons ru (.cons rv2 .nil),IsTup.new _ _⟩)
    have ff:∀ c∈[z,TI,TO,i1,i2],Xy X pins (upd H s.heap.objs.size (.tup [x,y])) c:=λ c hb=>⟨by rw[ZT (ne_of_lt (lt c hb))];exact(hf c hb).1,(hf c hb).2⟩;have I2:Inv X pins σ (upd H s.heap.objs.size (.tup [x,y])) { s with heap:=g2 }:=by
      have zz:=Inv.turnedL (s:={ s with heap:=s.heap.push { cls:=.type "tuple",data:=.seq #[u,v] } }) (h':=g2) (t':=s.toks) (ch:=[z,TI,TO,i1,i2]) I1 (λ c o hb q=>?_) ff;exact zz;simp only[mem_cons,not_mem_nil,or_false,not_or]at hb;refine(hs.2 c hb.1).trans ?_
      by_cases zc:c=s.heap.objs.size
      . subst zc;have q':(s.heap.push { cls:=.type "tuple",data:=.seq #[u,v] }).get? s.heap.objs.size=some o:=q;rw[Heap.get?_push_size _ rfl]at q';cases q';exact k5
      . have q':(s.heap.push { cls:=.type "tuple",data:=.seq #[u,v] }).get? c=some o:=q;rw[Heap.get?_push_ne _ _ _ zc]at q';exact kk c o hb.1 hb.2.2.1 hb.2.2.2.1 hb.2.2.2.2 q'
    have nz:∀ c o,c≠z->g.get? c=some o->g2.get? c=some o:=λ c o n e=>(hs.2 c n).trans e;refine⟨.ref s.heap.objs.size,_,I2,rfl,⟨s.heap.objs.size,x,y,fr,rfl,λ zs hz=>by rw[I.tuple_inj hz hq];exact hx,λ zs hz=>by rw[I.list_inj hz hr];exact hy,rfl⟩,⟨he,nz _ _ D.tz (kk TI _ D.tz D.to (λ e=>D.t1 (by rw[e];simp)) (λ e=>D.t2 (by rw[e];simp)) h2),⟨u,v,nz _ _ D.oz k2⟩,?_,?_⟩,λ c hb=>(ff c hb).1⟩
    . obtain⟨⟨o4,h4,r4⟩,_⟩:=k3;exact⟨o4,nz _ _ (λ e=>D.z1 (by rw[<- e];simp)) h4,r4⟩
    . obtain⟨⟨o5,h5,r5⟩,_⟩:=k4;exact⟨o5,nz _ _ (λ e=>D.z2 (by rw[<- e];simp)) h5,r5⟩
  done:=by
    intro X hP hw hK hc i pins s σ H E I hf st hg;subst hP hw hK;obtain⟨xs,hq,hx⟩:=hg;obtain⟨its,rv,p,hzz⟩:=I.tuple hq;obtain⟨h1,h2,⟨c1,c2,h3⟩,h4,h5⟩:=st;have hl:=rv.length;have hT:s.TypeIs (.ref z) "zip":=⟨_,h1,rfl⟩;have hh:X.A.in1.handled=none:=I.ok.hd hc;unfold pyNext;refine wpAny_bind (wpAny_attempt (wpAny_callSpecial?_slot (name:=Str.ofString "__next__") hT F.slot_zip_next (wpAny_call_entry F.slot_zip_next hT F.entry_zip_next
      (zp_end (a:=c1) (b:=c2) (ZaS hh i1 a na its.toArray) D h1 h2 ⟨h4,p⟩ (by simp;omega) λ g e kk he=>?_) (F.args_zip_next_1 _))))
    obtain⟨o,ho,hcl⟩:=he;refine wpAny_bind (wpAny_isInstance (T:="StopIteration") (b:=true) ⟨o,ho,hcl⟩ isSubtype_stop (wpAny_pure ⟨rfl,?_⟩));have zz:=Inv.turnedL (h':=g) (t':=s.toks) (ch:=[z,TI,TO,i1,i2]) I (λ c o hb q=>?_) hf;exact zz;simp only[mem_cons,not_mem_nil,or_false,not_or]at hb;exact kk c o hb.1 hb.2.2.2.1 q
  self:=λ _ _ _ _ _ st h=>wpAny_pyIter_zip st.1 h
noncomputable def zpH (h:Heap)(a b:Addr):Heap:=((((h.push { cls:=.type "tuple_iterator",data:=.fields #[.ref a, .int 0 0] }).push { cls:=.type "list_iterator",data:=.fields #[.ref b, .int 0 0] }).push { cls:=.type "tuple",data:=.seq #[.ref h.objs.size, .ref (h.objs.size+1)] }).push { cls:=.type "tuple",data:=.seq #[.none, .none] }).push { cls:=.type "zip",data:=.fields #[.none, .bool false, .bool false, .ref (h.objs.size+2), .ref (h.objs.size+3)] }
theorem zp_new (a b:Addr)(xs ys:Array Value):Meets (Builtin.«zip.__new__» ⟨[.type "zip", .ref a, .ref b],[]⟩) (λ _ R s=>s.heap.IsTuple a xs/\s.heap.IsList b ys/\R (.ok (.ret (.ref (s.heap.objs.size+4)))) { s with heap:=zpH s.heap a b }):=
  .of_wp λ prog w A R s h=>by
    obtain⟨hp,g,d,tk,os⟩:=s;obtain⟨h1,h2,q⟩:=h;have hsub:=sub_zip;have t1:Heap.IsTuple (Shared.heap ⟨hp,g,d,tk,os⟩) a xs:=h1;have t2:Heap.IsList (Shared.heap ⟨hp.push { cls:=.type "tuple_iterator",data:=.fields #[.ref a, .int 0 0] },g,d,tk,os⟩) b ys:=Heap.IsList.push h2 _
    wp_walk using wpAny_pyIter_tuple t1,wpAny_pyIter_list t2
    refine⟨_,rfl,?_⟩;simp only[zpH,Heap.size_push]at q ⊢;exact q
theorem ZeJ (h:Heap)(a b:Addr):IsZip (zpH h a b) (h.objs.size+4) (h.objs.size+2) (h.objs.size+3) .none/\IsPair (zpH h a b) (h.objs.size+2) (.ref h.objs.size) (.ref (h.objs.size+1))/\IsPair (zpH h a b) (h.objs.size+3) .none .none/\(zpH h a b).IsTupleIter h.objs.size a 0/\(zpH h a b).IsListIter (h.objs.size+1) b 0/\∀ c o,h.get? c=some o->(zpH h a b).get? c=some o:=by
  have at_:∀(g:Heap)(n:Nat)(o:Obj),g.objs.size=n->o.isFreed=false->(g.push o).get? n=some o:=λ g n o e f=>by rw[<- e];exact Heap.get?_push_size _ f
  have nx:∀(g:Heap)(n:Nat)(o p:Obj),g.get? n=some o->(g.push p).get? n=some o:=λ g n o p e=>Heap.get?_push_of_some _ e;refine⟨?_,?_,?_,?_,?_,λ c o e=>nx _ _ _ _ (nx _ _ _ _ (nx _ _ _ _ (nx _ _ _ _ (nx _ _ _ _ e))))⟩
  . exact at_ _ _ _ (by simp only[Heap.size_push]) rfl
  . exact nx _ _ _ _ (nx _ _ _ _ (at_ _ _ _ (by simp only[Heap.size_push]) rfl))
  . exact nx _ _ _ _ (at_ _ _ _ (by simp only[Heap.size_push]) rfl)
  . exact⟨_,nx _ _ _ _ (nx _ _ _ _ (nx _ _ _ _ (nx _ _ _ _ (at_ _ _ _ rfl rfl)))),rfl,rfl⟩
  . exact⟨_,nx _ _ _ _ (nx _ _ _ _ (nx _ _ _ _ (at_ _ _ _ (by simp only[Heap.size_push]) rfl))),rfl,rfl⟩
theorem Zgh {prog:Program}{w:World}{A:Around}{E:Value->Shared->Prop}{s:Shared}{a b:Addr}{xs ys:Array Value}{Q:Value->Shared->Prop}(h1:s.heap.IsTuple a xs)(h2:s.heap.IsList b ys)(q:Q (.ref (s.heap.objs.size+4)) { s with heap:=zpH s.heap a b }) :
    wpAny (model prog w) A (call (.type "zip") [.ref a, .ref b]) Q E s:=by
  refine callType_new F.called_zip (by decide) (F.typeCall_zip_2 _ _) (F.newCall_zip_2 _ _) (λ o=>F.args_object_init_3 o _ _) F.entry_zip_new (zp_new a b xs ys) ⟨h1,h2,⟨_,(ZeJ s.heap a b).1,rfl⟩,q⟩
theorem ZeI {n c d:Nat}(hc:c<n)(hd:d<n):ZpApart (n+4) (n+2) (n+3) n (n+1) [n,c] [n+1,d]:=by
  have m:∀ {x a b:Nat},x≠a->x≠b->x∉[a,b]:=λ h1 h2 h=>by
    rcases List.mem_cons.mp h with e|e
    . exact h1 e
    . exact h2 (List.mem_singleton.mp e)
  exact⟨(by show ¬ ((_:Nat)=_);omega),(by show ¬ ((_:Nat)=_);omega),(by show ¬ ((_:Nat)=_);omega),m (by omega) (by omega),m (by omega) (by omega),m (by omega) (by omega),m (by omega) (by omega),m (by omega) (by omega),m (by omega) (by omega),m (by omega) (by omega),m (by omega) (by omega)⟩
section
variable {X:Cx}
noncomputable def iZip (K:Frag)(ta:TA):TI:=λ σ H R=>ta σ H λ vs H1=>∃ a b,vs=[.ref a, .ref b]/\(∃ xs,SqT K H1 a xs)/\(∃ ys,SqL K H1 b ys)/\R (Itz K a b) H1
theorem pi_zip {a b:Expr}{ta:TA}{p pos:Pos}{elts:List Expr}{k:Nat}{tp:Pos}(hg:Gl X "zip")(hm:X.mg "zip"=none)(ha:PA X [a,b] ta)(hs:starEach [a,b] X.env=(false,eval a X.env)::starEach [b] X.env:=by rfl)(hpl:(backTo pos (starEach [b] X.env)).any (·.1)=false:=by rfl) :
    PI X (.Tuple elts k tp) (.Call (.Name "zip" p) [a,b] [] pos) (iZip X.K ta):=by
  refine⟨?_⟩;intro pins s σ H R I h;refine Call_ (JP I hg hm boot_zip (PyProof.Rows.callWith_type1 (thn (ha pos pins s σ H _ I h) λ us s1 zz9=>?_) hs hpl));obtain⟨vs,H1,I1,r1,q1⟩:=zz9;obtain⟨c,d,e,⟨xs,hq⟩,⟨ys,hr⟩,q⟩:=q1;subst e;cases r1 with
  | cons e1 r1=>cases r1 with
    |cons e2 r1=>
      cases r1;cases e1;cases e2;obtain⟨its,rv,pt_,hz⟩:=I1.tuple hq;obtain⟨jts,rw_,pl,hz2⟩:=I1.list hr;refine Zgh pt_ pl.isList ?_;obtain⟨z1,z2,z3,z4,z5,kk⟩:=ZeJ s1.heap c d;refine wpAny_pyIter_zip z1 ?_;have lc:c<s1.heap.objs.size:=by obtain⟨_,e,_⟩:=pt_;exact Heap.lt_size e
      have ld:d<s1.heap.objs.size:=by obtain⟨_,e,_⟩:=pl.isList;exact Heap.lt_size e
      refine⟨s1.heap.objs.size+4,[s1.heap.objs.size+4,s1.heap.objs.size+2,s1.heap.objs.size+3,s1.heap.objs.size,s1.heap.objs.size+1],_,_,H1,rfl,I1.kept (t':=s1.toks) kk,ZeQ c d _ _ _ _ _ (ne_of_lt lc) (ne_of_lt (Nat.lt_succ_of_lt ld)) (ne_of_lt (Nat.lt_succ_self _)) ?_,⟨z1,z2,⟨_,_,z3⟩,z4,z5⟩,λ b hb=>?_,q⟩
      . exact ZeI lc ld
      . simp only[mem_cons,not_mem_nil,or_false]at hb;rcases hb with rfl|rfl|rfl|rfl|rfl <;> exact I1.fpOk (by first|exact le_refl _|exact Nat.le_add_right _ _) (I1.hok.fresh (by first|exact le_refl _|exact Nat.le_add_right _ _))
end
end L2
namespace L2
open PySem PySem.Spec PyProof.Rows
section
variable {X:Cx}
theorem ZaF:YX X (.type "str") (λ xs H Q=>(∃ i,xs=[.int i]/\i.natAbs.log2<1920/\Q (.str (toString i)) H)\/∃ x,xs=[.str x]/\Q (.str x) H):=by
  intro pins s σ H xs us Q I r h;rcases h with ⟨i,rfl,hz,q⟩|⟨x,rfl,q⟩
  . obtain⟨u,rfl,t,rfl⟩:=Xz r;exact PySem.P.str_of_int hz ⟨.str _,H,I.tok _,⟨_,rfl⟩,q⟩
  . obtain⟨u,rfl,t,rfl⟩:=Xz r;exact PySem.P.str_of_str ⟨.str x,H,I,⟨_,rfl⟩,q⟩
theorem sv_of:∀ {ss:List Str} {us:List Value},ZH (ss.map V.str) us->∃ l:List (Str×Tok),l.map (·.1)=ss/\us=strValues l
  |[],_,r=>by cases r;exact⟨[],rfl,rfl⟩
  | x::ss,_,r=>by
    rw[map_cons]at r;cases r with
    |cons h t=>
      obtain⟨tk,rfl⟩:=h;obtain⟨l,h1,rfl⟩:=sv_of t;exact⟨(x,tk)::l,by rw[map_cons,h1],rfl⟩
noncomputable def rJoin (K:Frag):V->List V->Hp->VK->Prop:=λ x xs H Q=>∃(z:Str)(a:Addr)(ss:List Str),x = .str z/\xs=[.ref a]/\SqL K H a (ss.map V.str)/\Builtin.Str.tooLong (ss.toArray.foldl (· + ·.length+z.length) 0)=false/\(Builtin.Str.glued z ss).length<=sizeLine/\Q (.str (Builtin.Str.glued z ss)) H
theorem Zaf:MtR X "str.join" (rJoin X.K):=by
  intro pins s σ H x xs v us Q I rx rv h;obtain⟨z,a,ss,rfl,rfl,hq,hl,hle,q⟩:=h;obtain⟨t,rfl⟩:=rx;obtain⟨u,rfl,ru⟩:=Xz rv;cases ru;obtain⟨its,r1,p,hz⟩:=I.list hq;obtain⟨l,rfl,rfl⟩:=sv_of r1;refine call_meets F.slot_str_join (typeIs_str _ _ _) F.entry_str_join (F.args_str_join_2 _ _) (meets_str_join_list z t a l hl) ⟨p.isList,?_⟩;have one:∀(p:Str),Builtin.Str.glued z [p]=p:=λ p=>rfl
  match l,q,hle with
  |[],q,hle=>exact⟨hle, .str _,H,I.tok _,⟨_,rfl⟩,q⟩
  |[p],q,_=>exact⟨.str p.1,H,I,⟨_,rfl⟩,q⟩
  |p::r::l,q,hle=>exact⟨hle, .str _,H,I.tok _,⟨_,rfl⟩,q⟩
structure KDic (K:Frag)(w:World)(a:Addr)(kvs:List (Str×V)):Prop where
  ns:(a == sysModules)=false
  ex:∃(es:List DictEntry)(ep:Nat),K.lookup a=some { cls:=.type "dict",data:=.dict es.toArray ep }/\Paired (λ(p:Str×V)(e:DictEntry)=>(∃ t,e.key = .str p.1 t)/\ZM p.2 e.val/\e.hash=hashStr w p.1) kvs es
  nd:(kvs.map (·.1)).Nodup
noncomputable def Zbb (kvs:List (Str×V))(x:Str):Option V:=(kvs.find? λ p=>decide (p.1=x)).map (·.2)
theorem KDic.at {pins:List (Addr×Obj)}{σ:St}{H:Hp}{s:Shared}{a:Addr}{kvs:List (Str×V)}(I:Inv X pins σ H s)(d:KDic X.K X.w a kvs) :
    ∃ vs:List (Key×Value),KV (kvs.map λ p=>((Sum.inr p.1:Key),p.2)) vs/\s.heap.DictOf (Yr X.prog X.w) a vs:=by
  obtain⟨es,ep,hl,hp⟩:=d.ex;have go:∀ {kvs:List (Str×V)} {es:List DictEntry},Paired (λ(p:Str×V)(e:DictEntry)=>(∃ t,e.key = .str p.1 t)/\ZM p.2 e.val/\e.hash=hashStr X.w p.1) kvs es->∃ vs:List (Key×Value),KV (kvs.map λ p=>((Sum.inr p.1:Key),p.2)) vs/\Pairs (Yr X.prog X.w) es vs/\(∀ e∈es,∃ k,(Yr X.prog X.w).is k e.key=true/\e.hash=(Yr X.prog X.w).hash k)/\vs.map (·.1)=kvs.map λ p=>(Sum.inr p.1:Key):=by
    intro kvs es hp
    induction hp with
    |nil=>exact⟨[], .nil, .nil,(λ _ h=>nomatch h),rfl⟩
    |@cons p e ps es h t ih=>
      obtain⟨vs,h1,h2,h3,h4⟩:=ih;obtain⟨⟨tk,hk⟩,hv,hh⟩:=h;refine⟨(Sum.inr p.1,e.val)::vs, .cons ⟨rfl,hv⟩ h1, .cons (by rw[hk];exact X7 _ _ _ _) rfl h2,λ e' he=>?_,by rw[map_cons,map_cons,h4]⟩;rcases List.mem_cons.mp he with rfl|he
      . exact⟨Sum.inr p.1,by rw[hk];exact X7 _ _ _ _,hh⟩
      . exact h3 e' he
  obtain⟨vs,h1,h2,h3,h4⟩:=go hp;refine⟨vs,h1,_,es.toArray,ep,I.kIn a _ hl,⟨rfl,rfl,rfl⟩,rfl,λ e he=>h3 e (by simpa using he),by simpa using h2,?_⟩;rw[h4];have nd:=d.nd;rw[List.nodup_iff_pairwise_ne,List.pairwise_map]at nd ⊢;exact nd.imp λ h e=>h (Sum.inr.inj e)
theorem ZeP (kvs:List (Str×V))(x:Str):ZbS (kvs.map λ p=>((Sum.inr p.1:Key),p.2)) (Sum.inr x)=Zbb kvs x:=by
  unfold Zbb
  induction kvs with
  |nil=>rfl
  |cons p r ih=>
    rw[map_cons]
    by_cases e:p.1=x
    . rw[ZcY (by rw[e]),List.find?_cons_of_pos (by simp[e])];rfl
    . rw[ZcZ (λ z=>e (Sum.inr.inj z)),List.find?_cons_of_neg (by simp[e]),ih]
variable {o i:Expr}{pos:Pos}{td ty:TE}
theorem ZcE (ho:PE X o td)(hi:PE X i ty)(hs:NoSl i):PE X (.Subscript o i pos) (λ σ H Q=>td σ H λ x H1=>ty σ H1 λ y H2=>∃ a kvs k v,x = .ref a/\y = .str k/\KDic X.K X.w a kvs/\Zbb kvs k=some v/\Q v H2):=by
 refine⟨?_⟩;intro pins s σ H Q I h;refine ZfN PySem.F.slot_dict_getitem.lookup hs (thn (ho pins s σ H _ I h) λ u s1 ⟨x,H1,I1,rx,q1⟩=>thn (hi pins s1 σ H1 _ I1 q1) λ iv s2 zz9=>?_);obtain⟨y,H2,I2,ry,a,kvs,k,v,ex,ey,kd,l,q2⟩:=zz9;subst ex ey;obtain rfl:u=Value.ref a:=rx;obtain⟨vs,r,dd⟩:=kd.at I2;have l2:ZbS (kvs.map λ p=>((Sum.inr p.1:Key),p.2)) (Sum.inr k)=some v:=(ZeP kvs k).trans l;obtain⟨w',hw,rw'⟩:=ZcW.some_of (v:=v) (o:=valueAt vs (Sum.inr k)) (by rw[<- l2];exact r.val _);exact⟨dd.typeIs,wpAny_getItem_of (kV_is (k:=Sum.inr k) ry) dd.mapOf hw ⟨v,H2,I2.tok _,rw',q2⟩⟩
theorem Zen (hi:PE X i ty)(ho:PE X o td):PC X .NotIn i o (λ σ H Q=>ty σ H λ y H1=>td σ H1 λ x H2=>∃ a kvs k,x = .ref a/\y = .str k/\KDic X.K X.w a kvs/\Q (.bl (!(Zbb kvs k).isSome)) H2):=by
 refine⟨?_⟩;intro pins s σ H Q I h;refine thn (hi pins s σ H _ I h) λ iv s1 ⟨y,H1,I1,ry,q1⟩=>thn (ho pins s1 σ H1 _ I1 q1) λ u s2 zz9=>?_;obtain⟨x,H2,I2,rx,a,kvs,k,ex,ey,kd,q2⟩:=zz9;subst ex ey;obtain rfl:u=Value.ref a:=rx;obtain⟨vs,r,dd⟩:=kd.at I2;refine wpAny_notIn_of (kV_is (k:=Sum.inr k) ry) kd.ns dd.mapOf ?_;rw[<- (r.val (Sum.inr k)).isSome_eq,ZeP];exact⟨.bl (!(Zbb kvs k).isSome),H2,I2.tok _,rfl,q2⟩
noncomputable def FnV (X:Cx)(f:Addr)(sp:Sp)(E:XK):Prop:=∃(CX:CXT)(k:Nat)(fd:FuncData)(ps:List Str),FnOk X.prog X.w X.K X.mg X.base CX k f fd ps sp/\Room k X.A/\keepIn X.K (.ref f)=true/\JA X.K fd ps []/\Xx CX X E
theorem FnV.of {k:Nat}{x:Str}{ps:List Str}{sp:Sp}{E:XK}{f:Addr}(D:Dx X.prog X.w X.K X.mg X.base k x ps sp)(hm:X.mg x=some (.ref f))(hr:Room k X.A)(hx:Xx (CXR X.prog X.w X.base) X E):FnV X f sp E:=by
 obtain⟨f',fd,F,hm',hk,hb⟩:=D.ex;rw[hm]at hm';cases hm';exact⟨_,k,fd,ps,F,hr,hk,hb,hx⟩
theorem Ze9 {x:Str}{p:Pos}{e:Expr}{es:List Expr}{tf:TE}{t:TA}(hf:PE X (.Name x p) tf)(ha:PA X (e::es) t)(he:starEach (e::es) X.env=(false,eval e X.env)::starEach es X.env:=by rfl)(hpl:(backTo pos (starEach es X.env)).any (·.1)=false:=by rfl) :
    PE X (.Call (.Name x p) (e::es) [] pos) (λ σ H Q=>tf σ H λ y H1=>∃ f sp E,y = .ref f/\FnV X f sp E/\t σ H1 λ vs H2=>sp vs H2 Q E):=by
  refine⟨?_⟩;intro pins s σ H Q I h;refine wpAny_Call_Name_kw (thn (hf pins s σ H _ I h) λ u s1 ⟨y,H1,I1,ry,f,sp,E,ey,⟨CX,k,fd,ps,F,hr,hk,hb,hx⟩,q1⟩=>?_);subst ey;obtain rfl:u=Value.ref f:=ry;refine PySem.W.callWith_K (h₀:=X.base) I1.ok.mod.kin hk (thn (ha pos pins s1 σ H1 _ I1 q1) λ us s2 ⟨vs,H2,I2,r,q⟩=>⟨I2.kIn,?_⟩) he hpl;exact Zdu F hr hb .nil hx I2 r (by rw[append_nil];exact q)
end
section
variable {X:Cx}{k:Nat}{ps:List Str}{sp:Sp}{x:Str}{p pos:Pos}
theorem pe_fn0 (D:Dn X.prog X.w X.K X.mg X.base k x ps sp)(hr:Room k X.A)(hg:Gl X x:=by rfl)(hdb:(x == ("__debug__":Str))=false:=by decide):PE X (.Call (.Name x p) [] [] pos) (tFn sp tNil):=by
 obtain⟨f,fd,F,hm,hk,hb⟩:=D.ex;exact Zfa (p:=p) (pos:=pos) F hr hg hm hk hb .nil pass0 hdb
end
end L2
namespace L2
open PySem PySem.Spec PyProof.Rows PySem.StrLaws
noncomputable def ZaE (l:List Nat):Nat:=l.foldl (λ a d=>10 * a+d) 0
theorem Zcf (l:List Nat)(d:Nat):ZaE (l++[d])=10 * ZaE l+d:=by unfold ZaE;rw[List.foldl_append];rfl
theorem dig_of:∀(n:Nat)(l:List Nat),l.length=n->(∀ d∈l,d<10)->(∀ r d,l=d::r->0<d)->l≠[]->0<ZaE l/\Nat.toDigits 10 (ZaE l)=l.map Nat.digitChar:=by
  intro n
  induction n with
  |zero=>intro l h _ _ hne;exact absurd (List.length_eq_zero_iff.mp h) hne
  |succ n ih=>
    intro l h hd hh hne;rcases eq_nil_or_concat l with rfl|⟨m,d,rfl⟩
    . exact absurd rfl hne
    rw[List.concat_eq_append]at *;rw[Zcf];have dl:d<10:=hd d (by simp)
    by_cases hm:m=[]
    . subst hm;have:0<d:=hh [] d rfl;refine⟨by show 0<10 * 0+d;omega,?_⟩;show Nat.toDigits 10 (10 * 0+d)=[d.digitChar];rw[Nat.mul_zero,Nat.zero_add];exact Nat.toDigits_of_lt_base dl
    . obtain⟨p,q⟩:=ih m (by simp at h;exact h) (λ x hx=>hd x (by simp[hx])) (λ r x e=>hh (r++[d]) x (by rw[e];rfl)) hm;refine⟨by omega,?_⟩;rw[<- Nat.toDigits_append_toDigits (by decide) p dl,q,Nat.toDigits_of_lt_base dl,map_append];rfl
theorem Zbe (n:Nat):(toString (n:Int):Str).cps.toList=(Nat.toDigits 10 n).map Char.toNat:=by
 show(PySem.Str.ofString (toString ((n:Nat):Int))).cps.toList=_;rw[show toString ((n:Nat):Int)=String.ofList (Nat.toDigits 10 n) from Nat.toString_eq_ofList_toDigits];show(PySem.cpsOfBytes 0 0 (String.ofList (Nat.toDigits 10 n)).toByteArray.data.toList).toArray.toList=_;rw[PySem.cpsOfBytes_string,String.toList_ofList]
theorem dc_nat:∀ d,d<10->(Nat.digitChar d).toNat=48+d:=by decide
theorem Jn {l:List Nat}(hd:∀ d∈l,d<10)(hh:∀ r d,l=d::r->0<d)(hne:l≠[]):(toString (ZaE l:Int):Str).cps.toList=l.map (48 + ·):=by
 rw[Zbe,(dig_of _ l rfl hd hh hne).2,map_map];exact List.map_congr_left λ d h=>dc_nat d (hd d h)
noncomputable def nok (x:Str):Bool:=decide (1<=x.length) && decide (x.length<=4) && x.cps.toList.all (inR 48 57) && !(decide (x.cps.toList.head? = some 48) && !decide (x="0"))
theorem Zgd:∀(n:Nat)(l:List Nat),l.length=n->(∀ d∈l,d<10)->ZaE l<10 ^ n:=by
  intro n
  induction n with
  |zero=>intro l h _;rw[List.length_eq_zero_iff.mp h];decide
  |succ n ih=>
    intro l h hd;rcases eq_nil_or_concat l with rfl|⟨m,d,rfl⟩
    . simp at h
    rw[List.concat_eq_append]at *;rw[Zcf];have a:=ih m (by simp at h;exact h) λ x hx=>hd x (by simp[hx]);have b:=hd d (by simp);rw[Nat.pow_succ];omega
theorem Za8 {x:Str}(h:nok x=true):∃ n:Nat,n<10000/\x=(toString (n:Int):Str):=by
  unfold nok at h;simp only[and_eq_true,decide_eq_true_eq,Bool.not_eq_true',Bool.and_eq_false_iff,decide_eq_false_iff_not,Bool.not_eq_false']at h;obtain⟨⟨⟨h1,h2⟩,h3⟩,h4⟩:=h
  by_cases z:x="0"
  . exact⟨0,by decide,by rw[z];decide +kernel⟩
  have h5:x.cps.toList.head? ≠ some 48:=h4.resolve_right z;have hl:x.cps.toList.length=x.length:=length_toList;have dg:∀ c∈x.cps.toList,48<=c/\c<=57:=λ c hc=>by
    have:=List.all_eq_true.mp h3 c hc;unfold inR at this;simp only[and_eq_true,decide_eq_true_eq]at this;exact this
  have hm:x.cps.toList=(x.cps.toList.map (· - 48)).map (48 + ·):=by
    rw[map_map]
    conv=>lhs;rw[<- List.map_id x.cps.toList]
    exact List.map_congr_left λ c hc=>by have:=dg c hc;show c=48+(c - 48);omega
  have hd:∀ d∈x.cps.toList.map (· - 48),d<10:=λ d h=>by
    obtain⟨c,hc,rfl⟩:=List.mem_map.mp h;have:=dg c hc;omega
  have hne:x.cps.toList.map (· - 48)≠[]:=λ e=>by
    have:=congrArg List.length e;simp at this;rw[<- hl]at h1;rw[this]at h1;simp at h1
  refine⟨ZaE (x.cps.toList.map (· - 48)),?_,Yc ?_⟩
  . have a:=Zgd _ _ rfl hd;rw[length_map,hl]at a;have:10 ^ x.length<=10 ^ 4:=Nat.pow_le_pow_right (by decide) h2;omega
  . rw[Jn hd (λ r d e=>?_) hne,<- hm];cases hx:x.cps.toList with
    |nil=>rw[hx]at e;cases e
    |cons c s=>
      rw[hx]at e;injection e with e1 e2;rw[hx]at h5;have:=dg c (by rw[hx];simp);have n48:c≠48:=λ q=>h5 (by rw[q];rfl);have e1':c - 48=d:=e1;omega
theorem ZcO {n:Nat}(h:n<10000):nok (toString (n:Int):Str)=true:=by
  by_cases z:n=0
  . subst z;decide +kernel
  have go:∀ l:List Nat,ZaE l=n->(∀ d∈l,d<10)->(∀ r d,l=d::r->0<d)->l≠[]->l.length<=4->nok (toString (n:Int):Str)=true:=λ l e hd hh hne hl=>by
    have q:=Jn hd hh hne;rw[e]at q;have ql:(toString (n:Int):Str).length=l.length:=by
      have:=congrArg List.length q;rw[length_toList,length_map]at this;exact this
    have lp:1<=l.length:=by
      cases l with
      |nil=>exact absurd rfl hne
      |cons a b=>simp
    unfold nok;rw[ql,q,decide_eq_true lp,decide_eq_true hl];have a1:(l.map (48 + ·)).all (inR 48 57)=true:=List.all_eq_true.mpr λ c hc=>by
      obtain⟨d,h1,rfl⟩:=List.mem_map.mp hc;have:=hd d h1;unfold inR;simp only[and_eq_true,decide_eq_true_eq];omega
    rw[a1];have a2:decide ((l.map (48 + ·)).head? = some 48)=false:=by
      refine decide_eq_false λ e2=>?_;cases l with
      |nil=>cases e2
      |cons a b=>
        have:=hh b a rfl;have e3:48+a=48:=Option.some.inj e2;omega
    rw[a2];rfl
  have c0:∀ {x:Nat},x % 10<10:=λ {x}=>Nat.mod_lt _ (by decide);rcases lt_or_ge n 10 with h1|h1
  . exact go [n] (by unfold ZaE;simp) (by simp;omega) (by rintro r d e;injection e with e1;omega) (by simp) (by simp)
  rcases lt_or_ge n 100 with h2|h2
  . exact go [n / 10,n % 10] (by unfold ZaE;simp;omega) (by simp;omega) (by rintro r d e;injection e with e1;omega) (by simp) (by simp)
  rcases lt_or_ge n 1000 with h3|h3
  . exact go [n / 100,n / 10 % 10,n % 10] (by unfold ZaE;simp;omega) (by simp;omega) (by rintro r d e;injection e with e1;omega) (by simp) (by simp)
  . exact go [n / 1000,n / 100 % 10,n / 10 % 10,n % 10] (by unfold ZaE;simp;omega) (by simp;omega) (by rintro r d e;injection e with e1;omega) (by simp) (by simp)
theorem ZbE {n:Nat}(h:n<10000):PySem.intText? (toString (n:Int):Str)=some (n:Int)/\iv (toString (n:Int):Str)=n:=by
 have z:=PySem.W.KIN.num_reads (n:=(n:Int)) (by omega) (by omega);exact⟨z,by unfold iv;rw[show PySem.intText? (toString (n:Int):Str)=some (n:Int) from z];rfl⟩
noncomputable def spc:Str:=⟨#[32]⟩
theorem Zft {c:Nat}{a b s t:List Nat}(h:a++c::s=b++c::t)(ha:c∉a)(hb:c∉b):a=b/\s=t:=by
  rcases List.append_eq_append_iff.mp h with ⟨d,e1,e2⟩|⟨d,e1,e2⟩
  . cases d with
    |nil=>simp at e1 e2;exact⟨e1.symm,e2⟩
    |cons x r=>
      simp at e2;exact absurd (show c∈b by rw[e1,e2.1];simp) hb
  . cases d with
    |nil=>simp at e1 e2;exact⟨e1,e2.symm⟩
    |cons x r=>
      simp at e2;exact absurd (show c∈a by rw[e1,e2.1];simp) ha
theorem Zcd {c:Nat}:∀(l m:List Str),l≠[]->m≠[]->(∀ p∈l,c∉p.cps.toList)->(∀ p∈m,c∉p.cps.toList)->Str.join ⟨#[c]⟩ l=Str.join ⟨#[c]⟩ m->l=m
  |[],_,h,_,_,_,_=>absurd rfl h
  |_,[],_,h,_,_,_=>absurd rfl h
  |[a],[b],_,_,_,_,e=>by rw[show a=b from e]
  | [a],b::d::r,_,_,fa,_,e=>by
    exfalso;have z:=congrArg (λ x:Str=>x.cps.toList) (show a=b++⟨#[c]⟩++Str.join ⟨#[c]⟩ (d::r) from e);simp only[Zz]at z;exact fa a (by simp) (by rw[z];simp)
  | a::d::r,[b],_,_,_,fb,e=>by
    exfalso;have z:=congrArg (λ x:Str=>x.cps.toList) (show a++⟨#[c]⟩++Str.join ⟨#[c]⟩ (d::r)=b from e);simp only[Zz]at z;exact fb b (by simp) (by rw[<- z];simp)
  | a::d::r,b::f::s,_,_,fa,fb,e=>by
    have z:=congrArg (λ x:Str=>x.cps.toList) (show a++⟨#[c]⟩++Str.join ⟨#[c]⟩ (d::r)=b++⟨#[c]⟩++Str.join ⟨#[c]⟩ (f::s) from e);simp only[Zz,append_assoc]at z;obtain⟨e1,e2⟩:=Zft z (fa a (by simp)) (fb b (by simp));rw[Yc e1,Zcd (d::r) (f::s) (by simp) (by simp) (λ p hp=>fa p (by simp[hp])) (λ p hp=>fb p (by simp[hp])) (Yc e2)]
noncomputable def spl (x:Str):List Str:=Txt.split x spc
theorem Zbh (x:Str):spl x≠[]:=λ e=>by have:=split_pos x spc;unfold spl at e;rw[e]at this;exact absurd this (by decide)
theorem ZeW {x p:Str}(h:p∈spl x):32∉p.cps.toList:=split_free x 32 p h
theorem JW (x:Str):Str.join spc (spl x)=x:=join_split x spc
theorem spl_of {l:List Str}(hne:l≠[])(hf:∀ p∈l,32∉p.cps.toList):spl (Str.join spc l)=l:=Zcd _ _ (Zbh _) hne (λ p hp=>ZeW hp) hf (JW _)
noncomputable def rdV (f x:Str):Option V:=if f="number" then (if nok x=true then some (.int (iv x)) else none) else if f="word" then (if gw x=true then some (.str x) else none) else (if pok x=true then some (.str x) else none)
noncomputable def ZX:List Str->List Str->Option (List V)
  |[],[]=>some []
  |f::fs,x::xs=>(rdV f x).bind λ v=>(ZX fs xs).map (v :: ·)
  |_,_=>none
noncomputable def txV:V->Str
  |.int i=>toString i
  |.str x=>x
  |_=>Str.empty
theorem rdV_tx {f x:Str}{v:V}(h:rdV f x=some v):txV v=x:=by
  unfold rdV at h;split at h
  . split at h
    . rename_i hn;cases h;obtain⟨n,hl,rfl⟩:=Za8 hn;show(toString (iv _):Str)=_;rw[(ZbE hl).2]
    . cases h
  . split at h
    . split at h
      . cases h;rfl
      . cases h
    . split at h
      . cases h;rfl
      . cases h
theorem YI:∀ {fs xs:List Str} {vs:List V},ZX fs xs=some vs->vs.map txV=xs/\vs.length=fs.length/\xs.length=fs.length
  |[],[],_,h=>by cases h;exact⟨rfl,rfl,rfl⟩
  | f::fs,x::xs,_,h=>by
    obtain⟨v,h1,h2⟩:=Option.bind_eq_some_iff.mp h;obtain⟨ws,h3,rfl⟩:=Option.map_eq_some_iff.mp h2;obtain⟨a,b,c⟩:=YI h3;exact⟨by rw[map_cons,rdV_tx h1,a],by simp[b],by simp[c]⟩
  |[],_::_,_,h=>by cases h
  |_::_,[],_,h=>by cases h
theorem ZeZ {fs xs:List Str}(h:xs.length≠fs.length):ZX fs xs=none:=by
  cases e:ZX fs xs with
  |none=>rfl
  |some vs=>exact absurd (YI e).2.2 h
noncomputable def atK:List (Str×List Str):=[("year",["number"]),("comes",["word"]),("born",["name"]),("dead",["name"]),("age",["name","number"])]
noncomputable def atF (k:Str):Option (List Str):=(atK.find? λ p=>decide (p.1=k)).map (·.2)
noncomputable def Zat (ts:List Str)(i:Nat):Option (List V×Nat):=(atF (ts[i]?.getD "")).bind λ fs=>(ZX fs ((ts.drop (i+1)).take fs.length)).map λ vs=>(.str (ts[i]?.getD "")::vs,i+1+fs.length)
noncomputable def txA (vs:List V):Str:=Str.join spc (vs.map txV)
theorem Zdh {sep:Str}{c:Nat}:∀ {l:List Str},c∈(Str.join sep l).cps.toList->c∈sep.cps.toList\/∃ p∈l,c∈p.cps.toList
  |[],h=>by cases h
  |[a],h => .inr ⟨a,by simp,h⟩
  | a::b::r,h=>by
    have h':c∈(a++sep++Str.join sep (b::r)).cps.toList:=h;rw[Zz,Zz,append_assoc]at h';rcases List.mem_append.mp h' with z|z
    . exact .inr ⟨a,by simp,z⟩
    . rcases List.mem_append.mp z with z|z
      . exact .inl z
      . rcases Zdh z with y|⟨p,h1,h2⟩
        . exact .inl y
        . exact .inr ⟨p,by simp only[mem_cons]at h1 ⊢;exact .inr h1,h2⟩
theorem in_R {a b c:Nat}(h:inR a b c=true):a<=c/\c<=b:=by
 unfold inR at h;simp only[and_eq_true,decide_eq_true_eq]at h;exact h
theorem gw_no {x:Str}(h:gw x=true):32∉x.cps.toList:=λ hm=>by
 unfold gw at h;simp only[and_eq_true]at h;have:=in_R (List.all_eq_true.mp h.1.2 32 hm);omega
theorem ZcD {x:Str}(h:pok x=true):32∉x.cps.toList:=λ hm=>by
  rw[<- YQ x]at hm;unfold pok at h;simp only[and_eq_true]at h;rcases Zdh hm with z|⟨p,hp,hc⟩
  . rw[Zd0]at z;simp at z
  . rw[YR]at hp;rcases List.mem_cons.mp hp with rfl|hp
    . exact gw_no h.1.1 hc
    . have g:=List.all_eq_true.mp h.2 p hp;unfold gn at g;simp only[and_eq_true]at g;have:=in_R (List.all_eq_true.mp g.1.2 32 hc);omega
theorem ZdC (n:Nat):32∉(toString (n:Int):Str).cps.toList:=int_text_free' 32 ⟨by decide,by decide⟩ _
noncomputable def WA (vs:List V):Prop:=(∃ n:Nat,n<10000/\vs=[.str "year", .int n])\/(∃ w:Str,gw w=true/\vs=[.str "comes", .str w])\/(∃ k n:Str,(k="born"\/k="dead")/\pok n=true/\vs=[.str k, .str n])\/∃(n:Str)(i:Nat),pok n=true/\i<10000/\vs=[.str "age", .str n, .int i]
theorem Zas {x:Str}{v:V}(h:rdV "number" x=some v):∃ n:Nat,n<10000/\v = .int n:=by
  unfold rdV at h;rw[if_pos rfl]at h;split at h
  . rename_i hn;cases h;obtain⟨n,hl,rfl⟩:=Za8 hn;exact⟨n,hl,by rw[(ZbE hl).2]⟩
  . cases h
theorem ZfS {x:Str}{v:V}(h:rdV "word" x=some v):gw x=true/\v = .str x:=by
  unfold rdV at h;rw[if_neg (by decide +kernel),if_pos rfl]at h;split at h
  . rename_i hn;cases h;exact⟨hn,rfl⟩
  . cases h
theorem Za4 {x:Str}{v:V}(h:rdV "name" x=some v):pok x=true/\v = .str x:=by
  unfold rdV at h;rw[if_neg (by decide +kernel),if_neg (by decide +kernel)]at h;split at h
  . rename_i hn;cases h;exact⟨hn,rfl⟩
  . cases h
theorem rd1 {f:Str}{xs:List Str}{vs:List V}(h:ZX [f] xs=some vs):∃ x v,xs=[x]/\vs=[v]/\rdV f x=some v:=by
  match xs,h with
  |[],h=>cases h
  |[x],h=>
    obtain⟨v,h1,h2⟩:=Option.bind_eq_some_iff.mp h;obtain⟨ws,h3,rfl⟩:=Option.map_eq_some_iff.mp h2;cases h3;exact⟨x,v,rfl,rfl,h1⟩
  |x::y::r,h=>
    obtain⟨v,h1,h2⟩:=Option.bind_eq_some_iff.mp h;obtain⟨ws,h3,rfl⟩:=Option.map_eq_some_iff.mp h2;cases h3
theorem rd2 {f g:Str}{xs:List Str}{vs:List V}(h:ZX [f,g] xs=some vs):∃ x y v u,xs=[x,y]/\vs=[v,u]/\rdV f x=some v/\rdV g y=some u:=by
  match xs,h with
  |[],h=>cases h
  |x::r,h=>
    obtain⟨v,h1,h2⟩:=Option.bind_eq_some_iff.mp h;obtain⟨ws,h3,rfl⟩:=Option.map_eq_some_iff.mp h2;obtain⟨y,u,rfl,rfl,h4⟩:=rd1 h3;exact⟨x,y,v,u,rfl,rfl,h1,h4⟩
theorem ZaG {k:Str}{fs:List Str}(h:atF k=some fs):(k="year"/\fs=(["number"]:List Str))\/(k="comes"/\fs=(["word"]:List Str))\/((k="born"\/k="dead")/\fs=(["name"]:List Str))\/(k="age"/\fs=(["name","number"]:List Str)):=by
  unfold atF at h;obtain⟨p,hp,rfl⟩:=Option.map_eq_some_iff.mp h;have e:p.1=k:=by have:=List.find?_some hp;simpa using this
  have m:=List.mem_of_find?_eq_some hp;subst e;unfold atK at m;simp only[mem_cons,not_mem_nil,or_false]at m;rcases m with rfl|rfl|rfl|rfl|rfl
  . exact .inl ⟨rfl,rfl⟩
  . exact .inr (.inl ⟨rfl,rfl⟩)
  . exact .inr (.inr (.inl ⟨.inl rfl,rfl⟩))
  . exact .inr (.inr (.inl ⟨.inr rfl,rfl⟩))
  . exact .inr (.inr (.inr ⟨rfl,rfl⟩))
theorem Zej {ts:List Str}{i b:Nat}{vs:List V}(h:Zat ts i=some (vs,b)):WA vs:=by
  obtain⟨fs,h3,h4⟩:=Option.bind_eq_some_iff.mp h;obtain⟨us,h5,e⟩:=Option.map_eq_some_iff.mp h4;cases e;rcases ZaG h3 with ⟨e1,rfl⟩|⟨e1,rfl⟩|⟨e1,rfl⟩|⟨e1,rfl⟩
  . obtain⟨x,v,h6,rfl,h7⟩:=rd1 h5;obtain⟨n,hn,rfl⟩:=Zas h7;exact .inl ⟨n,hn,by rw[e1]⟩
  . obtain⟨x,v,h6,rfl,h7⟩:=rd1 h5;obtain⟨hn,rfl⟩:=ZfS h7;exact .inr (.inl ⟨x,hn,by rw[e1]⟩)
  . obtain⟨x,v,h6,rfl,h7⟩:=rd1 h5;obtain⟨hn,rfl⟩:=Za4 h7;exact .inr (.inr (.inl ⟨_,x,e1,hn,rfl⟩))
  . obtain⟨x,y,v,u,h6,rfl,h7,h8⟩:=rd2 h5;obtain⟨hn,rfl⟩:=Za4 h7;obtain⟨n,hl,rfl⟩:=Zas h8;exact .inr (.inr (.inr ⟨x,n,hn,hl,by rw[e1]⟩))
theorem ZcA {n:Nat}(h:n<10000):rdV "number" (toString (n:Int):Str)=some (.int n):=by
 unfold rdV;rw[if_pos rfl,if_pos (ZcO h),(ZbE h).2]
theorem Ze0 {x:Str}(h:gw x=true):rdV "word" x=some (.str x):=by
 unfold rdV;rw[if_neg (by decide +kernel),if_pos rfl,if_pos h]
theorem J9 {x:Str}(h:pok x=true):rdV "name" x=some (.str x):=by
 unfold rdV;rw[if_neg (by decide +kernel),if_neg (by decide +kernel),if_pos h]
theorem ZeO {vs:List V}(h:WA vs):∃(k:Str)(fs:List Str)(us:List V),vs = .str k::us/\atF k=some fs/\ZX fs (us.map txV)=some us/\us.length=fs.length/\(∀ p∈vs.map txV,32∉p.cps.toList)/\vs.length<=3:=by
  have k0:∀ k:Str,(atF k).isSome=true->32∉k.cps.toList:=λ k hk=>by
    obtain⟨fs,hf⟩:=Option.isSome_iff_exists.mp hk;rcases ZaG hf with ⟨rfl,_⟩|⟨rfl,_⟩|⟨rfl|rfl,_⟩|⟨rfl,_⟩ <;> decide +kernel
  have a1:atF "year"=some (["number"]:List Str):=by decide +kernel
  have a2:atF "comes"=some (["word"]:List Str):=by decide +kernel
  have a3:atF "born"=some (["name"]:List Str):=by decide +kernel
  have a4:atF "dead"=some (["name"]:List Str):=by decide +kernel
  have a5:atF "age"=some (["name","number"]:List Str):=by decide +kernel
  rcases h with ⟨n,hn,rfl⟩|⟨w,hw,rfl⟩|⟨k,n,hk,hn,rfl⟩|⟨n,i,hn,hi,rfl⟩
  . refine⟨_,_,_,rfl,a1,?_,rfl,λ p hp=>?_,by simp⟩
    . show(rdV "number" (toString (n:Int):Str)).bind _=_;rw[ZcA hn];rfl
    . simp only[map_cons,map_nil,mem_cons,not_mem_nil,or_false]at hp;rcases hp with rfl|rfl
      . exact k0 _ (by rw[show txV (.str "year")="year" from rfl,a1];rfl)
      . exact ZdC n
  . refine⟨_,_,_,rfl,a2,?_,rfl,λ p hp=>?_,by simp⟩
    . show(rdV "word" w).bind _=_;rw[Ze0 hw];rfl
    . simp only[map_cons,map_nil,mem_cons,not_mem_nil,or_false]at hp;rcases hp with rfl|rfl
      . exact k0 _ (by rw[show txV (.str "comes")="comes" from rfl,a2];rfl)
      . exact gw_no hw
  . have a:atF k=some (["name"]:List Str):=by rcases hk with rfl|rfl;exact a3;exact a4
    refine⟨_,_,_,rfl,a,?_,rfl,λ p hp=>?_,by simp⟩
    . show(rdV "name" n).bind _=_;rw[J9 hn];rfl
    . simp only[map_cons,map_nil,mem_cons,not_mem_nil,or_false]at hp;rcases hp with rfl|rfl
      . exact k0 _ (by rw[a];rfl)
      . exact ZcD hn
  . refine⟨_,_,_,rfl,a5,?_,rfl,λ p hp=>?_,by simp⟩
    . show(rdV "name" n).bind (λ v=>((rdV "number" (toString (i:Int):Str)).bind λ u=>(ZX [] []).map (u :: ·)).map (v :: ·))=_;rw[J9 hn,ZcA hi];rfl
    . simp only[map_cons,map_nil,mem_cons,not_mem_nil,or_false]at hp;rcases hp with rfl|rfl|rfl
      . exact k0 _ (by rw[show txV (.str "age")="age" from rfl,a5];rfl)
      . exact ZcD hn
      . exact ZdC i
noncomputable def Zd8 (K:Frag)(w:World)(a:Addr):Prop:=∃ r:Str->Addr,KDic K w a (atK.map λ p=>(p.1,V.ref (r p.1)))/\∀ p∈atK,∀ H,SqT K H (r p.1) (p.2.map V.str)
theorem Zbg {K:Frag}{a:Addr}{d:Option Addr}{us:Array Value}{n:Nat}{sl:Array (Option Value)}{xs:List V}(h:K.lookup a=some ⟨.type "tuple",d, .seq us n,sl⟩)(v:ZH xs us.toList)(l:us.size<=sizeLine):∀ H,SqT K H a xs:=λ _ => .inr ⟨_,us,n,h,rfl,rfl,l,v⟩
theorem ZfE {K:Frag}{w:World}{a r0 r1 r2 r3 r4:Addr}{h0 h1 h2 h3 h4:Int}{t0 t1 t2 t3 t4 u0 u1 u2 u3 u4 u5:Tok}{ep n0 n1 n2 n3 n4:Nat}{d0 d1 d2 d3 d4:Option Addr}{s0 s1 s2 s3 s4:Array (Option Value)}(ns:(a == sysModules)=false)(hl:K.lookup a=some ⟨.type "dict",none, .dict #[⟨h0, .str "year" t0, .ref r0⟩,⟨h1, .str "comes" t1, .ref r1⟩,⟨h2, .str "born" t2, .ref r2⟩,⟨h3, .str "dead" t3, .ref r3⟩,⟨h4, .str "age" t4, .ref r4⟩] ep,#[]⟩)(e0:h0=hashStr w "year")(e1:h1=hashStr w "comes")(e2:h2=hashStr w "born")(e3:h3=hashStr w "dead")(e4:h4=hashStr w "age")(k0:K.lookup r0=some ⟨.type "tuple",d0, .seq #[.str "number" u0] n0,s0⟩)(k1:K.lookup r1=some ⟨.type "tuple",d1, .seq #[.str "word" u1] n1,s1⟩)(k2:K.lookup r2=some ⟨.type "tuple",d2, .seq #[.str "name" u2] n2,s2⟩)(k3:K.lookup r3=some ⟨.type "tuple",d3, .seq #[.str "name" u3] n3,s3⟩)(k4:K.lookup r4=some ⟨.type "tuple",d4, .seq #[.str "name" u4, .str "number" u5] n4,s4⟩):Zd8 K w a:=by
  obtain⟨rf,q0,q1,q2,q3,q4⟩:∃ rf:Str->Addr,rf "year"=r0/\rf "comes"=r1/\rf "born"=r2/\rf "dead"=r3/\rf "age"=r4:=
    ⟨λ x=>if x="year" then r0 else if x="comes" then r1 else if x="born" then r2 else if x="dead" then r3 else r4,if_pos rfl,(if_neg (by decide +kernel)).trans (if_pos rfl),(if_neg (by decide +kernel)).trans ((if_neg (by decide +kernel)).trans (if_pos rfl)),(if_neg (by decide +kernel)).trans ((if_neg (by decide +kernel)).trans ((if_neg (by decide +kernel)).trans (if_pos rfl))),(if_neg (by decide +kernel)).trans ((if_neg (by decide +kernel)).trans ((if_neg (by decide +kernel)).trans (if_neg (by decide +kernel))))⟩
  have nd:(atK.map (·.1)).Nodup:=by decide +kernel
  refine⟨rf,⟨ns,⟨_,ep,hl,?_⟩,by rw[map_map];exact nd⟩,λ p hp=>?_⟩
  . exact .cons ⟨⟨_,rfl⟩,congrArg Value.ref q0.symm,e0⟩ (.cons ⟨⟨_,rfl⟩,congrArg Value.ref q1.symm,e1⟩ (.cons ⟨⟨_,rfl⟩,congrArg Value.ref q2.symm,e2⟩ (.cons ⟨⟨_,rfl⟩,congrArg Value.ref q3.symm,e3⟩ (.cons ⟨⟨_,rfl⟩,congrArg Value.ref q4.symm,e4⟩ .nil))))
  . unfold atK at hp;simp only[mem_cons,not_mem_nil,or_false]at hp;rcases hp with rfl|rfl|rfl|rfl|rfl
    . rw[q0];exact Zbg k0 (.cons ⟨_,rfl⟩ .nil) (by show 1<=sizeLine;decide)
    . rw[q1];exact Zbg k1 (.cons ⟨_,rfl⟩ .nil) (by show 1<=sizeLine;decide)
    . rw[q2];exact Zbg k2 (.cons ⟨_,rfl⟩ .nil) (by show 1<=sizeLine;decide)
    . rw[q3];exact Zbg k3 (.cons ⟨_,rfl⟩ .nil) (by show 1<=sizeLine;decide)
    . rw[q4];exact Zbg k4 (.cons ⟨_,rfl⟩ (.cons ⟨_,rfl⟩ .nil)) (by show 2<=sizeLine;decide)
theorem Zdv {K:Frag}{w:World}{a r0 r1 r2:Addr}{h0 h1 h2:Int}{t0 t1 t2:Tok}{ep:Nat}(ns:(a == sysModules)=false)(hl:K.lookup a=some ⟨.type "dict",none, .dict #[⟨h0, .str "number" t0, .ref r0⟩,⟨h1, .str "word" t1, .ref r1⟩,⟨h2, .str "name" t2, .ref r2⟩] ep,#[]⟩)(e0:h0=hashStr w "number")(e1:h1=hashStr w "word")(e2:h2=hashStr w "name"):KDic K w a [("number",V.ref r0),("word",V.ref r1),("name",V.ref r2)]:=
 ⟨ns,⟨_,ep,hl, .cons ⟨⟨_,rfl⟩,rfl,e0⟩ (.cons ⟨⟨_,rfl⟩,rfl,e1⟩ (.cons ⟨⟨_,rfl⟩,rfl,e2⟩ .nil))⟩,(by decide +kernel:(["number","word","name"]:List Str).Nodup)⟩
theorem rdV_n (x:Str):rdV "number" x=if nok x=true then some (.int (iv x)) else none:=by unfold rdV;rw[if_pos rfl]
theorem rdV_w (x:Str):rdV "word" x=if gw x=true then some (.str x) else none:=by unfold rdV;rw[if_neg (by decide +kernel),if_pos rfl]
theorem rdV_m (x:Str):rdV "name" x=if pok x=true then some (.str x) else none:=by unfold rdV;rw[if_neg (by decide +kernel),if_neg (by decide +kernel)]
theorem Zbr:∀ {a b c d:List Str},a.length=b.length->ZX (a++c) (b++d)=(ZX a b).bind λ ys=>(ZX c d).map (ys ++ ·)
  | [],[],c,d,_=>by
    show ZX c d=(ZX c d).map ([] ++ ·);cases ZX c d <;> rfl
  | f::a,x::b,c,d,h=>by
    show((rdV f x).bind λ v=>(ZX (a++c) (b++d)).map (v :: ·))=((rdV f x).bind λ v=>(ZX a b).map (v :: ·)).bind λ ys=>(ZX c d).map (ys ++ ·);rw[Zbr (a:=a) (b:=b) (by simpa using h)];cases rdV f x with
    |none=>rfl
    |some v=>
      cases ZX a b with
      |none=>rfl
      |some ys=>
        show((ZX c d).map (ys ++ ·)).map (v :: ·)=(ZX c d).map ((v::ys) ++ ·);cases ZX c d <;> rfl
  |[],_::_,_,_,h=>by cases h
  |_::_,[],_,_,h=>by cases h
theorem Zei {fs xs:List Str}{i:Nat}(hl:xs.length=fs.length)(hi:i<fs.length):ZX (fs.take (i+1)) (xs.take (i+1))=(ZX (fs.take i) (xs.take i)).bind λ ys=>(rdV (fs[i]'hi) (xs[i]'(by omega))).map λ v=>ys++[v]:=by
  rw[take_succ,take_succ,getElem?_eq_getElem hi,getElem?_eq_getElem (show i<xs.length by omega)];show ZX (fs.take i++[fs[i]]) (xs.take i++[xs[i]'(by omega)])=_;rw[Zbr (by rw[length_take,length_take];omega)];cases ZX (fs.take i) (xs.take i) with
  |none=>rfl
  |some ys=>
    show((rdV _ _).bind λ v=>(ZX [] []).map (v :: ·)).map (ys ++ ·)=(rdV _ _).map _;cases rdV fs[i] (xs[i]'(by omega)) <;> rfl
theorem Zeh {fs xs:List Str}{i:Nat}(hl:xs.length=fs.length)(h:ZX (fs.take i) (xs.take i)=none):ZX fs xs=none:=by
 rw[<- List.take_append_drop i fs,<- List.take_append_drop i xs,Zbr (by rw[length_take,length_take];omega),h];rfl
theorem log4 {n:Nat}(h:n<10000):(n:Int).natAbs.log2<1920:=by
  rw[Int.natAbs_natCast];rcases Nat.eq_zero_or_pos n with rfl|p
  . decide
  . exact Nat.lt_trans ((Nat.log2_lt (by omega)).mpr (show n<2 ^ 14 by omega)) (by decide)
theorem Xs {n:Nat}(h:n<10000):(toString (n:Int):Str).length<=4:=by
 have z:=ZcO h;unfold nok at z;simp only[and_eq_true,decide_eq_true_eq]at z;exact z.1.1.2
theorem ZbJ {c:Nat}:∀ {l:List Str} {a:Nat},(∀ p∈l,p.length<=200)->l.foldl (λ x y=>x+y.length+c) a<=a+l.length * (200+c)
  |[],a,_=>by simp
  | x::r,a,h=>by
    rw[List.foldl_cons];have:=ZbJ (c:=c) (l:=r) (a:=a+x.length+c) λ p hp=>h p (by simp[hp]);have:=h x (by simp);rw[length_cons,Nat.succ_mul];omega
theorem Zcc {c:Nat}:∀ {l:List Str},(∀ p∈l,p.length<=200)->(Str.join ⟨#[c]⟩ l).length<=l.length * 201
  |[],_=>zero_le _
  |[x],h=>by have:=h x (by simp);show x.length<=1 * 201;omega
  | x::y::r,h=>by
    have a:=h x (by simp);have b:=Zcc (c:=c) (l:=y::r) λ p hp=>h p (by simp only[mem_cons]at hp ⊢;exact .inr hp);show(x++⟨#[c]⟩++Str.join ⟨#[c]⟩ (y::r)).length<=_;rw[Zj,Zj];have:(⟨#[c]⟩:Str).length=1:=rfl;simp only[length_cons]at b ⊢;omega
theorem tx_len {v:V}(h:(∃ n:Nat,n<10000/\v = .int n)\/∃ x:Str,x.length<=200/\v = .str x):(txV v).length<=200:=by
  rcases h with ⟨n,hn,rfl⟩|⟨x,hx,rfl⟩
  . have:=Xs hn;show(toString (n:Int):Str).length<=200;omega
  . exact hx
theorem XJ:(" ":Str)=spc:=by decide +kernel
theorem Zce (ws:List V):Builtin.Str.glued " " (ws.map txV)=txA ws:=by
 rw[glued_eq_join,XJ];rfl
theorem ZfJ (rf:Str->Addr)(k:Str):Zbb (atK.map λ p=>(p.1,V.ref (rf p.1))) k=(atF k).map λ _=>V.ref (rf k):=by
  unfold Zbb atF;rw[List.find?_map];cases h:atK.find? λ p=>decide (p.1=k) with
  |none=>rw[show List.find? ((λ p:Str×V=>decide (p.1=k))∘λ p:Str×List Str=>(p.1,V.ref (rf p.1))) atK=none from h];rfl
  |some y=>
    rw[show List.find? ((λ p:Str×V=>decide (p.1=k))∘λ p:Str×List Str=>(p.1,V.ref (rf p.1))) atK=some y from h];have e:y.1=k:=by have:=List.find?_some h;simpa using this
    show some (V.ref (rf y.1))=some (V.ref (rf k));rw[e]
theorem Zgj {k:Str}{fs:List Str}(h:atF k=some fs):(k,fs)∈atK:=by
 unfold atF at h;obtain⟨p,hp,rfl⟩:=Option.map_eq_some_iff.mp h;have e:p.1=k:=by have:=List.find?_some hp;simpa using this
 rw[<- e];exact List.mem_of_find?_eq_some hp
theorem Zcn {k:Str}{fs:List Str}(h:atF k=some fs):(∀ f∈fs,f="number"\/f="word"\/f="name")/\1<=fs.length/\fs.length<=2:=by
  rcases ZaG h with ⟨_,rfl⟩|⟨_,rfl⟩|⟨_,rfl⟩|⟨_,rfl⟩
  . exact⟨λ f hf=>by rw[List.mem_singleton.mp hf];exact .inl rfl,by decide,by decide⟩
  . exact⟨λ f hf=>by rw[List.mem_singleton.mp hf];exact .inr (.inl rfl),by decide,by decide⟩
  . exact⟨λ f hf=>by rw[List.mem_singleton.mp hf];exact .inr (.inr rfl),by decide,by decide⟩
  . refine⟨λ f hf=>?_,by decide,by decide⟩;rcases List.mem_cons.mp hf with rfl|hf
    . exact .inr (.inr rfl)
    . rw[List.mem_singleton.mp hf];exact .inl rfl
theorem ZdO (x:Str):(spl x).length<=x.length+2:=split_le x spc
theorem ZeV {x p:Str}(h:p∈spl x):p.length<=x.length:=by
  unfold spl Txt.split at h;split at h
  . rw[List.mem_singleton.mp h];exact le_refl _
  . split at h
    . rw[List.mem_singleton.mp h];exact le_refl _
    . unfold Builtin.Str.partsBetween at h;obtain⟨q,_,rfl⟩:=List.mem_map.mp h;exact le_strSub x q.1 q.2
theorem Zgf (ts:List Str)(i k:Nat):Xu (ts.map V.str) (some ((i:Int)+1)) (some ((i:Int)+1+(k:Int)))=((ts.drop (i+1)).take k).map V.str:=by
  unfold Xu;rw[show(i:Int)+1=((i+1:Nat):Int) by omega,show((i+1:Nat):Int)+(k:Int)=((i+1+k:Nat):Int) by omega,HT.sIx_nat,HT.sIx_nat,length_map,List.map_take,List.map_drop];rcases Nat.le_total (i+1) ts.length with h|h
  . rw[Nat.min_eq_left h];rcases Nat.le_total (i+1+k) ts.length with h2|h2
    . rw[Nat.min_eq_left h2,Nat.add_sub_cancel_left]
    . rw[Nat.min_eq_right h2,List.take_of_length_le (i:=k) (by rw[List.length_drop,length_map];omega),List.take_of_length_le (by rw[List.length_drop,length_map];omega)]
  . rw[Nat.min_eq_right h,List.drop_of_length_le (by rw[length_map];exact le_refl _),List.drop_of_length_le (by rw[length_map];exact h),List.take_nil,List.take_nil]
theorem at_mod (l:List Str)(k:Int)(h0:0<l.length):∃ x∈l,atI (l.map V.str) (k % (l.length:Int))=some (.str x):=by
 have h1:=emod_nonneg k (show(l.length:Int)≠0 by omega);have h2:=emod_lt_of_pos k (show(0:Int)<(l.length:Int) by omega);have hi:(k % (l.length:Int)).toNat<l.length:=by omega
 refine⟨l[(k % (l.length:Int)).toNat],getElem_mem _,?_⟩;have:=ZE (xs:=l.map V.str) (j:=(k % (l.length:Int)).toNat) (v:=.str l[(k % (l.length:Int)).toNat]) (by rw[getElem?_map,getElem?_eq_getElem hi];rfl);rw[show(((k % (l.length:Int)).toNat:Nat):Int)=k % (l.length:Int) by omega]at this;exact this
theorem Zgi (l:List Int)(k:Int)(h0:0<l.length):∃ x∈l,atI (l.map V.int) (k % (l.length:Int))=some (.int x):=by
 have h1:=emod_nonneg k (show(l.length:Int)≠0 by omega);have h2:=emod_lt_of_pos k (show(0:Int)<(l.length:Int) by omega);have hi:(k % (l.length:Int)).toNat<l.length:=by omega
 refine⟨l[(k % (l.length:Int)).toNat],getElem_mem _,?_⟩;have:=ZE (xs:=l.map V.int) (j:=(k % (l.length:Int)).toNat) (v:=.int l[(k % (l.length:Int)).toNat]) (by rw[getElem?_map,getElem?_eq_getElem hi];rfl);rw[show(((k % (l.length:Int)).toNat:Nat):Int)=k % (l.length:Int) by omega]at this;exact this
noncomputable def Zbo:List Str:=["when","until","and","or","to","born","dead","age","year","comes","gift","house","sell"]
theorem ZfQ:∀ w∈Zbo,gw w=true:=by decide +kernel
theorem Y7 {ws:List V}(h:WA ws):ws.length<=3/\∀ v∈ws,(∃ n:Nat,n<10000/\v = .int n)\/∃ x:Str,x.length<=23/\PyData.strOk x=true/\v = .str x:=by
  have k5:∀ k∈(["year","comes","born","dead","age"]:List Str),k.length<=23/\PyData.strOk k=true:=by decide +kernel
  rcases h with ⟨n,hn,rfl⟩|⟨w,hw,rfl⟩|⟨k,n,hk,hn,rfl⟩|⟨n,i,hn,hi,rfl⟩
  . refine⟨by simp,λ v hv=>?_⟩;simp only[mem_cons,not_mem_nil,or_false]at hv;rcases hv with rfl|rfl
    . exact .inr ⟨_,(k5 _ (by simp)).1,(k5 _ (by simp)).2,rfl⟩
    . exact .inl ⟨n,hn,rfl⟩
  . refine⟨by simp,λ v hv=>?_⟩;simp only[mem_cons,not_mem_nil,or_false]at hv;rcases hv with rfl|rfl
    . exact .inr ⟨_,(k5 _ (by simp)).1,(k5 _ (by simp)).2,rfl⟩
    . exact .inr ⟨w,by have:=(ZbG hw).2;omega,gw_ok hw,rfl⟩
  . refine⟨by simp,λ v hv=>?_⟩;simp only[mem_cons,not_mem_nil,or_false]at hv;rcases hv with rfl|rfl
    . rcases hk with rfl|rfl
      . exact .inr ⟨_,(k5 _ (by simp)).1,(k5 _ (by simp)).2,rfl⟩
      . exact .inr ⟨_,(k5 _ (by simp)).1,(k5 _ (by simp)).2,rfl⟩
    . exact .inr ⟨n,ZV hn,Zau hn,rfl⟩
  . refine⟨by simp,λ v hv=>?_⟩;simp only[mem_cons,not_mem_nil,or_false]at hv;rcases hv with rfl|rfl|rfl
    . exact .inr ⟨_,(k5 _ (by simp)).1,(k5 _ (by simp)).2,rfl⟩
    . exact .inr ⟨n,ZV hn,Zau hn,rfl⟩
    . exact .inl ⟨i,hi,rfl⟩
noncomputable def vD:V->PyData
  |.int i => .int i
  |.str x => .str x
  |_ => .none
theorem Xd {K:Frag}{H:Hp}:∀ {ws:List V},(∀ v∈ws,(∃ n:Nat,n<10000/\v = .int n)\/∃ x:Str,x.length<=23/\PyData.strOk x=true/\v = .str x)->RdsAll K H ws (ws.map vD)
  |[],_ => .nil
  | v::r,h => .cons (by
      rcases h v (by simp) with ⟨n,_,rfl⟩|⟨x,_,_,rfl⟩
      . exact .int _
      . exact .str _) (Xd λ u hu=>h u (by simp[hu]))
theorem Jl:∀ {ws:List V},(∀ v∈ws,(∃ n:Nat,n<10000/\v = .int n)\/∃ x:Str,x.length<=23/\PyData.strOk x=true/\v = .str x)->PyData.canLayAll0 (ws.map vD)=true/\PyData.depthAll (ws.map vD)=0
  |[],_=>⟨rfl,rfl⟩
  | v::r,h=>by
    obtain⟨h1,h2⟩:=Jl (ws:=r) λ u hu=>h u (by simp[hu]);rcases h v (by simp) with ⟨n,_,rfl⟩|⟨x,_,ox,rfl⟩
    . refine⟨?_,?_⟩
      . show(true && PyData.canLayAll0 (r.map vD))=true;rw[h1];rfl
      . show max 0 (PyData.depthAll (r.map vD))=0;rw[h2];rfl
    . refine⟨?_,?_⟩
      . show(PyData.strOk x && PyData.canLayAll0 (r.map vD))=true;rw[ox,h1];rfl
      . show max 0 (PyData.depthAll (r.map vD))=0;rw[h2];rfl
theorem Xj {ws:List V}(h:∀ v∈ws,(∃ n:Nat,n<10000/\v = .int n)\/∃ x:Str,x.length<=23/\PyData.strOk x=true/\v = .str x):SeqAt.shaped (.tuple (ws.map vD))=true:=by
 obtain⟨h1,h2⟩:=Jl h;unfold SeqAt.shaped;rw[and_eq_true];refine⟨h1,decide_eq_true ?_⟩;show PyData.depthAll _+1<=64;rw[h2]
 decide
theorem ZeD {ws:List V}(h:∀ v∈ws,(∃ n:Nat,n<10000/\v = .int n)\/∃ x:Str,x.length<=23/\PyData.strOk x=true/\v = .str x):PyData.eqv (.tuple (ws.map vD)) (.tuple (ws.map vD))=true:=SeqAt.eqv_refl _ (SeqAt.canLay_of_shaped (Xj h))
noncomputable def Jt:List Str:=(List.range 99).map λ(i:Nat)=>(toString ((i:Int)+1):Str)
theorem gn_mem {x:Str}(h:gn x=true):x∈Jt:=by
  unfold gn at h;simp only[and_eq_true,decide_eq_true_eq,Bool.not_eq_true',decide_eq_false_iff_not]at h;obtain⟨⟨⟨h1,h2⟩,h3⟩,h4⟩:=h;have nk:nok x=true:=by
    unfold nok;rw[decide_eq_true h1,decide_eq_true (show x.length<=4 by omega),h3,decide_eq_false h4];rfl
  obtain⟨n,hn,rfl⟩:=Za8 nk;have n0:n≠0:=λ e=>h4 (by rw[e];decide +kernel);have n1:n<100:=by
    refine Nat.lt_of_not_le λ e=>?_;have hl:(toString (n:Int):Str).length=(Nat.toDigits 10 n).length:=by
      have z:(toString (n:Int):Str).cps.toList.length=(toString (n:Int):Str).length:=length_toList;rw[<- z,Zbe,length_map]
    rw[hl]at h2;exact absurd ((Nat.length_toDigits_le_iff (by decide) (by decide)).mp h2) (Nat.not_lt.mpr e)
  refine List.mem_map.mpr ⟨n - 1,List.mem_range.mpr (by omega),?_⟩;rw[show(((n - 1:Nat):Int))+1=(n:Int) by omega]
theorem txA2 (a b:V):txA [a,b]=txV a++" "++txV b:=by
 rw[XJ];refine Yc ?_;rw[Zz,Zz];show(txV a++spc++txV b).cps.toList=_;rw[Zz,Zz]
theorem txA3 (a b c:V):txA [a,b,c]=txV a++" "++txV b++" "++txV c:=by
 rw[XJ];refine Yc ?_;rw[Zz,Zz,Zz,Zz];show(txV a++spc++(txV b++spc++txV c)).cps.toList=_;rw[Zz,Zz,Zz,Zz];simp only[append_assoc]
theorem kid_of (y:Str)(m:Int):y++"."++(toString (1+m % 99):Str)=kid y (m % 99).toNat:=by
 unfold kid;rw[Int.toNat_of_nonneg (emod_nonneg m (by decide)),Int.add_comm 1 (m % 99)];rfl
theorem Zdj (a:Str)(ss:List Str):inV (.str a) (ss.map V.str)=decide (a∈ss):=by
  unfold inV;rw[List.any_map]
  induction ss with
  |nil=>rfl
  |cons b r ih=>
    rw[any_cons,ih];show((b == a) || decide (a∈r))=_
    by_cases e:b=a
    . subst e;simp
    . rw[beq_eq_false_iff_ne.mpr e];simp[Ne.symm e]
theorem flatS (ss:List Str):(ss.map V.str).all Zag=true:=by
 rw[List.all_map,List.all_eq_true];intro _ _;rfl
theorem log4i {i:Int}(h0:0<=i)(h1:i<10000):i.natAbs.log2<1920:=by
 have:=log4 (n:=i.toNat) (by omega);rw[Int.toNat_of_nonneg h0]at this;exact this
noncomputable def szW:List Str->Nat
  |[]=>0
  |p::r=>p.length+1+szW r
theorem Z5:∀(a b:List Str),szW (a++b)=szW a+szW b
  |[],b=>by simp[szW]
  | p::r,b=>by
    show p.length+1+szW (r++b)=p.length+1+szW r+szW b;rw[Z5 r b];omega
theorem JU (l:List Str)(k:Nat):szW (l.take k)+szW (l.drop k)=szW l:=by rw[<- Z5,List.take_append_drop]
theorem Zbd:∀ {l:List Str},l≠[]->(Str.join spc l).length+1=szW l
  |[x],_=>rfl
  | x::y::r,_=>by
    have b:=Zbd (l:=y::r) (by simp);show(x++spc++Str.join spc (y::r)).length+1=x.length+1+szW (y::r);rw[Zj,Zj];have:spc.length=1:=rfl;omega
theorem szW_le (l:List Str):(Str.join spc l).length<=szW l:=by
  cases l with
  |nil=>exact zero_le _
  |cons p r=>have:=Zbd (l:=p::r) (by simp);omega
theorem Zc0:∀(l:List Str)(a:Nat),l.foldl (λ x y=>x+y.length+1) a=a+szW l
  |[],a=>rfl
  | x::r,a=>by
    rw[List.foldl_cons,Zc0 r];show _=a+(x.length+1+szW r);omega
theorem ZdN (x:Str):szW (spl x)=x.length+1:=by rw[<- Zbd (Zbh x),JW]
theorem ZeS {l:List Str}{j:Nat}(h:j<l.length):szW [l[j]]<=szW l:=by
 have:=JU l j;rw[List.drop_eq_getElem_cons h]at this;have e:szW (l[j]::l.drop (j+1))=szW [l[j]]+szW (l.drop (j+1)):=Z5 [l[j]] _;omega
theorem cutA (l:List Str)(k:Nat):Xu (l.map V.str) none (some (k:Int))=(l.take k).map V.str:=by
  unfold Xu;rw[HT.sIx_none,HT.sIx_nat,List.drop_zero,Nat.sub_zero,List.map_take];rcases Nat.le_total k (l.map V.str).length with h|h
  . rw[Nat.min_eq_left h]
  . rw[Nat.min_eq_right h,take_length,List.take_of_length_le h]
theorem cutB (l:List Str)(k:Nat):Xu (l.map V.str) (some (k:Int)) none=(l.drop k).map V.str:=by
  unfold Xu;rw[HT.sIx_none,HT.sIx_nat,List.map_drop];rcases Nat.le_total k (l.map V.str).length with h|h
  . rw[Nat.min_eq_left h,List.take_of_length_le (by rw[List.length_drop];exact le_refl _)]
  . rw[Nat.min_eq_right h,List.drop_length,List.take_nil,List.drop_of_length_le h]
theorem take99 {j:Nat}(h:j<99):(Jt.take (j+1)).map V.str=(Jt.take j).map V.str++[V.str (toString (1+(j:Int)):Str)]:=by
  have e:Jt[j]? = some (toString ((j:Int)+1):Str):=by
    unfold Jt;rw[getElem?_map,List.getElem?_range h];rfl
  rw[take_succ,e,map_append,Int.add_comm];rfl
theorem JT:∀(l:List Str),l.length<=szW l
  |[]=>le_refl _
  | p::r=>by
    have:=JT r;show r.length+1<=p.length+1+szW r;omega
theorem ZdH {H:Hp}{a b:Addr}{l m:List Str}{Q:VK}(ha:H a=some (.lst (l.map V.str)))(hb:H b=some (.lst (m.map V.str)))(hl:szW l+szW m<=400)(q:∀ p,H p=none->Q (.ref p) (upd H p (.lst ((l++m).map V.str)))):rCat (.ref a) (.ref b) H Q:=by
 have big:2000<=sizeLine:=by decide
 have h1:=JT l;have h2:=JT m;refine⟨a,b,_,_,rfl,rfl,ha,hb,by rw[length_map,length_map];omega,λ p hp=>?_⟩;rw[<- map_append];exact q p hp
end L2
namespace L2
open PySem PySem.Spec PyProof.Rows PySem.StrLaws
theorem ZdP {ts:List Str}{i b:Nat}{vs:List V}(h:Zat ts i=some (vs,b)):WA vs/\ts.drop i=vs.map txV++ts.drop b/\b<=ts.length/\i<b:=by
 refine⟨Zej h,?_⟩;obtain⟨fs,h3,h4⟩:=Option.bind_eq_some_iff.mp h;obtain⟨us,h5,e⟩:=Option.map_eq_some_iff.mp h4;cases e;obtain⟨a1,a2,a3⟩:=YI h5;have f1:=(Zcn h3).2.1;rw[length_take,List.length_drop]at a3;have hi:i<ts.length:=by omega
 refine⟨?_,by omega,by omega⟩;rw[map_cons,a1,List.drop_eq_getElem_cons hi,getElem?_eq_getElem hi];show ts[i]::ts.drop (i+1)=ts[i]::((ts.drop (i+1)).take fs.length++ts.drop (i+1+fs.length));rw[show ts.drop (i+1+fs.length)=(ts.drop (i+1)).drop fs.length from List.drop_drop.symm,List.take_append_drop]
theorem ZfU {vs:List V}(h:WA vs)(a r:List Str):Zat (a++(vs.map txV++r)) a.length=some (vs,a.length+vs.length):=by
  obtain⟨k,fs,us,e,h1,h2,h3,h4,_⟩:=ZeO h;subst e;have g0:(a++((V.str k::us).map txV++r))[a.length]? = some k:=by
    rw[getElem?_append_right (le_refl _),sub_self];rfl
  have d0:((a++((V.str k::us).map txV++r)).drop (a.length+1)).take fs.length=us.map txV:=by
    rw[<- List.drop_drop,List.drop_left];show(us.map txV++r).take fs.length=us.map txV;rw[<- h3,show us.length=(us.map txV).length from(length_map _).symm,List.take_left]
  unfold Zat;rw[g0];show(atF k).bind _=_;rw[h1];show(ZX fs _).map _=_;rw[d0,h2];show some (V.str k::us,a.length+1+fs.length)=some (V.str k::us,a.length+(us.length+1));rw[h3,Nat.add_assoc,Nat.add_comm 1]
noncomputable def YC (ts:List Str):Nat->Nat->Str->Str->Option (List (List V)×Nat)
  |0,i,_,_=>some ([],i)
  |n+1,i,s,j=>if ts[i]? = some s then (Zat ts (i+1)).bind λ p=>(YC ts n p.2 j j).map λ q=>(p.1::q.1,q.2) else some ([],i)
noncomputable def ZK (s j:Str):List (List V)->List Str
  |[]=>[]
  |a::r=>s::(a.map txV++ZK j j r)
theorem Za5 {ts:List Str}{j:Str}:∀ {n i:Nat} {s:Str} {as:List (List V)} {e:Nat},YC ts n i s j=some (as,e)->(∀ a∈as,WA a)/\ts.drop i=ZK s j as++ts.drop e/\(i<=ts.length->e<=ts.length)/\i<=e
  | 0,i,s,as,e,h=>by
    cases h;exact⟨(λ a ha=>nomatch ha),rfl,id,le_refl _⟩
  | n+1,i,s,as,e,h=>by
    unfold YC at h;split at h
    . rename_i hs;obtain⟨⟨a,b⟩,h1,h2⟩:=Option.bind_eq_some_iff.mp h;obtain⟨⟨as',e'⟩,h3,h4⟩:=Option.map_eq_some_iff.mp h2;cases h4;obtain⟨w1,w2,w3,w4⟩:=ZdP h1;obtain⟨z1,z2,z3,z4⟩:=Za5 h3;obtain⟨hi,hs'⟩:=List.getElem?_eq_some_iff.mp hs;have z2':ts.drop b=ZK j j as'++ts.drop e':=z2;refine⟨λ x hx=>?_,?_,λ _=>z3 w3,?_⟩
      . rcases List.mem_cons.mp hx with rfl|hx
        . exact w1
        . exact z1 x hx
      . rw[List.drop_eq_getElem_cons hi,w2,z2',hs'];show s::(a.map txV++(ZK j j as'++ts.drop e'))=s::(a.map txV++ZK j j as')++ts.drop e';rw[List.cons_append,append_assoc]
      . have z4':b<=e':=z4;show i<=e';omega
    . cases h;exact⟨(λ a ha=>nomatch ha),rfl,id,le_refl _⟩
theorem ZcX (s j:Str)(as:List (List V)):as.length<=(ZK s j as).length:=by
  induction as generalizing s with
  |nil=>exact le_refl _
  |cons a r ih=>
    show r.length+1<=(a.map txV++ZK j j r).length+1;rw[length_append];have:=ih j;omega
theorem ZcB {j:Str}{r:List Str}:∀ {as:List (List V)} {n:Nat} {s:Str} {a:List Str},(∀ x∈as,WA x)->(as=[]->r.head? ≠ some s)->r.head? ≠ some j->as.length<n->YC (a++(ZK s j as++r)) n a.length s j=some (as,(a++ZK s j as).length)
  | [],n+1,s,a,_,h1,_,_=>by
    have g0:(a++(ZK s j []++r))[a.length]? = r.head? := by
      rw[getElem?_append_right (le_refl _),sub_self];show r[0]? = _;rw[List.head?_eq_getElem?]
    unfold YC;rw[g0,if_neg (h1 rfl)];show _=some ([],(a++[]).length);rw[append_nil]
  | x::as,n+1,s,a,hw,_,h2,hn=>by
    have e0:a++(ZK s j (x::as)++r)=(a++[s])++(x.map txV++(ZK j j as++r)):=by
      show a++(s::(x.map txV++ZK j j as)++r)=_;simp only[append_assoc,List.cons_append,List.nil_append]
    have g0:(a++(ZK s j (x::as)++r))[a.length]? = some s:=by
      rw[getElem?_append_right (le_refl _),sub_self];rfl
    have l1:(a++[s]).length=a.length+1:=by simp
    have r1:=ZfU (hw x (by simp)) (a++[s]) (ZK j j as++r);rw[<- e0,l1]at r1;have r2:=ZcB (j:=j) (r:=r) (as:=as) (n:=n) (s:=j) (a:=(a++[s])++x.map txV) (λ y hy=>hw y (by simp[hy])) (λ _=>h2) h2 (by simp at hn;omega);have e1:(a++[s])++x.map txV++(ZK j j as++r)=a++(ZK s j (x::as)++r):=by rw[e0,append_assoc]
    rw[e1,length_append,l1,length_map]at r2;unfold YC;rw[if_pos g0,r1];show(YC _ n (a.length+1+x.length) j j).map _=_;rw[r2];show some (x::as,_)=some (x::as,_);congr 2;show _=(a++s::(x.map txV++ZK j j as)).length;simp only[length_append,length_cons,List.length_nil,length_map];omega
noncomputable def WH (h:List V):Prop:=(∃ n:Str,pok n=true/\h=[.str "one", .str n])\/∃(n:Str)(i:Nat),pok n=true/\i<10000/\h=[.str "kids", .str n, .int i]
noncomputable def wdH (h:List V):List Str:=if h.length=2 then (h.drop 1).map txV else h.map txV
noncomputable def rdH (ts:List Str)(i:Nat):Option (List V×Nat):=if ts[i]? = some ("kids":Str) then (ZX ["name","number"] ((ts.drop (i+1)).take 2)).map λ vs=>(.str "kids"::vs,i+3) else (ZX ["name"] ((ts.drop i).take 1)).map λ vs=>(.str "one"::vs,i+1)
theorem Ze4 {ts:List Str}{i b:Nat}{h:List V}(e:rdH ts i=some (h,b)):WH h/\ts.drop i=wdH h++ts.drop b/\b<=ts.length:=by
  unfold rdH at e;split at e
  . rename_i hs;obtain⟨vs,h1,h2⟩:=Option.map_eq_some_iff.mp e;cases h2;obtain⟨a1,a2,a3⟩:=YI h1;obtain⟨x,y,v,u,h6,rfl,h7,h8⟩:=rd2 h1;obtain⟨hn,rfl⟩:=Za4 h7;obtain⟨n,hl,rfl⟩:=Zas h8;obtain⟨hi,hs'⟩:=List.getElem?_eq_some_iff.mp hs;rw[length_take,List.length_drop]at a3;have a3':min 2 (ts.length - (i+1))=2:=a3;refine⟨.inr ⟨x,n,hn,hl,rfl⟩,?_,by omega⟩;rw[List.drop_eq_getElem_cons hi,hs'];show("kids":Str)::ts.drop (i+1)=("kids":Str)::([V.str x,V.int n].map txV++ts.drop (i+1+2));rw[a1,show ts.drop (i+1+2)=(ts.drop (i+1)).drop 2 from List.drop_drop.symm,List.take_append_drop]
  . obtain⟨vs,h1,h2⟩:=Option.map_eq_some_iff.mp e;cases h2;obtain⟨a1,a2,a3⟩:=YI h1;obtain⟨x,v,h6,rfl,h7⟩:=rd1 h1;obtain⟨hn,rfl⟩:=Za4 h7;rw[length_take,List.length_drop]at a3;have a3':min 1 (ts.length - i)=1:=a3;refine⟨.inl ⟨x,hn,rfl⟩,?_,by omega⟩;show ts.drop i=[V.str x].map txV++ts.drop (i+1);rw[a1,show ts.drop (i+1)=(ts.drop i).drop 1 from List.drop_drop.symm,List.take_append_drop]
theorem rdH_of {h:List V}(w:WH h)(a r:List Str):rdH (a++(wdH h++r)) a.length=some (h,a.length+(wdH h).length):=by
  rcases w with ⟨n,hn,rfl⟩|⟨n,i,hn,hi,rfl⟩
  . have g0:(a++(wdH [V.str "one",V.str n]++r))[a.length]? = some n:=by
      rw[getElem?_append_right (le_refl _),sub_self];rfl
    have d0:((a++(wdH [V.str "one",V.str n]++r)).drop a.length).take 1=[n]:=by
      rw[List.drop_left];rfl
    have nk:n≠"kids":=λ z=>absurd (z▸hn) (by decide +kernel);unfold rdH;rw[g0,if_neg (λ z=>nk (Option.some.inj z)),d0];show(((rdV "name" n).bind λ v=>(ZX [] []).map (v :: ·)).map _)=_;rw[J9 hn];rfl
  . have g0:(a++(wdH [V.str "kids",V.str n,V.int i]++r))[a.length]? = some ("kids":Str):=by
      rw[getElem?_append_right (le_refl _),sub_self];rfl
    have d0:((a++(wdH [V.str "kids",V.str n,V.int i]++r)).drop (a.length+1)).take 2=[n,(toString (i:Int):Str)]:=by
      rw[<- List.drop_drop,List.drop_left];rfl
    unfold rdH;rw[g0,if_pos rfl,d0];show(((rdV "name" n).bind λ v=>((rdV "number" (toString (i:Int):Str)).bind λ u=>(ZX [] []).map (u :: ·)).map (v :: ·)).map _)=_;rw[J9 hn,ZcA hi];rfl
noncomputable abbrev Rw:=List V×List (List V)×List (List V)
noncomputable def Rw.W (r:Rw):Prop:=WH r.1/\(∀ a∈r.2.1,WA a)/\∀ a∈r.2.2,WA a
noncomputable def wdR (r:Rw):List Str:="to"::(wdH r.1++(ZK "when" "and" r.2.1++ZK "until" "or" r.2.2))
noncomputable def txR (r:Rw):Str:=Str.join spc (wdR r)
noncomputable def rdRs (ts:List Str):Option Rw:=if ts[0]? = some ("to":Str) then (rdH ts 1).bind λ p=>(YC ts (ts.length+1) p.2 "when" "and").bind λ q=>(YC ts (ts.length+1) q.2 "until" "or").bind λ e=>if e.2=ts.length then some (p.1,q.1,e.1) else none else none
noncomputable def rdR (x:Str):Option Rw:=rdRs (spl x)
theorem Ze2 {x:Str}{r:Rw}(h:rdR x=some r):r.W/\wdR r=spl x/\txR r=x:=by
  unfold rdR rdRs at h;split at h
  . rename_i h0;obtain⟨⟨p,i⟩,h1,h⟩:=Option.bind_eq_some_iff.mp h;obtain⟨⟨as,k⟩,h2,h⟩:=Option.bind_eq_some_iff.mp h;obtain⟨⟨es,e⟩,h3,h⟩:=Option.bind_eq_some_iff.mp h;split at h
    . rename_i he;cases h;obtain⟨a1,a2,a3⟩:=Ze4 h1;obtain⟨b1,b2,b3,_⟩:=Za5 h2;obtain⟨c1,c2,c3,_⟩:=Za5 h3;have he':e=(spl x).length:=he;have b2':(spl x).drop i=ZK "when" "and" as++(spl x).drop k:=b2;have c2':(spl x).drop k=ZK "until" "or" es++(spl x).drop e:=c2;obtain⟨h00,h01⟩:=List.getElem?_eq_some_iff.mp h0;have w:wdR (p,as,es)=spl x:=by
        have z:spl x=(spl x)[0]::(spl x).drop 1:=by rw[<- List.drop_eq_getElem_cons h00];rfl
        rw[z,a2,b2',c2',he',List.drop_length,h01,append_nil];rfl
      exact⟨⟨a1,b1,c1⟩,w,by unfold txR;rw[w,JW]⟩
    . cases h
  . cases h
theorem ZeL {h:List V}(w:WH h):(∀ p∈wdH h,32∉p.cps.toList)/\1<=(wdH h).length/\(wdH h).length<=3:=by
  rcases w with ⟨n,hn,rfl⟩|⟨n,i,hn,hi,rfl⟩
  . refine⟨λ p hp=>?_,Nat.le_of_ble_eq_true rfl,Nat.le_of_ble_eq_true rfl⟩;have hp':p∈[n]:=hp;rw[List.mem_singleton]at hp';rw[hp'];exact ZcD hn
  . refine⟨λ p hp=>?_,Nat.le_of_ble_eq_true rfl,Nat.le_of_ble_eq_true rfl⟩;have hp':p∈[("kids":Str),n,(toString (i:Int):Str)]:=hp;simp only[mem_cons,not_mem_nil,or_false]at hp';rcases hp' with rfl|rfl|rfl
    . decide +kernel
    . exact ZcD hn
    . exact ZdC i
theorem Zcq {j:Str}(hj:32∉j.cps.toList):∀ {as:List (List V)} {s:Str},32∉s.cps.toList->(∀ a∈as,WA a)->∀ p∈ZK s j as,32∉p.cps.toList
  |[],_,_,_,p,hp=>nomatch hp
  | a::r,s,hs,hw,p,hp=>by
    have hp':p∈s::(a.map txV++ZK j j r):=hp;rcases List.mem_cons.mp hp' with rfl|hp'
    . exact hs
    . rcases List.mem_append.mp hp' with hp'|hp'
      . obtain⟨k,fs,us,e,h1,h2,h3,h4,_⟩:=ZeO (hw a (by simp));exact h4 p hp'
      . exact Zcq hj hj (λ b hb=>hw b (by simp[hb])) p hp'
theorem wdR_no {r:Rw}(w:r.W):∀ p∈wdR r,32∉p.cps.toList:=λ p hp=>by
  unfold wdR at hp;rcases List.mem_cons.mp hp with rfl|hp
  . decide +kernel
  rcases List.mem_append.mp hp with hp|hp
  . exact(ZeL w.1).1 p hp
  rcases List.mem_append.mp hp with hp|hp
  . exact Zcq (by decide +kernel) (by decide +kernel) w.2.1 p hp
  . exact Zcq (by decide +kernel) (by decide +kernel) w.2.2 p hp
theorem ZdJ {s j:Str}(as:List (List V)):(ZK s j as).head? = none\/(ZK s j as).head? = some s:=by
  cases as with
  |nil=>exact .inl rfl
  |cons a r=>exact .inr rfl
theorem ZfP {r:Rw}(w:r.W):spl (txR r)=wdR r:=spl_of (by unfold wdR;simp) (wdR_no w)
theorem Ze3 {r:Rw}(w:r.W):rdR (txR r)=some r:=by
  obtain⟨h,as,es⟩:=r;have hh:=rdH_of w.1 ["to"] (ZK "when" "and" as++ZK "until" "or" es);have ha:=ZcB (j:="and") (r:=ZK "until" "or" es) (as:=as) (n:=(wdR (h,as,es)).length+1) (s:="when") (a:="to"::wdH h) w.2.1
    (λ _ z=>by rcases ZdJ (s:="until") (j:="or") es with y|y <;> rw[y]at z;cases z;exact absurd (Option.some.inj z) (by decide +kernel))
    (λ z=>by rcases ZdJ (s:="until") (j:="or") es with y|y <;> rw[y]at z;cases z;exact absurd (Option.some.inj z) (by decide +kernel))
    (by have:=ZcX "when" "and" as;unfold wdR;simp only[length_cons,length_append];omega)
  have he:=ZcB (j:="or") (r:=[]) (as:=es) (n:=(wdR (h,as,es)).length+1) (s:="until") (a:="to"::(wdH h++ZK "when" "and" as)) w.2.2
    (λ _ z=>nomatch z) (λ z=>nomatch z) (by have:=ZcX "until" "or" es;unfold wdR;simp only[length_cons,length_append];omega)
  have e1:(["to"]:List Str)++(wdH h++(ZK "when" "and" as++ZK "until" "or" es))=wdR (h,as,es):=rfl;have e2:("to"::wdH h:List Str)++(ZK "when" "and" as++ZK "until" "or" es)=wdR (h,as,es):=by rw[<- e1];rfl
  have e3:("to"::(wdH h++ZK "when" "and" as):List Str)++(ZK "until" "or" es++[])=wdR (h,as,es):=by rw[<- e1,append_nil,List.cons_append,append_assoc];rfl
  rw[e1]at hh;rw[e2]at ha;rw[e3]at he;unfold rdR rdRs;rw[ZfP w,if_pos (show(wdR (h,as,es))[0]? = some ("to":Str) from rfl)];have hh':rdH (wdR (h,as,es)) 1=some (h,1+(wdH h).length):=hh;rw[hh'];show(YC _ _ (1+(wdH h).length) "when" "and").bind _=_;have l1:("to"::wdH h:List Str).length=1+(wdH h).length:=by rw[length_cons,Nat.add_comm]
  rw[l1]at ha;rw[ha];show(YC _ _ (("to"::wdH h:List Str)++ZK "when" "and" as).length "until" "or").bind _=_;rw[List.cons_append,he];show(if (("to"::(wdH h++ZK "when" "and" as):List Str)++ZK "until" "or" es).length=(wdR (h,as,es)).length then some (h,as,es) else none)=_;rw[if_pos (by rw[<- e3,append_nil])]
theorem JE (a b c:Str):a++b++c=a++(b++c):=Yc (by rw[Zz,Zz,Zz,Zz,append_assoc])
theorem Yv {c:Str}:∀ {a b:List Str},a≠[]->b≠[]->Str.join c (a++b)=Str.join c a++c++Str.join c b
  |[x],y::b,_,_=>rfl
  | x::x'::a,b,_,hb=>by
    have ih:=Yv (c:=c) (a:=x'::a) (b:=b) (by simp) hb;show x++c++Str.join c (x'::a++b)=x++c++Str.join c (x'::a)++c++Str.join c b;rw[ih,JE,JE,JE,JE,JE]
  |[],_,h,_=>absurd rfl h
  |[x],[],_,h=>absurd rfl h
theorem X9 {c x:Str}{b:List Str}(h:b≠[]):Str.join c (x::b)=x++c++Str.join c b:=Yv (a:=[x]) (by simp) h
theorem ZeN {a:List V}(h:WA a):a.map txV≠[]:=by
 obtain⟨k,fs,us,e,_⟩:=ZeO h;rw[e];simp
theorem Xi {s j:Str}{as:List (List V)}(h:as≠[]):ZK s j as≠[]:=by
  cases as with
  |nil=>exact absurd rfl h
  |cons a r=>exact λ z=>nomatch z
theorem ZdI {j:Str}:∀ {as:List (List V)} {s:Str},as≠[]->(∀ a∈as,WA a)->Str.join spc (ZK s j as)=s++spc++Str.join (spc++j++spc) (as.map txA)
  | [a],s,_,hw=>by
    have n1:=ZeN (hw a (by simp));show Str.join spc (s::(a.map txV++[]))=s++spc++txA a;rw[append_nil,X9 n1];rfl
  | a::b::r,s,_,hw=>by
    have n1:=ZeN (hw a (by simp));have ih:=ZdI (j:=j) (as:=b::r) (s:=j) (by simp) (λ x hx=>hw x (mem_cons_of_mem _ hx));show Str.join spc (s::(a.map txV++ZK j j (b::r)))=s++spc++(txA a++(spc++j++spc)++Str.join (spc++j++spc) ((b::r).map txA));rw[X9 (by simp[n1]),Yv n1 (Xi (by simp)),ih];show s++spc++(txA a++spc++(j++spc++_))=_;simp only[JE]
  |[],_,h,_=>absurd rfl h
noncomputable def apT (s j:Str)(as:List (List V)):Str:=if as=[] then "" else spc++Str.join spc (ZK s j as)
theorem Zdm (a:Str):a++("":Str)=a:=Yc (by rw[Zz];show a.cps.toList++[]=_;rw[append_nil])
theorem emp_l (a:Str):("":Str)++a=a:=Yc (by rw[Zz];rfl)
theorem Zdq (h:List V)(as es:List (List V))(w:WH h):txR (h,as,es)="to "++Str.join spc (wdH h)++apT "when" "and" as++apT "until" "or" es:=by
  have hn:wdH h≠[]:=λ z=>by have:=(ZeL w).2.1;rw[z]at this;exact absurd this (by decide)
  have t0:("to ":Str)="to"++spc:=by decide +kernel
  unfold txR wdR apT;show Str.join spc ("to"::(wdH h++(ZK "when" "and" as++ZK "until" "or" es)))=_;rw[t0,X9 (by simp[hn])]
  by_cases ha:as=[]
  . subst ha;rw[if_pos rfl,Zdm]
    by_cases he:es=[]
    . subst he;rw[if_pos rfl,Zdm];show "to"++spc++Str.join spc (wdH h++([]++[]))=_;rw[append_nil,append_nil]
    . rw[if_neg he];show "to"++spc++Str.join spc (wdH h++([]++ZK "until" "or" es))=_;rw[List.nil_append,Yv hn (Xi he)];simp only[JE]
  . rw[if_neg ha]
    by_cases he:es=[]
    . subst he;rw[if_pos rfl,Zdm];show "to"++spc++Str.join spc (wdH h++(ZK "when" "and" as++[]))=_;rw[append_nil,Yv hn (Xi ha)];simp only[JE]
    . rw[if_neg he,Yv hn (by simp[Xi ha]),Yv (Xi ha) (Xi he)];simp only[JE]
theorem ZfF {s j:Str}{as:List (List V)}(h:as≠[])(hw:∀ a∈as,WA a):apT s j as=(spc++s++spc)++Str.join (spc++j++spc) (as.map txA):=by
 unfold apT;rw[if_neg h,ZdI h hw];simp only[JE]
theorem Zb3 {j:Str}(a:List V):∀(l:List (List V))(s:Str),ZK s j (l++[a])=ZK s j l++((if l=[] then s else j)::a.map txV)
  | [],s=>by
    show s::(a.map txV++[])=_;rw[append_nil];rfl
  | b::r,s=>by
    have ih:=Zb3 (j:=j) a r j;show s::(b.map txV++ZK j j (r++[a]))=s::(b.map txV++ZK j j r)++_;rw[ih,List.cons_append,append_assoc,show(if r=[] then j else j)=j from ite_self _];rfl
theorem Zdp {s j:Str}{l:List (List V)}{a:List V}(hw:WA a):apT s j (l++[a])=apT s j l++(if l=[] then spc++s++spc else spc++j++spc)++txA a:=by
  have n1:=ZeN hw;unfold apT;rw[if_neg (by simp),Zb3]
  by_cases hl:l=[]
  . subst hl;rw[if_pos rfl,if_pos rfl,if_pos rfl,emp_l];show spc++Str.join spc (s::a.map txV)=_;rw[X9 n1];simp only[JE];rfl
  . rw[if_neg hl,if_neg hl,if_neg hl,Yv (Xi hl) (by simp),X9 n1];simp only[JE];rfl
theorem Jg {ws:List V}(h:WA ws):(txA ws).length<=40:=by
  have l0:(" ":Str).length=1:=by decide +kernel
  rcases h with ⟨n,hn,rfl⟩|⟨w,hw,rfl⟩|⟨k,n,hk,hn,rfl⟩|⟨n,i,hn,hi,rfl⟩
  . rw[txA2,Zj,Zj,l0];have l1:("year":Str).length=4:=by decide +kernel
    have l2:=Xs hn;show("year":Str).length+1+(toString (n:Int):Str).length<=40;omega
  . rw[txA2,Zj,Zj,l0];have l1:("comes":Str).length=5:=by decide +kernel
    have l2:=ZbG hw;show("comes":Str).length+1+w.length<=40;omega
  . rw[txA2,Zj,Zj,l0];have l1:k.length=4:=by rcases hk with rfl|rfl <;> decide +kernel
    have l2:=ZV hn;show k.length+1+n.length<=40;omega
  . rw[txA3,Zj,Zj,Zj,Zj,l0];have l1:("age":Str).length=3:=by decide +kernel
    have l2:=ZV hn;have l3:=Xs hi;show("age":Str).length+1+n.length+1+(toString (i:Int):Str).length<=40;omega
theorem Xw {s j:Str}(hs:s.length<=8)(hj:j.length<=8):∀(n:Nat){as:List (List V)},as.length=n->(∀ a∈as,WA a)->(apT s j as).length<=as.length * 50
  | 0,as,e,_=>by
    rw[List.eq_nil_of_length_eq_zero e];exact zero_le _
  | n+1,as,e,hw=>by
    obtain⟨l,a,rfl⟩:∃ l a,as=l++[a]:=by
      rcases eq_nil_or_concat as with z|⟨l,a,z⟩
      . rw[z]at e;cases e
      . exact⟨l,a,by rw[z,List.concat_eq_append]⟩
    have ih:=Xw hs hj n (as:=l) (by simpa using e) (λ x hx=>hw x (by simp[hx]));have wa:=hw a (by simp);have la:=Jg wa;have l1:spc.length=1:=rfl;rw[Zdp wa,Zj,Zj,length_append,length_singleton,Nat.add_mul];split
    . rw[Zj,Zj,l1];omega
    . rw[Zj,Zj,l1];omega
noncomputable def tFs2 (tb:TE)(sep:Str):TE:=λ σ H Q=>tb σ H λ x H1=>∃ z:Str,x = .str z/\z.length<=sizeLine/\(sep++z).length<=sizeLine/\Q (.str (sep++z)) H1
theorem pe_fs2 {X:Cx}{b:Expr}{tb:TE}{sep:Str}{j}{p2 p3 p4:Pos}(hs:sep.length<=sizeLine)(hb:PE X b tb):PE X (.JoinedStr [.Constant (.str sep) j p2, .FormattedValue b (-1) none p3] p4) (tFs2 tb sep):=by
 refine⟨?_⟩;intro pins s σ H Q I h;refine JoinedStr_many (joinParts_cons (Calls.Constant_str ⟨by rw[ZdZ];exact hs,?_⟩));rw[ZdZ];refine joinParts_cons (FormattedValue_plain (thn (hb pins _ σ H _ (I.tok _) h) λ u s1 zz9=>?_));obtain⟨x,H1,I1,rx,z,ex,h1,h2,q1⟩:=zz9;subst ex;obtain⟨t,rfl⟩:=rx;refine formatField_str (λ t' tk=>?_) h1;refine⟨h2,joinParts_nil ?_ h2⟩;exact⟨.str _,H1,I1.tok _,⟨_,rfl⟩,q1⟩
structure AsAt (H:Hp)(l:Addr)(as:List (List V))(ps:List Addr):Prop where
  lst:H l=some (.lst (ps.map V.ref))
  len:ps.length=as.length
  at_:∀(i:Nat)(p:Addr)(a:List V),ps[i]? = some p->as[i]? = some a->H p=some (.tup a)
theorem AsAt.same {H H':Hp}{l:Addr}{as:List (List V)}{ps:List Addr}(A:AsAt H l as ps)(s:Zn H H'):AsAt H' l as ps:=⟨s _ _ A.lst,A.len,λ i p a h1 h2=>s _ _ (A.at_ i p a h1 h2)⟩
theorem AsAt.put {H:Hp}{l q:Addr}{as:List (List V)}{ps:List Addr}{a:List V}(A:AsAt H l as ps)(hq:H q=some (.tup a)):AsAt (upd H l (.lst (ps.map V.ref++[.ref q]))) l (as++[a]) (ps++[q]):=by
  have nl:∀ x b,H x=some (.tup b)->x≠l:=λ x b hx e=>by rw[e,A.lst]at hx;cases hx
  refine⟨by rw[Zc,map_append];rfl,by simp[A.len],λ i p b h1 h2=>?_⟩
  by_cases c:i<ps.length
  . rw[getElem?_append_left c]at h1;rw[getElem?_append_left (by rw[<- A.len];exact c)]at h2;have hx:=A.at_ i p b h1 h2;rw[ZT (nl _ _ hx)];exact hx
  . have e:i=ps.length:=by
      have:=(List.getElem?_eq_some_iff.mp h1).1;rw[length_append,length_singleton]at this;omega
    subst e;rw[getElem?_append_right (le_refl _),sub_self]at h1;rw[getElem?_append_right (by rw[<- A.len];exact le_refl _),<- A.len,sub_self]at h2;cases h1;cases h2;rw[ZT (nl _ _ hq)];exact hq
theorem AsAt.nil {H:Hp}{l:Addr}(h:H l=some (.lst [])):AsAt H l [] []:=⟨h,rfl,λ i p a h1=>nomatch h1⟩
theorem AsAt.get {H:Hp}{l:Addr}{as:List (List V)}{ps:List Addr}(A:AsAt H l as ps){i:Nat}(h:i<as.length):∃ p,ps[i]? = some p/\H p=some (.tup as[i]):=by
 have h':i<ps.length:=by rw[A.len];exact h
 exact⟨ps[i],getElem?_eq_getElem h',A.at_ i _ _ (getElem?_eq_getElem h') (getElem?_eq_getElem h)⟩
structure RowAt (H:Hp)(t:Addr)(r:Rw):Prop where
  ex:∃ ph pn pe qs es,H t=some (.tup [.ref ph, .ref pn, .ref pe])/\H ph=some (.tup r.1)/\AsAt H pn r.2.1 qs/\AsAt H pe r.2.2 es
theorem RowAt.same {H H':Hp}{t:Addr}{r:Rw}(A:RowAt H t r)(s:Zn H H'):RowAt H' t r:=by
 obtain⟨ph,pn,pe,qs,es,h1,h2,h3,h4⟩:=A.ex;exact⟨ph,pn,pe,qs,es,s _ _ h1,s _ _ h2,h3.same s,h4.same s⟩
theorem ZcT (ts:List Str)(a b:Nat)(h:a<=b):Xu (ts.map V.str) (some (a:Int)) (some (b:Int))=((ts.drop a).take (b - a)).map V.str:=by
  unfold Xu;rw[HT.sIx_nat,HT.sIx_nat,length_map,List.map_take,List.map_drop];rcases Nat.le_total a ts.length with h1|h1
  . rw[Nat.min_eq_left h1];rcases Nat.le_total b ts.length with h2|h2
    . rw[Nat.min_eq_left h2]
    . rw[Nat.min_eq_right h2,List.take_of_length_le (by rw[List.length_drop,length_map];omega),List.take_of_length_le (by rw[List.length_drop,length_map];omega)]
  . rw[Nat.min_eq_right h1,List.drop_of_length_le (by rw[length_map];exact le_refl _),List.drop_of_length_le (by rw[length_map];exact h1),List.take_nil,List.take_nil]
theorem YU (a b:Str):PyData.strOk (a++b)=(PyData.strOk a && PyData.strOk b):=by
 unfold PyData.strOk;show(a.cps++b.cps).all _=_;rw[Array.all_append]
theorem ZcK {c:Str}(hc:PyData.strOk c=true):∀ {l:List Str},(∀ p∈l,PyData.strOk p=true)->PyData.strOk (Str.join c l)=true
  |[],_=>(by decide +kernel:PyData.strOk Str.empty=true)
  |[x],h=>h x (by simp)
  | x::y::r,h=>by
    have ih:=ZcK hc (l:=y::r) (λ p hp=>h p (mem_cons_of_mem _ hp));show PyData.strOk (x++c++Str.join c (y::r))=true;rw[YU,YU,h x (by simp),hc,ih];rfl
theorem Zad {c:Str}:∀ {l:List Str},PyData.strOk (Str.join c l)=true->∀ p∈l,PyData.strOk p=true
  |[],_,p,hp=>nomatch hp
  |[x],h,p,hp=>by rw[List.mem_singleton.mp hp];exact h
  | x::y::r,h,p,hp=>by
    have h':PyData.strOk (x++c++Str.join c (y::r))=true:=h;rw[YU,YU,and_eq_true,and_eq_true]at h';rcases List.mem_cons.mp hp with rfl|hp
    . exact h'.1.1
    . exact Zad h'.2 p hp
theorem Zff {x:Str}(h:PyData.strOk x=true):∀ p∈spl x,PyData.strOk p=true:=Zad (c:=spc) (by rw[JW];exact h)
theorem Zfi {n:Nat}(h:n<10000):PyData.strOk (toString (n:Int):Str)=true:=by
 have z:=ZcO h;unfold nok at z;simp only[and_eq_true]at z;unfold PyData.strOk;rw[Array.all_eq_true_iff_forall_mem];intro c hc;have z2:=List.all_eq_true.mp z.1.2 c (by simpa using hc);simp[inR]at z2;simp;omega
theorem wa_ok {a:List V}(h:WA a):∀ p∈a.map txV,PyData.strOk p=true:=λ p hp=>by
  obtain⟨v,hv,rfl⟩:=List.mem_map.mp hp;rcases(Y7 h).2 v hv with ⟨n,hn,rfl⟩|⟨x,_,hx,rfl⟩
  . exact Zfi hn
  . exact hx
theorem Zcp {j:Str}(hj:PyData.strOk j=true):∀ {as:List (List V)} {s:Str},PyData.strOk s=true->(∀ a∈as,WA a)->∀ p∈ZK s j as,PyData.strOk p=true
  |[],_,_,_,p,hp=>nomatch hp
  | a::r,s,hs,hw,p,hp=>by
    have hp':p∈s::(a.map txV++ZK j j r):=hp;rcases List.mem_cons.mp hp' with rfl|hp'
    . exact hs
    . rcases List.mem_append.mp hp' with hp'|hp'
      . exact wa_ok (hw a (by simp)) p hp'
      . exact Zcp hj hj (λ b hb=>hw b (by simp[hb])) p hp'
theorem wdH_ok {h:List V}(w:WH h):∀ p∈wdH h,PyData.strOk p=true:=λ p hp=>by
  rcases w with ⟨n,hn,rfl⟩|⟨n,i,hn,hi,rfl⟩
  . have hp':p∈[n]:=hp;rw[List.mem_singleton.mp hp'];exact Zau hn
  . have hp':p∈[("kids":Str),n,(toString (i:Int):Str)]:=hp;simp only[mem_cons,not_mem_nil,or_false]at hp';rcases hp' with rfl|rfl|rfl
    . decide +kernel
    . exact Zau hn
    . exact Zfi hi
theorem txR_ok {r:Rw}(w:r.W):PyData.strOk (txR r)=true:=by
  refine ZcK (by decide +kernel) λ p hp=>?_;unfold wdR at hp;rcases List.mem_cons.mp hp with rfl|hp
  . decide +kernel
  rcases List.mem_append.mp hp with hp|hp
  . exact wdH_ok w.1 p hp
  rcases List.mem_append.mp hp with hp|hp
  . exact Zcp (by decide +kernel) (by decide +kernel) w.2.1 p hp
  . exact Zcp (by decide +kernel) (by decide +kernel) w.2.2 p hp
theorem Zco {h:List V}(w:WH h):(Str.join spc (wdH h)).length<=40:=by
  rcases w with ⟨n,hn,rfl⟩|⟨n,i,hn,hi,rfl⟩
  . have:=ZV hn;show n.length<=40;omega
  . have:=ZV hn;have:=Xs hi;have k4:("kids":Str).length=4:=by decide +kernel
    have l1:spc.length=1:=rfl;show(("kids":Str)++spc++(n++spc++(toString (i:Int):Str))).length<=40;rw[Zj,Zj,Zj,Zj,k4,l1];omega
theorem ZfK {r:Rw}(w:r.W)(hn:r.2.1.length+r.2.2.length<=12):(txR r).length<=650:=by
 obtain⟨h,as,es⟩:=r;rw[Zdq h as es w.1,Zj,Zj,Zj];have l3:("to ":Str).length=3:=by decide +kernel
 have h4:=Zco w.1;have a5:=Xw (s:="when") (j:="and") (by decide +kernel) (by decide +kernel) _ rfl w.2.1;have e5:=Xw (s:="until") (j:="or") (by decide +kernel) (by decide +kernel) _ rfl w.2.2;have hn':as.length+es.length<=12:=hn;have a5':(apT "when" "and" as).length<=as.length * 50:=a5;have e5':(apT "until" "or" es).length<=es.length * 50:=e5;have h4':(Str.join spc (wdH h)).length<=40:=h4;omega
theorem Zm {n:Nat}(h:n<=4000):n<=sizeLine:=le_trans h (by decide)
theorem Yw {n:Nat}(h:n<=4000):n<sizeLine:=Nat.lt_of_le_of_lt h (by decide)
theorem Xf {K:Frag}{H:Hp}{a:Addr}{l:List Str}{Q:VK}(h:SqL K H a (l.map V.str))(hs:szW l<=1400)(ho:∀ p∈l,PyData.strOk p=true)(q:∀ z:Str,z.length<=1400->PyData.strOk z=true->Q (.str z) H):rJoin K (.str " ") [.ref a] H Q:=by
  have big:4000<=sizeLine:=by decide
  have e:Builtin.Str.glued " " l=Str.join spc l:=by
    rw[glued_eq_join,XJ]
  have le:=szW_le l;refine⟨" ",a,l,rfl,rfl,h,?_,?_,?_⟩
  . refine decide_eq_false ?_;rw[List.foldl_toArray];have h1:(" ":Str).length=1:=by decide +kernel
    rw[h1,Zc0];omega
  . rw[e];omega
  . rw[e];exact q _ (by omega) (ZcK (by decide +kernel) ho)
theorem YW {H:Hp}{a b:Addr}{l m:List Str}{Q:VK}(ha:H a=some (.lst (l.map V.str)))(hb:H b=some (.lst (m.map V.str)))(hl:szW l+szW m<=4000)(q:∀ p,H p=none->Q (.ref p) (upd H p (.lst ((l++m).map V.str)))):rCat (.ref a) (.ref b) H Q:=by
 have big:4000<=sizeLine:=by decide
 have h1:=JT l;have h2:=JT m;refine⟨a,b,_,_,rfl,rfl,ha,hb,by rw[length_map,length_map];omega,λ p hp=>?_⟩;rw[<- map_append];exact q p hp
theorem memTD {l:List Str}{i j:Nat}{p:Str}(h:p∈l.take i++l.drop j):p∈l:=by
  rcases List.mem_append.mp h with h|h
  . exact mem_of_mem_take h
  . exact List.mem_of_mem_drop h
theorem memDT {l:List Str}{i j:Nat}{p:Str}(h:p∈l.drop j++l.take i):p∈l:=by
  rcases List.mem_append.mp h with h|h
  . exact List.mem_of_mem_drop h
  . exact mem_of_mem_take h
theorem Zfk {l:List Str}{i j k:Nat}{hk:k<l.length}{p:Str}(h:p∈l.take i++[l[k]]++l.drop j):p∈l:=by
  rcases List.mem_append.mp h with h|h
  . rcases List.mem_append.mp h with h|h
    . exact mem_of_mem_take h
    . rw[List.mem_singleton.mp h];exact getElem_mem _
  . exact List.mem_of_mem_drop h
theorem Zfg {x y:Str}(h:PyData.strOk x=true)(m:∀ c∈y.cps.toList,c∈x.cps.toList):PyData.strOk y=true:=by
 unfold PyData.strOk at h ⊢;rw[Array.all_eq_true_iff_forall_mem]at h ⊢;exact λ c hc=>h c (by simpa using m c (by simpa using hc))
theorem Z1 {x:Str}(h:PyData.strOk x=true)(a b:Option Int):PyData.strOk (Txt.slice x a b)=true:=Zfg h λ c hc=>by
  unfold Txt.slice at hc;split at hc
  . exact hc
  . have hc':c∈List.filterMap (λ x_1=>x.cps[x_1]?) (Builtin.Str.strSliceIndices a b 1 x.length):=hc;obtain⟨k,_,hk⟩:=List.mem_filterMap.mp hc';rw[<- getElem?_toList]at hk;exact mem_of_getElem? hk
theorem ok_at {x:Str}{i:Int}{c:Nat}(h:PyData.strOk x=true)(e:atI x.cps.toList i=some c):PyData.strOk ⟨#[c]⟩=true:=Zfg h λ d hd=>by
 have hd':d∈[c]:=hd;rw[List.mem_singleton.mp hd'];unfold atI at e;obtain⟨j,_,hj⟩:=Option.bind_eq_some_iff.mp e;exact mem_of_getElem? hj
theorem ZeC {l m:List Str}(hl:∀ p∈l,PyData.strOk p=true)(hm:∀ p∈m,PyData.strOk p=true):PyData.eqv (strD l) (strD m)=decide (l=m):=by
  show PyData.eqvAll (l.map PyData.str) (m.map PyData.str)=decide (l=m);clear hl hm
  induction l generalizing m with
  |nil=>cases m <;> rfl
  |cons x l ih=>
    cases m with
    |nil=>rfl
    |cons y m=>
      show(decide (x=y) && PyData.eqvAll (l.map PyData.str) (m.map PyData.str))=_;rw[ih]
      by_cases e1:x=y <;> by_cases e2:l=m <;> simp[e1,e2]
theorem Zgc {K:Frag}{H:Hp}{a b:Addr}{l m:List Str}{Q:VK}(ha:SqL K H a (l.map V.str))(hb:SqL K H b (m.map V.str))(hl:∀ p∈l,PyData.strOk p=true)(hm:∀ p∈m,PyData.strOk p=true)(q:Q (.bl (decide (l=m))) H):rEqD K false (.ref a) (.ref b) H Q:=by
 refine⟨_,_,Zc4 ha,Zc4 hb,ZaQ hl,ZaQ hm,?_⟩;rw[if_neg (by decide),ZeC hl hm];exact q
theorem Zed {ts:List Str}{i:Nat}{y:Str}:(ts.drop i).take 1=[y]↔ts[i]? = some y:=by
  rcases lt_or_ge i ts.length with h|h
  . rw[List.drop_eq_getElem_cons h,getElem?_eq_getElem h];constructor
    . intro e;have e':[ts[i]]=[y]:=e;rw[List.cons.inj e' |>.1]
    . intro e;show [ts[i]]=[y];rw[Option.some.inj e]
  . rw[List.drop_of_length_le h,List.getElem?_eq_none h];exact⟨(λ e=>nomatch e),(λ e=>nomatch e)⟩
theorem Zek {ts:List Str}{m i b:Nat}{s j:Str}{ys:List V}(hy:ts[i]? = some s)(er:Zat ts (i+1)=some (ys,b)):YC ts (m+1) i s j=(YC ts m b j j).map λ q=>(ys::q.1,q.2):=by
 show(if ts[i]? = some s then _ else _)=_;rw[if_pos hy,er];rfl
theorem Zdx {ts:List Str}{m i:Nat}{s j:Str}(hy:ts[i]? = some s)(er:Zat ts (i+1)=none):YC ts (m+1) i s j=none:=by
 show(if ts[i]? = some s then _ else _)=_;rw[if_pos hy,er];rfl
theorem gluedJ (z:Str)(l:List Str):Builtin.Str.glued z l=Str.join z l:=glued_eq_join z l
noncomputable def ZR:List Str:=["","to","to ","to kids","to kids ann","to kids ann 12345","to crown","ann","to ann when","to ann until","to ann when until year 1","to ann when year 1 or year 2","To ann","to kids crown 5","to kids kids 5","to kids Ann 5","to kids ann.0 5","to ann.100","to Ann","to ann until year 1 and year 2","to ann until year 1 when year 2","to ann bob"]
theorem Zev:∀ x∈ZR,(rdR x).isNone=true/\x.length<=1400/\PyData.strOk x=true:=by decide +kernel
theorem AsAt.take {H H':Hp}{l l':Addr}{as:List (List V)}{ps:List Addr}{k:Nat}(A:AsAt H l as ps)(s:Zn H H')(h:H' l'=some (.lst ((ps.map V.ref).take k))):AsAt H' l' (as.take k) (ps.take k):=
  ⟨by rw[h,List.map_take],by rw[length_take,length_take,A.len],λ i p a h1 h2=>by
    have hi:i<k:=by
      have:=(List.getElem?_eq_some_iff.mp h1).1;rw[length_take]at this;omega
    rw[List.getElem?_take,if_pos hi]at h1 h2;exact s _ _ (A.at_ i p a h1 h2)⟩
theorem AsAt.drop {H H':Hp}{l l':Addr}{as:List (List V)}{ps:List Addr}{k:Nat}(A:AsAt H l as ps)(s:Zn H H')(h:H' l'=some (.lst ((ps.map V.ref).drop k))):AsAt H' l' (as.drop k) (ps.drop k):=
  ⟨by rw[h,List.map_drop],by rw[List.length_drop,List.length_drop,A.len],λ i p a h1 h2=>by
    rw[List.getElem?_drop]at h1 h2;exact s _ _ (A.at_ _ p a h1 h2)⟩
theorem AsAt.copy {H H':Hp}{l l':Addr}{as:List (List V)}{ps:List Addr}(A:AsAt H l as ps)(s:Zn H H')(h:H' l'=some (.lst (ps.map V.ref))):AsAt H' l' as ps:=⟨h,A.len,λ i p a h1 h2=>s _ _ (A.at_ i p a h1 h2)⟩
theorem cutRA (l:List V)(k:Nat):Xu l none (some (k:Int))=l.take k:=by
  unfold Xu;rw[HT.sIx_none,HT.sIx_nat,List.drop_zero,Nat.sub_zero];rcases Nat.le_total k l.length with h|h
  . rw[Nat.min_eq_left h]
  . rw[Nat.min_eq_right h,take_length,List.take_of_length_le h]
theorem cutRB (l:List V)(k:Nat):Xu l (some (k:Int)) none=l.drop k:=by
  unfold Xu;rw[HT.sIx_none,HT.sIx_nat];rcases Nat.le_total k l.length with h|h
  . rw[Nat.min_eq_left h,List.take_of_length_le (by rw[List.length_drop];exact le_refl _)]
  . rw[Nat.min_eq_right h,List.drop_length,List.take_nil,List.drop_of_length_le h]
theorem Zba {h:List V}(w:WH h):h.length<=3/\∀ v∈h,(∃ n:Nat,n<10000/\v = .int n)\/∃ x:Str,x.length<=23/\PyData.strOk x=true/\v = .str x:=by
  rcases w with ⟨n,hn,rfl⟩|⟨n,i,hn,hi,rfl⟩
  . refine⟨Nat.le_of_ble_eq_true rfl,λ v hv=>?_⟩;simp only[mem_cons,not_mem_nil,or_false]at hv;rcases hv with rfl|rfl
    . exact .inr ⟨_,by decide +kernel,by decide +kernel,rfl⟩
    . exact .inr ⟨n,ZV hn,Zau hn,rfl⟩
  . refine⟨Nat.le_of_ble_eq_true rfl,λ v hv=>?_⟩;simp only[mem_cons,not_mem_nil,or_false]at hv;rcases hv with rfl|rfl|rfl
    . exact .inr ⟨_,by decide +kernel,by decide +kernel,rfl⟩
    . exact .inr ⟨n,ZV hn,Zau hn,rfl⟩
    . exact .inl ⟨i,hi,rfl⟩
theorem ZfI {h:List V}(w:WH h):∃ n:Str,atI h 1=some (.str n)/\pok n=true:=by
  rcases w with ⟨n,hn,rfl⟩|⟨n,i,hn,hi,rfl⟩
  . exact⟨n,(ZE (j:=1) rfl:atI [V.str "one",V.str n] ((1:Nat):Int)=_),hn⟩
  . exact⟨n,(ZE (j:=1) rfl:atI [V.str "kids",V.str n,V.int i] ((1:Nat):Int)=_),hn⟩
noncomputable def YD (a:List V):PyData:=.tuple (a.map vD)
theorem Zdw {K:Frag}{H:Hp}:∀ {as:List (List V)} {ps:List Addr},ps.length=as.length->(∀(i:Nat)(p:Addr)(a:List V),ps[i]? = some p->as[i]? = some a->H p=some (.tup a))->(∀ a∈as,WA a)->RdsAll K H (ps.map V.ref) (as.map YD)
  |[],[],_,_,_ => .nil
  |a::as,p::ps,hl,h,hw => .cons (.tuple (SqT.of (h 0 p a rfl rfl)) (Xd (Y7 (hw a (by simp))).2)) (Zdw (by simpa using hl) (λ i q b h1 h2=>h (i+1) q b h1 h2) (λ b hb=>hw b (mem_cons_of_mem _ hb)))
  |[],_::_,hl,_,_=>by cases hl
  |_::_,[],hl,_,_=>by cases hl
theorem ZdE:∀ {as:List (List V)},(∀ a∈as,WA a)->PyData.canLayAll0 (as.map YD)=true/\PyData.depthAll (as.map YD)<=1
  |[],_=>⟨rfl,zero_le _⟩
  | a::as,hw=>by
    obtain⟨h1,h2⟩:=ZdE (as:=as) (λ b hb=>hw b (mem_cons_of_mem _ hb));obtain⟨h3,h4⟩:=Jl (Y7 (hw a (by simp))).2;refine⟨?_,?_⟩
    . show(PyData.canLayAll0 (a.map vD) && PyData.canLayAll0 (as.map YD))=true;rw[h3,h1];rfl
    . show max (PyData.depthAll (a.map vD)+1) (PyData.depthAll (as.map YD))<=1;rw[h4];omega
noncomputable def rowD (r:Rw):PyData:=.tuple [YD r.1, .list (r.2.1.map YD), .list (r.2.2.map YD)]
theorem RowAt.rds {K:Frag}{H:Hp}{t:Addr}{r:Rw}(R:RowAt H t r)(w:r.W):Rds K H (.ref t) (rowD r):=by
 obtain⟨ph,pn,pe,qs,es,h1,h2,h3,h4⟩:=R.ex;exact .tuple (SqT.of h1) (.cons (.tuple (SqT.of h2) (Xd (Zba w.1).2)) (.cons (.list (SqL.of h3.lst) (Zdw h3.len h3.at_ w.2.1)) (.cons (.list (SqL.of h4.lst) (Zdw h4.len h4.at_ w.2.2)) .nil)))
theorem JC {r:Rw}(w:r.W):SeqAt.shaped (rowD r)=true:=by
  obtain⟨a1,a2⟩:=Jl (Zba w.1).2;obtain⟨b1,b2⟩:=ZdE w.2.1;obtain⟨c1,c2⟩:=ZdE w.2.2;unfold SeqAt.shaped;rw[and_eq_true];refine⟨?_,decide_eq_true ?_⟩
  . show(PyData.canLayAll0 (r.1.map vD) && (PyData.canLayAll0 (r.2.1.map YD) && (PyData.canLayAll0 (r.2.2.map YD) && true)))=true;rw[a1,b1,c1];rfl
  . show max (PyData.depthAll (r.1.map vD)+1) (max (PyData.depthAll (r.2.1.map YD)+1) (max (PyData.depthAll (r.2.2.map YD)+1) 0))+1<=64;omega
theorem ne_row {K:Frag}{H:Hp}{t u:Addr}{r:Rw}{Q:VK}(R:RowAt H t r)(S:RowAt H u r)(w:r.W)(q:Q (.bl false) H):rEqD K true (.ref t) (.ref u) H Q:=
 ⟨_,_,R.rds w,S.rds w,JC w,JC w,by rw[SeqAt.eqv_refl _ (SeqAt.canLay_of_shaped (JC w))];exact q⟩
theorem stepT {s j y:Str}{as:List (List V)}{i:Nat}(hi:i<as.length)(hw:WA as[i]):y++apT s j (as.take i)++(if i=0 then spc++s++spc else spc++j++spc)++txA as[i]=y++apT s j (as.take (i+1)):=by
  have e:as.take (i+1)=as.take i++[as[i]]:=by
    rw[take_succ,getElem?_eq_getElem hi];rfl
  have e0:(as.take i=[])↔i=0:=by
    constructor
    . intro z;have:=congrArg List.length z;rw[length_take]at this;have t0:min i as.length=0:=this;omega
    . intro z;rw[z];rfl
  rw[e,Zdp hw]
  by_cases c:i=0
  . rw[if_pos c,if_pos (e0.mpr c)];simp only[JE]
  . rw[if_neg c,if_neg (λ z=>c (e0.mp z))];simp only[JE]
theorem AsAt.app {H H':Hp}{l m l':Addr}{as bs:List (List V)}{ps qs:List Addr}(A:AsAt H l as ps)(B:AsAt H m bs qs)(s:Zn H H')(h:H' l'=some (.lst (ps.map V.ref++qs.map V.ref))):AsAt H' l' (as++bs) (ps++qs):=
  ⟨by rw[h,map_append],by rw[length_append,length_append,A.len,B.len],λ i p a h1 h2=>by
    by_cases c:i<ps.length
    . rw[getElem?_append_left c]at h1;rw[getElem?_append_left (by rw[<- A.len];exact c)]at h2;exact s _ _ (A.at_ i p a h1 h2)
    . rw[getElem?_append_right (by omega)]at h1;rw[getElem?_append_right (by rw[<- A.len];omega),<- A.len]at h2;exact s _ _ (B.at_ _ p a h1 h2)⟩
theorem wa_two {a:List V}(h:WA a):2<=a.length:=by
 rcases h with ⟨n,hn,rfl⟩|⟨w,hw,rfl⟩|⟨k,n,hk,hn,rfl⟩|⟨n,i,hn,hi,rfl⟩ <;> exact Nat.le_of_ble_eq_true rfl
theorem Zb4 (s j:Str)(as:List (List V))(hw:∀ a∈as,WA a):3 * as.length<=(ZK s j as).length:=by
  induction as generalizing s with
  |nil=>exact le_refl _
  |cons a r ih=>
    show 3 * (r.length+1)<=(a.map txV++ZK j j r).length+1;rw[length_append,length_map];have:=ih j (λ b hb=>hw b (mem_cons_of_mem _ hb));have:=wa_two (hw a (by simp));omega
theorem ZfT {x:Str}{r:Rw}(h:rdR x=some r):3 * r.2.1.length+3 * r.2.2.length<=(spl x).length:=by
 obtain⟨w,e,_⟩:=Ze2 h;have a:=Zb4 "when" "and" r.2.1 w.2.1;have b:=Zb4 "until" "or" r.2.2 w.2.2;rw[<- e];unfold wdR;simp only[length_cons,length_append];omega
theorem kidsT (n:Str)(i:Nat):("to kids ":Str)++n++" "++(toString (i:Int):Str)="to "++Str.join spc (wdH [V.str "kids",V.str n,V.int i]):=by
 have e0:("to kids ":Str)="to "++"kids"++spc:=by decide +kernel
 rw[e0,XJ];show _="to "++("kids"++spc++(n++spc++(toString (i:Int):Str)));simp only[JE]
theorem gn_640 {x:Str}(h:gn x=true):x.length<=640:=by
 unfold gn at h;simp only[and_eq_true,decide_eq_true_eq]at h;have:=h.1.1.2;omega
theorem cl_subR {cl cells:List (Str×Addr)}(h:∀ p∈cl,cells.lookup p.1=some p.2):∀ x c,cl.lookup x=some c->cells.lookup x=some c:=by
  intro x c e
  induction cl with
  |nil=>cases e
  |cons p r ih=>
    obtain⟨k,v⟩:=p;rw[List.lookup_cons]at e;cases q:x == k with
    |true=>
      rw[q]at e;have e':some v=some c:=e;have hk:x=k:=eq_of_beq q;rw[hk,<- e'];exact h (k,v) (by simp)
    |false=>
      rw[q]at e;exact ih (λ p hp=>h p (mem_cons_of_mem _ hp)) e
end L2
namespace L2
open PySem PySem.Spec PyProof.Rows
theorem us0 (us:List Value)(h:us.length=0):us=[]:=List.eq_nil_of_length_eq_zero h
theorem us1 (us:List Value)(h:us.length=1):∃ a0,us=[a0]:=by
  cases us with
  |nil=>cases h
  |cons a0 us=>exact⟨a0,by rw[us0 us (Nat.succ.inj h)]⟩
theorem us2 (us:List Value)(h:us.length=2):∃ a0 a1,us=[a0,a1]:=by
  cases us with
  |nil=>cases h
  |cons a0 us=>
    obtain⟨a1,e⟩:=us1 us (Nat.succ.inj h);exact⟨a0,a1,by rw[e]⟩
theorem us3 (us:List Value)(h:us.length=3):∃ a0 a1 a2,us=[a0,a1,a2]:=by
  cases us with
  |nil=>cases h
  |cons a0 us=>
    obtain⟨a1,a2,e⟩:=us2 us (Nat.succ.inj h);exact⟨a0,a1,a2,by rw[e]⟩
theorem us4 (us:List Value)(h:us.length=4):∃ a0 a1 a2 a3,us=[a0,a1,a2,a3]:=by
  cases us with
  |nil=>cases h
  |cons a0 us=>
    obtain⟨a1,a2,a3,e⟩:=us3 us (Nat.succ.inj h);exact⟨a0,a1,a2,a3,by rw[e]⟩
theorem h_ {j k:Nat}{A:Around}(h:Room k A)(e:j<=k:=by decide):Room j A:=h.mono e
noncomputable def GlP (K:Frag)(x:Str)(st:Stmt):Prop:=∃ f,nsIn K mainGlobals x=some (some (.ref f))/\∃ fd,Fun K x x st f fd
noncomputable def MtP (K:Frag)(C:Addr)(x q:Str)(st:Stmt):Prop:=∃ f,findIn K (.ref C) x=some (some (.ref f))/\isFn K (.ref f)=true/\∃ fd,Fun K x q st f fd
section
variable {K:Frag}{x q:Str}{st:Stmt}{f C:Addr}{oc:Value}{od an:Option Addr}{osl:Array (Option Value)}{kV doc pm cdv ct:Value}{fd:FuncData}
theorem glp_mk (a:nsIn K mainGlobals x=some (some (.ref f)))(l:K.lookup f=some ⟨oc,od, .func (fnOf x x (YV st) (Yk st) (Zk st) .none kV doc pm an cdv ct),osl⟩)(c:codeIn K cdv x=true)(k:keepIn K (.ref f)=true):GlP K x st:=⟨f,a,_,Zfv l c k⟩
theorem mtp_mk (a:findIn K (.ref C) x=some (some (.ref f)))(i:isFn K (.ref f)=true)(l:K.lookup f=some ⟨oc,od, .func (fnOf x q (YV st) (Yk st) (Zk st) .none kV doc pm an cdv ct),osl⟩)(c:codeIn K cdv q=true)(k:keepIn K (.ref f)=true):MtP K C x q st:=⟨f,a,i,_,Zfv l c k⟩
variable {P:Program}{w:World}{mg:Str->Option Value}{base h:Heap}{k:Nat}{ps:List Str}{sp:Sp}{CX:CXT}
noncomputable abbrev BinT (x q:Str)(st:Stmt)(ps:List Str):Prop:=∀(kV doc pm:Value)(an:Option Addr)(cdv ct:Value)(us:List Value),us.length=ps.length->bindArgs (fnOf x q (YV st) (Yk st) (Zk st) .none kV doc pm an cdv ct) ⟨us,[]⟩=pure (ps.zip us)
theorem ZS (X:K.In h)(G:h.Ns mainGlobals mg)(p:GlP K x st)(ok:∀ {f:Addr} {fd:FuncData},Fun K x x st f fd->FnOk P w K mg base CX0 k f fd ps sp)(b:BinT x x st ps):Dn P w K mg base k x ps sp:=by
 obtain⟨f,a,fd,F⟩:=p;exact⟨f,fd,ok F,mg_of X G a,F.kp,F.binds b⟩
theorem Jb (X:K.In h)(G:h.Ns mainGlobals mg)(p:GlP K x st)(ok:∀ {f:Addr} {fd:FuncData},Fun K x x st f fd->FnOk P w K mg base (CXR P w base) k f fd ps sp)(b:BinT x x st ps):Dx P w K mg base k x ps sp:=by
 obtain⟨f,a,fd,F⟩:=p;exact⟨f,fd,ok F,mg_of X G a,F.kp,F.binds b⟩
theorem la_gl {l:Str}(X:K.In h)(G:h.Ns mainGlobals mg){fa:Addr}(hfa:mg x=some (.ref fa))(p:GlP K x st)(b:∀(kV doc pm:Value)(an:Option Addr)(cdv ct:Value)(s:Shared)(v:Value),BindsTo s (fnOf x x (YV st) (Yk st) (Zk st) .none kV doc pm an cdv ct) ⟨[v],[]⟩ [(l,v)]):∃ fd,(∀(s:Shared)(v:Value),BindsTo s fd ⟨[v],[]⟩ [(l,v)])/\Fun K x x st fa fd:=by
 obtain⟨f,a,fd,F⟩:=p;have e:=hfa.symm.trans (mg_of X G a);cases e;refine⟨fd,?_,F⟩;obtain⟨oc,od,kV,doc,pm,an,cdv,ct,osl,rfl,lk,hcd⟩:=F.ex;exact b kV doc pm an cdv ct
end
theorem walkX_of {q:Program}{loose:List Str}{XP:(Str->Option Value)->Heap->Prop}{K:Params->Frag}{as:List Addr}{n t:Nat}{r:PySem.W.RowW}{d:DefRec}{kwd:List (Str×Expr)}{run:Value->List Value->Sem Value}(e:∀ P,as=(K P).map (·.1))(h:PySem.W.WalkO q loose XP (λ w h=>(K w.params).In h) r d kwd run):PySem.W.WalkX q loose XP (PySem.W.X.obsZ as) (PySem.W.X.valZ K n t) r d kwd run:=
  λ w s₀ s₁ mg mb G y a o pm cd doc dV kV h1 h2 h3 h4 h5 h6 args vals as' L hpre hlay hrd hwl hlo=>
    h w s₀ s₁ mg mb G (PySem.W.InK.keeps w _ _ (PySem.W.X.z_facts e y).2.1 L.keeps) a o pm cd doc dV kV h1 h2 h3 h4 h5 h6 args vals as' hpre hlay hrd hwl hlo
end L2
set_option maxHeartbeats 0
namespace My
open PySem L2
noncomputable def top (i:Nat):Stmt:=PySem.Challenge.pw_deadhand_k46_rows_written.main.body.getD i (.Pass ⟨0,0,0,0⟩)
noncomputable def inCls (s:Stmt)(j:Nat):Stmt:=match s with
  |.ClassDef _ _ _ body _ _ _ _ _ _ _=>body.getD j (.Pass ⟨0,0,0,0⟩)
  |_ => .Pass ⟨0,0,0,0⟩
noncomputable def forBody (s:Stmt):List Stmt:=match s with
  |.For _ _ b _ _=>b
  |.While _ b _ _=>b
  |.If _ b _ _=>b
  |_=>[]
noncomputable abbrev Zbp:Stmt:=top 8
theorem Zb9:FnScope ["text","low","high","sign"] ["text","low","high"] (Zk Zbp):=⟨rfl,rfl,rfl,by decide +kernel,rfl,by decide +kernel,by decide +kernel⟩
noncomputable abbrev X0:Stmt:=top 9
theorem Zcx:FnScope ["word"] ["word"] (Zk X0):=⟨rfl,rfl,rfl,by decide +kernel,rfl,by decide +kernel,by decide +kernel⟩
noncomputable abbrev XV:Stmt:=top 10
theorem Zct:FnScope ["word"] ["word"] (Zk XV):=⟨rfl,rfl,rfl,by decide +kernel,rfl,by decide +kernel,by decide +kernel⟩
noncomputable abbrev Y3:Stmt:=top 11
theorem Zbn:FnScope ["text"] ["text"] (Zk Y3):=⟨rfl,rfl,rfl,by decide +kernel,rfl,by decide +kernel,by decide +kernel⟩
noncomputable abbrev Zcz:Stmt:=top 12
theorem J7:FnScope ["name","word","numbers","number"] ["name"] (Zk Zcz):=⟨rfl,rfl,rfl,by decide +kernel,rfl,by decide +kernel,by decide +kernel⟩
noncomputable abbrev JM:Stmt:=top 14
theorem Zc3:FnScope ["holder"] ["holder"] (Zk JM):=⟨rfl,rfl,rfl,by decide +kernel,rfl,by decide +kernel,by decide +kernel⟩
noncomputable abbrev YY:Stmt:=top 18
theorem XS:FnScope ["text","good"] ["text"] (Zk YY):=⟨rfl,rfl,rfl,by decide +kernel,rfl,by decide +kernel,by decide +kernel⟩
noncomputable abbrev XW:Stmt:=top 19
theorem Zcu:FnScope ["text"] ["text"] (Zk XW):=⟨rfl,rfl,rfl,by decide +kernel,rfl,by decide +kernel,by decide +kernel⟩
noncomputable abbrev XY:Stmt:=top 20
theorem Zcv:FnScope ["text"] ["text"] (Zk XY):=⟨rfl,rfl,rfl,by decide +kernel,rfl,by decide +kernel,by decide +kernel⟩
noncomputable abbrev XX:Stmt:=top 22
theorem J6:FnScope ["form","text","reader"] ["form","text"] (Zk XX):=⟨rfl,rfl,rfl,by decide +kernel,rfl,by decide +kernel,by decide +kernel⟩
noncomputable abbrev Xk:Stmt:=top 23
theorem ZbU:FnScope ["forms","texts"] ["forms","texts"] (Zk Xk):=⟨rfl,rfl,rfl,by decide +kernel,rfl,by decide +kernel,by decide +kernel⟩
noncomputable abbrev Zar:Stmt:=top 24
theorem JD:FnScope ["texts","at","kind","behind"] ["texts","at"] (Zk Zar):=⟨rfl,rfl,rfl,by decide +kernel,rfl,by decide +kernel,by decide +kernel⟩
noncomputable abbrev JN:Stmt:=top 25
theorem Yh:FnScope ["texts","at","opening","joint","atoms","sign","atom"] ["texts","at","opening","joint"] (Zk JN):=⟨rfl,rfl,rfl,by decide +kernel,rfl,by decide +kernel,by decide +kernel⟩
noncomputable abbrev XZ:Stmt:=top 26
theorem Zcw:FnScope ["texts","at"] ["texts","at"] (Zk XZ):=⟨rfl,rfl,rfl,by decide +kernel,rfl,by decide +kernel,by decide +kernel⟩
noncomputable abbrev JG:Stmt:=top 27
theorem ZY:FnScope ["text","texts","holder","at","needs","ends"] ["text"] (Zk JG):=⟨rfl,rfl,rfl,by decide +kernel,rfl,by decide +kernel,by decide +kernel⟩
noncomputable abbrev Zbq:Stmt:=top 28
theorem Zeg:FnScope ["things"] ["things"] (Zk Zbq):=⟨rfl,rfl,rfl,by decide +kernel,rfl,by decide +kernel,by decide +kernel⟩
noncomputable abbrev X1:Stmt:=top 29
theorem Zcy:FnScope ["atom"] ["atom"] (Zk X1):=⟨rfl,rfl,rfl,by decide +kernel,rfl,by decide +kernel,by decide +kernel⟩
noncomputable abbrev Y2:Stmt:=top 30
theorem Zbm:FnScope ["holder"] ["holder"] (Zk Y2):=⟨rfl,rfl,rfl,by decide +kernel,rfl,by decide +kernel,by decide +kernel⟩
noncomputable abbrev Xo:Stmt:=top 31
theorem ZbW:FnScope ["atoms","opening","joint"] ["atoms","opening","joint"] (Zk Xo):=⟨rfl,rfl,rfl,by decide +kernel,rfl,by decide +kernel,by decide +kernel⟩
noncomputable abbrev JF:Stmt:=top 32
theorem YT:FnScope ["row","holder","needs","ends"] ["row"] (Zk JF):=⟨rfl,rfl,rfl,by decide +kernel,rfl,by decide +kernel,by decide +kernel⟩
noncomputable abbrev Zaq:Stmt:=top 34
theorem Zdt:FnScope ["_law_found"] ["_law_found"] (Zk Zaq):=⟨rfl,rfl,rfl,by decide +kernel,rfl,by decide +kernel,by decide +kernel⟩
noncomputable abbrev Y0:Stmt:=top 35
theorem Zbl:FnScope ["_law_script","_law_k"] ["_law_script","_law_k"] (Zk Y0):=⟨rfl,rfl,rfl,by decide +kernel,rfl,by decide +kernel,by decide +kernel⟩
noncomputable abbrev JJ:Stmt:=top 36
theorem XT:FnScope ["_law_cell","_law_place","_law_one","_law_two"] ["_law_cell","_law_place"] (Zk JJ):=⟨rfl,rfl,rfl,by decide +kernel,rfl,by decide +kernel,by decide +kernel⟩
noncomputable abbrev JH:Stmt:=top 37
theorem Z3:FnScope ["_law_n","_law_size","_law_word_here","_law_k"] ["_law_n"] (Zk JH):=⟨rfl,rfl,rfl,by decide +kernel,rfl,by decide +kernel,by decide +kernel⟩
noncomputable abbrev JI:Stmt:=top 38
theorem ZaR:FnScope ["_law_n","_law_some"] ["_law_n"] (Zk JI):=⟨rfl,rfl,rfl,by decide +kernel,rfl,by decide +kernel,by decide +kernel⟩
noncomputable abbrev JL:Stmt:=top 39
theorem Yg:FnScope ["_law_n","_law_name_here","_law_k"] ["_law_n"] (Zk JL):=⟨rfl,rfl,rfl,by decide +kernel,rfl,by decide +kernel,by decide +kernel⟩
noncomputable abbrev YN:Stmt:=top 40
theorem Yd:FnScope ["_law_n","_law_kind","_law_number"] ["_law_n"] (Zk YN):=⟨rfl,rfl,rfl,by decide +kernel,rfl,by decide +kernel,by decide +kernel⟩
noncomputable abbrev Y1:Stmt:=top 41
theorem ZQ:FnScope ["_law_m","_law_needs","_law_k","_law_holder","_law_many"] ["_law_m"] (Zk Y1):=⟨rfl,rfl,rfl,by decide +kernel,rfl,by decide +kernel,by decide +kernel⟩
noncomputable abbrev Yz:Stmt:=top 42
theorem Ym:FnScope ["_law_atom","_law_text"] ["_law_atom"] (Zk Yz):=⟨rfl,rfl,rfl,by decide +kernel,rfl,by decide +kernel,by decide +kernel⟩
noncomputable abbrev Z4:Stmt:=top 43
theorem Zv:FnScope ["_law_row","_law_holder","_law_atoms","_law_ends","_law_text","_law_k","_law_atom","_law_end"] ["_law_row"] (Zk Z4):=⟨rfl,rfl,rfl,by decide +kernel,rfl,by decide +kernel,by decide +kernel⟩
noncomputable abbrev Xl:Stmt:=top 44
theorem ZN:FnScope ["_law_text","_law_n","_law_signs","_law_at","_law_sign","_law_words"] ["_law_text","_law_n"] (Zk Xl):=⟨rfl,rfl,rfl,by decide +kernel,rfl,by decide +kernel,by decide +kernel⟩
noncomputable abbrev Z9:Stmt:=top 45
theorem Yt:FnScope ["_law_found","_law_part"] ["_law_found"] (Zk Z9):=⟨rfl,rfl,rfl,by decide +kernel,rfl,by decide +kernel,by decide +kernel⟩
noncomputable abbrev YZ:Stmt:=top 46
theorem Zbk:FnScope ["_law_found","_law_due"] ["_law_found","_law_due"] (Zk YZ):=⟨rfl,rfl,rfl,by decide +kernel,rfl,by decide +kernel,by decide +kernel⟩
noncomputable abbrev YB:Stmt:=top 47
theorem Zap:FnScope ["_law_found","_law_due"] ["_law_found","_law_due"] (Zk YB):=⟨rfl,rfl,rfl,by decide +kernel,rfl,by decide +kernel,by decide +kernel⟩
noncomputable abbrev Xn:Stmt:=top 48
theorem ZbV:FnScope ["_law_found","_law_due"] ["_law_found","_law_due"] (Zk Xn):=⟨rfl,rfl,rfl,by decide +kernel,rfl,by decide +kernel,by decide +kernel⟩
noncomputable abbrev Yx:Stmt:=top 49
theorem Zan:FnScope ["_law_word_here"] ["_law_word_here"] (Zk Yx):=⟨rfl,rfl,rfl,by decide +kernel,rfl,by decide +kernel,by decide +kernel⟩
noncomputable abbrev YA:Stmt:=top 50
theorem Yn:FnScope ["_law_name_here","_law_pieces","_law_piece"] ["_law_name_here"] (Zk YA):=⟨rfl,rfl,rfl,by decide +kernel,rfl,by decide +kernel,by decide +kernel⟩
noncomputable abbrev Yy:Stmt:=top 51
theorem Zao:FnScope ["_law_atom"] ["_law_atom"] (Zk Yy):=⟨rfl,rfl,rfl,by decide +kernel,rfl,by decide +kernel,by decide +kernel⟩
noncomputable abbrev YM:Stmt:=top 52
theorem ZaZ:FnScope ["_law_row"] ["_law_row"] (Zk YM):=⟨rfl,rfl,rfl,by decide +kernel,rfl,by decide +kernel,by decide +kernel⟩
noncomputable abbrev JK:Stmt:=top 53
theorem Zc2:FnScope ["_law_text"] ["_law_text"] (Zk JK):=⟨rfl,rfl,rfl,by decide +kernel,rfl,by decide +kernel,by decide +kernel⟩
noncomputable abbrev Xm:Stmt:=top 54
theorem Yp:FnScope ["_law_bad"] [] (Zk Xm):=⟨rfl,rfl,rfl,by decide +kernel,rfl,by decide +kernel,by decide +kernel⟩
noncomputable abbrev ZeX:Stmt:=top 55
theorem XU:FnScope ["_law_script","_law_row","_law_handed","_law_text","_law_k","_law_found"] ["_law_script"] (Zk ZeX):=⟨rfl,rfl,rfl,by decide +kernel,rfl,by decide +kernel,by decide +kernel⟩
structure Txt (K:Frag)(g:Ga)(mg:Str->Option Value)(w0:World):Prop where
  z_isinstance:mg "isinstance"=none
  z_int:mg "int"=none
  z_bool:mg "bool"=none
  z_tuple:mg "tuple"=none
  z_len:mg "len"=none
  z_range:mg "range"=none
  z_list:mg "list"=none
  z_str:mg "str"=none
  z_min:mg "min"=none
  z_enumerate:mg "enumerate"=none
  z_zip:mg "zip"=none
  QbH:mg "ValueError"=none
  QbI:mg "LandError"=some (.ref g.LandError)
  Qab:mg "NoText"=some (.ref g.NoText)
  Qae:XAt K g.NoText
  e_NoText_NoText:PySem.W.exmOne K (.ref g.NoText) (.ref g.NoText)=some true
  Qbw:mg "LONGEST_WORD"=some (.int 8 g.LONGEST_WORD)
  Qbx:mg "LONGEST_NUMBER"=some (.int 2 g.LONGEST_NUMBER)
  Qby:mg "MOST_NUMBERS"=some (.int 5 g.MOST_NUMBERS)
  Qbz:mg "BARRED"=some (.ref g.BARRED)
  Qbv:∀ H,SqT K H g.BARRED [.str "crown", .str "kids"]
  QbA:mg "MOST_FIGURES"=some (.int 4 g.MOST_FIGURES)
  QaD:mg "ATOMS"=some (.ref g.ATOMS)
  QbB:mg "READERS"=some (.ref g.READERS)
  m_read_number:mg "read_number"=some (.ref g.read_number)
  m_read_word:mg "read_word"=some (.ref g.read_word)
  m_read_name:mg "read_name"=some (.ref g.read_name)
  d_READERS:KDic K w0 g.READERS [("number",V.ref g.read_number),("word",V.ref g.read_word),("name",V.ref g.read_name)]
  d_ATOMS:Zd8 K w0 g.ATOMS
local macro_rules|`(tactic| walk_at "ss") => `(tactic| first|exact rfl|assumption|exact Zf4 (Nat.le_of_ble_eq_true rfl)|(show(0:Int)<_;decide)|exact⟨by decide,by decide⟩|exact .inl ⟨by decide,by decide⟩|exact .inr ⟨by decide,by decide⟩|exact DGet.k (k:=Sum.inr _) (by assumption)|exact SqL.of (by assumption)|exact SqL.of Zc|exact SqT.of Zc|exact SqT.of (by assumption)|exact .inl (SqL.of (by assumption))|exact .inr (SqT.of (by assumption))|exact .inl ⟨_,SqL.of (by assumption),rfl⟩|exact⟨_,SqL.of (by assumption)⟩|exact⟨_,SqL.of Zc⟩|exact .inl ⟨rfl,_,SqL.of (by assumption)⟩|exact Txt.Qbv (by assumption)|decide)
local macro_rules|`(tactic| walk_at "rd") => `(tactic| repeat (first|(apply And.intro;· walk_at "ss")|apply Exists.intro))
local macro_rules|`(tactic| walk_at "g") => `(tactic| repeat (first|(apply And.intro;· walk_at "ss")|((fail_if_success (show ∃ _:Nat->Nat->St->Hp->Prop,_));(fail_if_success (show ∃ _:Nat->St->Hp->Prop,_));apply Exists.intro)))
local macro_rules|`(tactic| walk_at "v") => `(tactic| first|exact Or.inl rfl|exact Or.inr (Or.inl rfl)|exact Or.inr (Or.inr rfl))
local macro_rules|`(tactic| walk_at "u") => `(tactic| first|exact .inl rfl|exact .inr rfl|assumption)
local macro_rules|`(tactic| walk_at "n") => `(tactic| first|exact nobehind _ (by decide) (by decide)|rfl)
local macro_rules|`(tactic| walk_at "w") => `(tactic| exact⟨by rfl,by walk_at "v",by decide,by decide⟩)
theorem qv {X:Cx}(i:Nat){x:Str}{pos:Pos}(h:X.N[i]? = some x/\Vis X.env.scope x/\(x == ("__debug__":Str))=false/\(x == ("__classdict__":Str))=false):PE X (.Name x pos) (tVar i):=@pv X i x pos h.1 h.2.1 h.2.2.1 h.2.2.2
noncomputable def Zb6 (K:Frag)(g:Ga):Sp:=λ vs H Q E=>∃(x:Str)(a b:Nat),vs=[.str x, .str ⟨#[a]⟩, .str ⟨#[b]⟩]/\Q (.bl (x.cps.toList.all (inR a b))) H
noncomputable def J4 (K:Frag)(g:Ga):Sp:=λ vs H Q E=>∃ x:Str,vs=[.str x]/\x.length<=1400/\Q (.bl (gw x)) H
noncomputable def JX (K:Frag)(g:Ga):Sp:=λ vs H Q E=>∃ x:Str,vs=[.str x]/\x.length<=1400/\(gw x=false->E (.ref g.NoText) none H)/\(gw x=true->Q .non H)
noncomputable def XR (K:Frag)(g:Ga):Sp:=λ vs H Q E=>∃ x:Str,vs=[.str x]/\x.length<=1400/\Q (.bl (gn x)) H
noncomputable def Zc1 (K:Frag)(g:Ga):Sp:=λ vs H Q E=>∃ x:Str,vs=[.str x]/\x.length<=1400/\(pok x=false->∀ H',Zn H H'->E (.ref g.NoText) none H')/\(pok x=true->∀ l H',Zn H H'->H l=none->H' l=some (.lst (pvl x))->Q (.ref l) H')
noncomputable def ZaO (K:Frag)(g:Ga):Sp:=λ vs H Q E=>∃(p:Addr)(h:List V),vs=[.ref p]/\SqT K H p h/\WH h/\Q (.bl (decide (h.length=3))) H
noncomputable def XL (K:Frag)(g:Ga):Sp:=λ vs H Q E=>∃ x:Str,vs=[.str x]/\x.length<=1400/\(rdV "number" x=none->∀ H',Zn H H'->E (.ref g.NoText) none H')/\∀ v,rdV "number" x=some v->∀ H',Zn H H'->Q v H'
noncomputable def JY (K:Frag)(g:Ga):Sp:=λ vs H Q E=>∃ x:Str,vs=[.str x]/\x.length<=1400/\(rdV "word" x=none->∀ H',Zn H H'->E (.ref g.NoText) none H')/\∀ v,rdV "word" x=some v->∀ H',Zn H H'->Q v H'
noncomputable def J0 (K:Frag)(g:Ga):Sp:=λ vs H Q E=>∃ x:Str,vs=[.str x]/\x.length<=1400/\(rdV "name" x=none->∀ H',Zn H H'->E (.ref g.NoText) none H')/\∀ v,rdV "name" x=some v->∀ H',Zn H H'->Q v H'
noncomputable def JZ (K:Frag)(g:Ga):Sp:=λ vs H Q E=>∃ f x:Str,vs=[.str f, .str x]/\(f="number"\/f="word"\/f="name")/\x.length<=1400/\(rdV f x=none->∀ H',Zn H H'->E (.ref g.NoText) none H')/\∀ v,rdV f x=some v->∀ H',Zn H H'->Q v H'
noncomputable def Jo (K:Frag)(g:Ga):Sp:=λ vs H Q E=>∃(fa ta:Addr)(fs xs:List Str),vs=[.ref fa, .ref ta]/\SqT K H fa (fs.map V.str)/\SqL K H ta (xs.map V.str)/\(∀ f∈fs,f="number"\/f="word"\/f="name")/\fs.length<=5/\(∀ x∈xs,x.length<=1400)/\(ZX fs xs=none->∀ H',Zn H H'->E (.ref g.NoText) none H')/\∀ ys,ZX fs xs=some ys->∀ t H',Zn H H'->H t=none->H' t=some (.tup ys)->Q (.ref t) H'
noncomputable def Zbj (K:Frag)(g:Ga):Sp:=λ vs H Q E=>∃(ta:Addr)(ts:List Str)(i:Nat),vs=[.ref ta, .int i]/\SqL K H ta (ts.map V.str)/\ts.length<=1900/\(∀ x∈ts,x.length<=1400)/\i<=1900/\(Zat ts i=none->∀ H',Zn H H'->E (.ref g.NoText) none H')/\∀ ys b,Zat ts i=some (ys,b)->∀ p t H',Zn H H'->H p=none->H' p=some (.tup ys)->H' t=some (.tup [.ref p, .int b])->Q (.ref t) H'
noncomputable def ZaP (K:Frag)(g:Ga):Sp:=λ vs H Q E=>∃(ta:Addr)(ts:List Str)(i:Nat)(s j:Str),vs=[.ref ta, .int i, .str s, .str j]/\SqL K H ta (ts.map V.str)/\ts.length<=1500/\(∀ x∈ts,x.length<=1400)/\i<=1500/\(YC ts (ts.length+1) i s j=none->∀ H',Zn H H'->E (.ref g.NoText) none H')/\∀ as b,YC ts (ts.length+1) i s j=some (as,b)->∀ l ps t H',Zn H H'->AsAt H' l as ps->H' t=some (.tup [.ref l, .int b])->Q (.ref t) H'
noncomputable def J3 (K:Frag)(g:Ga):Sp:=λ vs H Q E=>∃(ta:Addr)(ts:List Str)(i:Nat),vs=[.ref ta, .int i]/\SqL K H ta (ts.map V.str)/\ts.length<=1500/\(∀ x∈ts,x.length<=1400/\PyData.strOk x=true)/\i<=1500/\(rdH ts i=none->∀ H',Zn H H'->E (.ref g.NoText) none H')/\∀ h b,rdH ts i=some (h,b)->∀ p t H',Zn H H'->H' p=some (.tup h)->H' t=some (.tup [.ref p, .int b])->Q (.ref t) H'
noncomputable def ZaI (K:Frag)(g:Ga):Sp:=λ vs H Q E=>∃ x:Str,vs=[.str x]/\x.length<=1400/\PyData.strOk x=true/\(rdR x=none->∀ H',Zn H H'->E (.ref g.NoText) none H')/\∀ r,rdR x=some r->∀ t H',Zn H H'->RowAt H' t r->Q (.ref t) H'
noncomputable def Zb7 (K:Frag)(g:Ga):Sp:=λ vs H Q E=>∃(p:Addr)(ws:List V),vs=[.ref p]/\SqT K H p ws/\ws.length<=8/\(∀ v∈ws,(∃ n:Nat,n<10000/\v = .int n)\/∃ x:Str,x.length<=200/\v = .str x)/\∀ H',Zn H H'->Q (.str (txA ws)) H'
noncomputable def J5 (K:Frag)(g:Ga):Sp:=λ vs H Q E=>∃(p:Addr)(ws:List V),vs=[.ref p]/\SqT K H p ws/\ws.length<=8/\(∀ v∈ws,(∃ n:Nat,n<10000/\v = .int n)\/∃ x:Str,x.length<=200/\v = .str x)/\∀ H',Zn H H'->Q (.str (txA ws)) H'
noncomputable def XQ (K:Frag)(g:Ga):Sp:=λ vs H Q E=>∃(p:Addr)(h:List V),vs=[.ref p]/\SqT K H p h/\WH h/\∀ H',Zn H H'->Q (.str (Str.join spc (wdH h))) H'
noncomputable def Js (K:Frag)(g:Ga):Sp:=λ vs H Q E=>∃(l:Addr)(as:List (List V))(ps:List Addr)(s j:Str),vs=[.ref l, .str (spc++s++spc), .str (spc++j++spc)]/\AsAt H l as ps/\(∀ a∈as,WA a)/\as.length<=700/\s.length<=8/\j.length<=8/\∀ H',Zn H H'->Q (.str (apT s j as)) H'
noncomputable def ZaH (K:Frag)(g:Ga):Sp:=λ vs H Q E=>∃(t:Addr)(r:Rw),vs=[.ref t]/\RowAt H t r/\r.W/\(txR r).length<=1400/\r.2.1.length<=700/\r.2.2.length<=700/\∀ H',Zn H H'->Q (.str (txR r)) H'
noncomputable def Zbi (K:Frag)(g:Ga):Sp:=λ vs H Q E=>∃ i:Int,vs=[.int i]/\Q (.bl true) H
noncomputable def XN (K:Frag)(g:Ga):Sp:=λ vs H Q E=>∃(a:Addr)(ns:List Int)(k:Int),vs=[.ref a, .int k]/\SqL K H a (ns.map V.int)/\0<=k/\∀ c:Int,Q (.int c) H
noncomputable def ZaL (K:Frag)(g:Ga):Sp:=λ vs H Q E=>∃ c p:Int,vs=[.int c, .int p]/\∀ r:Int,Q (.int r) H
noncomputable def ZaJ (K:Frag)(g:Ga):Sp:=λ vs H Q E=>∃ n:Int,vs=[.int n]/\∀ z:Str,gw z=true->Q (.str z) H
noncomputable def ZaK (K:Frag)(g:Ga):Sp:=λ vs H Q E=>∃ n:Int,vs=[.int n]/\∀ z:Str,gw z=true->∀ H',Zn H H'->Q (.str z) H'
noncomputable def ZaN (K:Frag)(g:Ga):Sp:=λ vs H Q E=>∃ n:Int,vs=[.int n]/\∀ z:Str,pok z=true->∀ H',Zn H H'->Q (.str z) H'
noncomputable def XC (K:Frag)(g:Ga):Sp:=λ vs H Q E=>∃ n:Int,vs=[.int n]/\∀(ws:List V) p H',WA ws->Zn H H'->H p=none->H' p=some (.tup ws)->Q (.ref p) H'
noncomputable def XO (K:Frag)(g:Ga):Sp:=λ vs H Q E=>∃ n:Int,vs=[.int n]/\∀(r:Rw) t H',r.W->r.2.1.length+r.2.2.length<=12->Zn H H'->RowAt H' t r->Q (.ref t) H'
noncomputable def Xa (K:Frag)(g:Ga):Sp:=λ vs H Q E=>∃(p:Addr)(ws:List V),vs=[.ref p]/\SqT K H p ws/\WA ws/\Q (.str (txA ws)) H
noncomputable def XB (K:Frag)(g:Ga):Sp:=λ vs H Q E=>∃(t:Addr)(r:Rw),vs=[.ref t]/\RowAt H t r/\r.W/\r.2.1.length+r.2.2.length<=12/\∀ H',Zn H H'->Q (.str (txR r)) H'
noncomputable def Jp (K:Frag)(g:Ga):Sp:=λ vs H Q E=>∃(x:Str)(n:Int),vs=[.str x, .int n]/\x.length<=650/\PyData.strOk x=true/\∀ z:Str,z.length<=1400->PyData.strOk z=true->∀ H',Zn H H'->Q (.str z) H'
noncomputable def Ys (K:Frag)(g:Ga):Sp:=λ vs H Q E=>∃(p:Addr)(ws:List V),vs=[.ref p]/\SqT K H p ws/\(∀ v∈ws,(∃ n:Nat,n<10000/\v = .int n)\/∃ x:Str,x.length<=23/\PyData.strOk x=true/\v = .str x)/\Q (.bl true) H
noncomputable def XM (K:Frag)(g:Ga):Sp:=λ vs H Q E=>∃(p r:Addr)(ws:List V),vs=[.ref p, .ref r]/\H p=some (.tup ws)/\SqT K H r ws/\(∀ v∈ws,(∃ n:Nat,n<10000/\v = .int n)\/∃ x:Str,x.length<=23/\PyData.strOk x=true/\v = .str x)/\Q (.bl true) H
noncomputable def Xc (K:Frag)(g:Ga):Sp:=λ vs H Q E=>∃(l m:Addr)(as:List (List V))(ps qs:List Addr),vs=[.ref l, .ref m]/\AsAt H l as ps/\AsAt H m as qs/\(∀ a∈as,WA a)/\as.length<=700/\∀ H',Zn H H'->Q (.bl true) H'
noncomputable def Jr (K:Frag)(g:Ga):Sp:=λ vs H Q E=>∃(t u:Addr)(r:Rw),vs=[.ref t, .ref u]/\RowAt H t r/\RowAt H u r/\r.W/\r.2.1.length<=700/\r.2.2.length<=700/\∀ H',Zn H H'->Q (.bl true) H'
noncomputable def Y8 (K:Frag)(g:Ga):Sp:=λ vs H Q E=>∃ x:Str,vs=[.str x]/\gw x=true/\∀ H',Zn H H'->Q (.bl true) H'
noncomputable def Xb (K:Frag)(g:Ga):Sp:=λ vs H Q E=>∃ x:Str,vs=[.str x]/\pok x=true/\∀ H',Zn H H'->Q (.bl true) H'
noncomputable def Y9 (K:Frag)(g:Ga):Sp:=λ vs H Q E=>∃(p:Addr)(ws:List V),vs=[.ref p]/\SqT K H p ws/\WA ws/\∀ H',Zn H H'->Q (.bl true) H'
noncomputable def XA (K:Frag)(g:Ga):Sp:=λ vs H Q E=>∃(t:Addr)(r:Rw),vs=[.ref t]/\RowAt H t r/\r.W/\r.2.1.length<=700/\r.2.2.length<=700/\∀ H',Zn H H'->Q (.bl true) H'
noncomputable def ZaM (K:Frag)(g:Ga):Sp:=λ vs H Q E=>∃ x:Str,vs=[.str x]/\x.length<=1400/\PyData.strOk x=true/\(rdR x=none->∀ H',Zn H H'->Q .non H')/\∀ r,rdR x=some r->∀ t H',Zn H H'->RowAt H' t r->Q (.ref t) H'
noncomputable def Jq (K:Frag)(g:Ga):Sp:=λ vs H Q E=>vs=[]/\∀ l H',Zn H H'->H l=none->H' l=some (.lst (ZR.map V.str))->Q (.ref l) H'
noncomputable def Zcr (K:Frag)(g:Ga):Sp:=λ vs H Q E=>∃(a:Addr)(ns:List Int),vs=[.ref a]/\SqL K H a (ns.map V.int)/\ns.length<=63/\∀ H',Q (.bl true) H'
section
variable (P:Program)(w0:World)(K:Frag)(g:Ga)(mg:Str->Option Value)(base:Heap)
noncomputable abbrev Zah:Prop:=Dn P w0 K mg base 1 "within" ["text","low","high"] (Zb6 K g)
noncomputable abbrev Jf:Prop:=Dn P w0 K mg base 2 "good_word" ["word"] (J4 K g)
noncomputable abbrev ZaT:Prop:=Dx P w0 K mg base 3 "want_word" ["word"] (JX K g)
noncomputable abbrev Jy:Prop:=Dn P w0 K mg base 2 "good_number" ["text"] (XR K g)
noncomputable abbrev Zd4:Prop:=Dx P w0 K mg base 3 "parts" ["name"] (Zc1 K g)
noncomputable abbrev ZbP:Prop:=Dn P w0 K mg base 1 "is_class" ["holder"] (ZaO K g)
noncomputable abbrev Ju:Prop:=Dx P w0 K mg base 2 "read_number" ["text"] (XL K g)
noncomputable abbrev ZaU:Prop:=Dx P w0 K mg base 4 "read_word" ["text"] (JY K g)
noncomputable abbrev ZaW:Prop:=Dx P w0 K mg base 4 "read_name" ["text"] (J0 K g)
noncomputable abbrev ZaV:Prop:=Dx P w0 K mg base 5 "read_part" ["form","text"] (JZ K g)
noncomputable abbrev Xt:Prop:=Dx P w0 K mg base 6 "read_parts" ["forms","texts"] (Jo K g)
noncomputable abbrev Zch:Prop:=Dx P w0 K mg base 7 "atom_at" ["texts","at"] (Zbj K g)
noncomputable abbrev ZbQ:Prop:=Dx P w0 K mg base 8 "atoms_at" ["texts","at","opening","joint"] (ZaP K g)
noncomputable abbrev ZaX:Prop:=Dx P w0 K mg base 7 "holder_at" ["texts","at"] (J3 K g)
noncomputable abbrev ZbL:Prop:=Dx P w0 K mg base 9 "read_row" ["text"] (ZaI K g)
noncomputable abbrev ZbO:Prop:=Dn P w0 K mg base 1 "joined" ["things"] (Zb7 K g)
noncomputable abbrev ZaY:Prop:=Dn P w0 K mg base 2 "atom_text" ["atom"] (J5 K g)
noncomputable abbrev Jx:Prop:=Dn P w0 K mg base 2 "holder_text" ["holder"] (XQ K g)
noncomputable abbrev Zal:Prop:=Dn P w0 K mg base 3 "atoms_text" ["atoms","opening","joint"] (Js K g)
noncomputable abbrev ZbK:Prop:=Dn P w0 K mg base 4 "row_text" ["row"] (ZaH K g)
noncomputable abbrev Zcg:Prop:=Dn P w0 K mg base 1 "_law_num" ["_law_found"] (Zbi K g)
noncomputable abbrev Jv:Prop:=Dn P w0 K mg base 1 "_law_cell_at" ["_law_script","_law_k"] (XN K g)
noncomputable abbrev JR:Prop:=Dn P w0 K mg base 1 "_law_rich" ["_law_cell","_law_place"] (ZaL K g)
noncomputable abbrev ZbM:Prop:=Dn P w0 K mg base 1 "_law_word" ["_law_n"] (ZaJ K g)
noncomputable abbrev JQ:Prop:=Dn P w0 K mg base 2 "_law_said" ["_law_n"] (ZaK K g)
noncomputable abbrev JS:Prop:=Dn P w0 K mg base 3 "_law_name" ["_law_n"] (ZaN K g)
noncomputable abbrev Je:Prop:=Dn P w0 K mg base 4 "_law_any_need" ["_law_n"] (XC K g)
noncomputable abbrev Jw:Prop:=Dn P w0 K mg base 5 "_law_any_row" ["_law_m"] (XO K g)
noncomputable abbrev XH:Prop:=Dn P w0 K mg base 1 "_law_need_text" ["_law_atom"] (Xa K g)
noncomputable abbrev Jd:Prop:=Dn P w0 K mg base 2 "_law_row_text" ["_law_row"] (XB K g)
noncomputable abbrev Zai:Prop:=Dn P w0 K mg base 1 "_law_spoilt" ["_law_text","_law_n"] (Jp K g)
noncomputable abbrev YH:Prop:=Dn P w0 K mg base 2 "_law_whole_numbers" ["_law_found"] (Ys K g)
noncomputable abbrev Y6:Prop:=Dn P w0 K mg base 3 "_law_is_need" ["_law_found","_law_due"] (XM K g)
noncomputable abbrev XI:Prop:=Dn P w0 K mg base 4 "_law_are_needs" ["_law_found","_law_due"] (Xc K g)
noncomputable abbrev Zak:Prop:=Dn P w0 K mg base 5 "_law_is_row" ["_law_found","_law_due"] (Jr K g)
noncomputable abbrev YE:Prop:=Dn P w0 K mg base 1 "_law_word_well" ["_law_word_here"] (Y8 K g)
noncomputable abbrev YF:Prop:=Dn P w0 K mg base 2 "_law_name_well" ["_law_name_here"] (Xb K g)
noncomputable abbrev XG:Prop:=Dn P w0 K mg base 3 "_law_need_well" ["_law_atom"] (Y9 K g)
noncomputable abbrev Jc:Prop:=Dn P w0 K mg base 4 "_law_row_well" ["_law_row"] (XA K g)
noncomputable abbrev ZbN:Prop:=Dn P w0 K mg base 10 "_law_read" ["_law_text"] (ZaM K g)
noncomputable abbrev Zaj:Prop:=Dn P w0 K mg base 1 "_law_nearly" [] (Jq K g)
end
section
variable {P:Program}{w0:World}{K:Frag}{g:Ga}{mg:Str->Option Value}{base:Heap}
theorem Zes {f:Addr}{fd:FuncData}(F:Fun K "within" "within" Zbp f fd)(T:Txt K g mg w0)  : FnOk P w0 K mg base CX0 1 f fd ["text","low","high"] (Zb6 K g):=by
  refine F.ok Zb9 (λ vs H Q E h=>?_) (λ cdv A outer s H vs Q E hr h=>?_)
  . obtain⟨x,a,b,rfl,_⟩:=h;rfl
  obtain⟨x,a,b,rfl,q⟩:=h;refine⟨_,(
(Zf (YO PassesOwn.never rfl (Ze8 (pv 0)) (Zx (i:=3) Zb9.nd rfl (Or.inl rfl))
 (Zg (ZI (PW.pt (XD (Zo Zeo (pv 3) (pv 1) (Zu _)) (Y4 (Zo Zer (pv 3) (pv 2) (Zu _)))))
 (Zg (Zl YG))
 Zs)))
 (Zg (Zl YG)))),?_⟩
  have fin:∀ v,v=x.cps.toList.all (inR a b)->Q (.bl v) H:=λ v hv=>by rw[hv];exact q
  refine⟨_,rfl,x,rfl,Zgb (λ i σ H2=>H2=H/\(x.cps.toList.take i).all (inR a b)=true/\∃ v,σ=[some (.str x),some (.str ⟨#[a]⟩),some (.str ⟨#[b]⟩),v]) ⟨rfl,rfl,_,rfl⟩ ?_ ?_⟩
  . rintro i c σ H2 hc ⟨rfl,ha,v,rfl⟩;refine⟨_,rfl,_,rfl,_,_,rfl,rfl,_,rfl,?_⟩;refine Yb (λ e=>Xg ?_) (λ e=>?_)
    . have e':c<a:=(ZcP c a).mp (of_decide_eq_true e);exact fin _ (Zd7 hc (by unfold inR;rw[decide_eq_false (by omega)];rfl)).symm
    . have e':¬ c<a:=λ z=>e (decide_eq_true ((ZcP c a).mpr z));refine⟨_,rfl,_,rfl,_,_,rfl,rfl,_,rfl,?_⟩;refine Yb (λ f=>?_) (λ f=>?_)
      . have f':b<c:=(ZcP b c).mp (of_decide_eq_true f);exact fin _ (Zd7 hc (by unfold inR;rw[decide_eq_false (show ¬ c<=b by omega),Bool.and_false])).symm
      . have f':¬ b<c:=λ z=>f (decide_eq_true ((ZcP b c).mpr z));exact⟨rfl,ZfG ha hc (by unfold inR;rw[decide_eq_true (show a<=c by omega),decide_eq_true (show c<=b by omega)];rfl),_,rfl⟩
  . rintro σ H2 ⟨rfl,ha,v,rfl⟩;rw[take_length]at ha;exact fin _ ha.symm
theorem ZcM {f:Addr}{fd:FuncData}(F:Fun K "good_word" "good_word" X0 f fd)(T:Txt K g mg w0)(Qac:Zah P w0 K g mg base):FnOk P w0 K mg base CX0 2 f fd ["word"] (J4 K g):=by
  refine F.ok Zcx (λ vs H Q E h=>?_) (λ cdv A outer s H vs Q E hr h=>?_)
  . obtain⟨x,rfl,_⟩:=h;rfl
  obtain⟨x,rfl,hx,q⟩:=h;refine⟨_,(
(Zg (Zl (Xq (Zbv Zca Zca Zd (Zq Zw rfl T.z_len boot_len (Za (pv 0) Zb)) (YJ (v:=.int 8) rfl T.Qbw ⟨_,rfl⟩)) (Xq (Zy Qac (h_ hr) (Za (pv 0) (Za Zh (Za Zh Zb)))) (Zaw (YK Zab (pv 0) (YJ (v:=.ref g.BARRED) rfl T.Qbz rfl) rfl))))))),?_⟩
  have fin:∀ v,v=gw x->Q (.bl v) H:=λ v hv=>by rw[hv];exact q
  refine⟨_,rfl,_,_,rfl,⟨Zm (by omega),rfl⟩,_,_,rfl,rfl,_,rfl,?_⟩;refine Yb (λ c=>?_) (λ c=>?_)
  . have c':1<=x.length:=by have:=of_decide_eq_true c;omega
    refine⟨_,_,rfl,rfl,_,rfl,?_⟩;refine Yb (λ d=>?_) (λ d=>?_)
    . have d':x.length<=8:=by have:=of_decide_eq_true d;omega
      refine⟨_,rfl,x,97,122,rfl,_,rfl,?_⟩;refine Yb (λ e=>?_) (λ e=>?_)
      . refine⟨_,rfl,g.BARRED,_,rfl, .inr (T.Qbv _),rfl,rfl,fin _ ?_⟩;unfold gw;rw[decide_eq_true c',decide_eq_true d',e];show(!(eqV (.str "crown") (.str x) || (eqV (.str "kids") (.str x) || false)))=_;show(!(("crown":Str) == x || (("kids":Str) == x || false)))=(!(decide (x="crown") || decide (x="kids")));rw[Bool.or_false,Zd6,Zd6]
      . refine fin _ ?_;unfold gw;rw[Bool.eq_false_iff.mpr e,Bool.and_false];rfl
    . refine fin _ ?_;unfold gw;rw[decide_eq_false (show ¬ x.length<=8 from λ z=>d (decide_eq_true (by omega))),Bool.and_false];rfl
  . refine⟨_,rfl,Yi ?_⟩;refine fin _ ?_;unfold gw;rw[decide_eq_false (show ¬ 1<=x.length from λ z=>c (decide_eq_true (by omega)))];rfl
theorem ZcG {f:Addr}{fd:FuncData}(F:Fun K "want_word" "want_word" XV f fd)(T:Txt K g mg w0)(Qah:Jf P w0 K g mg base):FnOk P w0 K mg base (CXR P w0 base) 3 f fd ["word"] (JX K g):=by
  refine F.okX Zct (λ vs H Q E h=>?_) (λ cdv A outer s H vs Q E hr h=>?_)
  . obtain⟨x,rfl,_⟩:=h;rfl
  obtain⟨x,rfl,hx,qe,q⟩:=h;refine⟨_,(
(Zg (ZI (Yj (Ya (Zy Qah (h_ hr) (Za (pv 0) Zb))))
 (Zg (Yu T.Qae.x T.Qab Zh))
 Zs))),?_⟩
  refine⟨_,rfl,x,rfl,hx,_,rfl,?_⟩;cases hg:gw x with
  |false=>exact Xg ⟨rfl,qe hg⟩
  |true=>exact Yi (q hg)
theorem ZbB {f:Addr}{fd:FuncData}(F:Fun K "good_number" "good_number" Y3 f fd)(T:Txt K g mg w0)(Qac:Zah P w0 K g mg base):FnOk P w0 K mg base CX0 2 f fd ["text"] (XR K g):=by
  refine F.ok Zbn (λ vs H Q E h=>?_) (λ cdv A outer s H vs Q E hr h=>?_)
  . obtain⟨x,rfl,_⟩:=h;rfl
  obtain⟨x,rfl,hx,q⟩:=h;refine⟨_,(
(Zg (Zl (Xq (Zbv Zca Zca Zd (Zq Zw rfl T.z_len boot_len (Za (pv 0) Zb)) (YJ (v:=.int 2) rfl T.Qbx ⟨_,rfl⟩)) (Xq (Zy Qac (h_ hr) (Za (pv 0) (Za Zh (Za Zh Zb)))) (Zaw (YK Zac (ZC ZbD (pv 0) Zd (λ _ _=>rfl)) Zh (Zu _)))))))),?_⟩
  have fin:∀ v,v=gn x->Q (.bl v) H:=λ v hv=>by rw[hv];exact q
  refine⟨_,rfl,_,_,rfl,⟨Zm (by omega),rfl⟩,_,_,rfl,rfl,_,rfl,?_⟩;refine Yb (λ c=>?_) (λ c=>?_)
  . have c':1<=x.length:=by have:=of_decide_eq_true c;omega
    refine⟨_,_,rfl,rfl,_,rfl,?_⟩;refine Yb (λ d=>?_) (λ d=>?_)
    . have d':x.length<=2:=by have:=of_decide_eq_true d;omega
      refine⟨_,rfl,x,48,57,rfl,_,rfl,?_⟩;refine Yb (λ e=>?_) (λ e=>?_)
      . have hl:x.cps.toList.length=x.length:=length_toList;obtain⟨c0,hc0⟩:∃ c0,x.cps.toList[0]? = some c0:=⟨_,getElem?_eq_getElem (by omega)⟩;have hat:atI x.cps.toList ((0:Nat):Int)=some c0:=ZE hc0;refine⟨_,rfl,x,_,c0,rfl,rfl,Zm (by omega),hat,rfl,fin _ ?_⟩;unfold gn;rw[decide_eq_true c',decide_eq_true d',e];show(!decide (V.str ⟨#[c0]⟩=V.str "0"))=(!decide (x.cps.toList.head? = some 48));have z:(V.str ⟨#[c0]⟩=V.str "0")↔c0=48:=by
          rw[show("0":Str)=⟨#[48]⟩ by decide +kernel];constructor
          . intro w;injection w with w;injection w with w;simpa using w
          . rintro rfl;rfl
        rw[List.head?_eq_getElem?,hc0];congr 1;rw[Bool.eq_iff_iff,decide_eq_true_iff,decide_eq_true_iff,z];simp
      . refine fin _ ?_;unfold gn;rw[Bool.eq_false_iff.mpr e,Bool.and_false];rfl
    . refine fin _ ?_;unfold gn;rw[decide_eq_false (show ¬ x.length<=2 from λ z=>d (decide_eq_true (by omega))),Bool.and_false];rfl
  . refine⟨_,rfl,Yi ?_⟩;refine fin _ ?_;unfold gn;rw[decide_eq_false (show ¬ 1<=x.length from λ z=>c (decide_eq_true (by omega)))];rfl
theorem Zad {f:Addr}{fd:FuncData}(F:Fun K "parts" "parts" Zcz f fd)(T:Txt K g mg w0)(Qah:Jf P w0 K g mg base)(QaE:Jy P w0 K g mg base):FnOk P w0 K mg base (CXR P w0 base) 3 f fd ["name"] (Zc1 K g):=by
  refine F.okX J7 (λ vs H Q E h=>?_) (λ cdv A outer s H vs Q E hr h=>?_)
  . obtain⟨x,rfl,_⟩:=h;rfl
  obtain⟨x,rfl,hx,qe,q⟩:=h;refine⟨_,(
(Zf (JO (X3 plainAttrs_str PySem.F.slot_str_split PySem.F.type_str_split Zae (pv 0) (Za Zh Zb)) (ZfZ rfl (ZB (Zx (i:=1) J7.nd rfl (Or.inl rfl)) (ZB (Zx (i:=2) J7.nd rfl (Or.inl rfl)) Yq))))
 (Zf (ZI (PW.pt (XD (Yj (Ya (Zy Qah (h_ hr) (Za (pv 1) Zb)))) (Y4 (Zo ZdV (Zq Zw rfl T.z_len boot_len (Za (pv 2) Zb)) (YJ (v:=.int 5) rfl T.Qby ⟨_,rfl⟩) (Zu _)))))
 (Zg (Yu T.Qae.x T.Qab Zh))
 Zs)
 (Zf (YO PassesOwn.leaving rfl (Jh (pv 2)) (Zx (i:=3) J7.nd rfl (Or.inl rfl))
 (Zg (ZI (Yj (Ya (Zy QaE (h_ hr) (Za (pv 3) Zb))))
 (Zg (Yu T.Qae.x T.Qab Zh))
 Zs)))
 (Zg (Zl (Zi Xr (Ye (Za (pv 1) Zb)) (Zbt (x:="number") (cl:=[]) (caps:=[]) rfl (Jh (pv 2)) (λ _ _ _ _ _=>X2) (λ _ _ _ _ _=>(ZP Jz rfl T.z_int PyProof.Rows.boot_int (Za (pv 0) Zb))) rfl (by decide +kernel) rfl (by decide +kernel) rfl (λ _ _ h=>nomatch h) (Ja rfl) (λ p hp=>nomatch hp) (by decide +kernel))))))))),?_⟩
  have h2:(Builtin.Str.partsBetween x (Builtin.Str.occurrences x dot 0 x.length (x.length+1)) dot.length).length<=sizeLine:=by
    rw[PyProof.Rows.len_partsBetween];have:=StrLaws.occ_length_le x dot 0 x.length (x.length+1);exact Zm (by omega)
  have nl:=Zf3 x;refine⟨_,rfl,rfl,x,dot,rfl,rfl,by decide +kernel,Zm (by omega),h2,λ l hl=>?_⟩;have s1:=Ze hl (.lst ((Txt.split x dot).map V.str));have pe:(Txt.split x dot).map V.str = .str (wd x)::(nms x).map V.str:=by rw[show Txt.split x dot=wd x::nms x from YR x];rfl
  refine⟨l, .str (wd x),(nms x).map V.str,rfl,SqL.of (by rw[Zc,pe]),by rw[length_map];omega,λ D hD=>?_⟩;have s2:=s1.trans (Ze hD (.lst ((nms x).map V.str)));have hD2:upd (upd H l (.lst ((Txt.split x dot).map V.str))) D (.lst ((nms x).map V.str)) D=some (.lst ((nms x).map V.str)):=Zc;generalize upd (upd H l (.lst ((Txt.split x dot).map V.str))) D (.lst ((nms x).map V.str))=H2 at *;have wl:(wd x).length<=1400:=le_trans (Zfb (x:=x) (by rw[YR];exact mem_cons_self ..)) hx;have pl:∀ p∈nms x,p.length<=1400:=λ p hp=>le_trans (Zfb (x:=x) (by rw[YR];exact mem_cons_of_mem _ hp)) hx;refine⟨_,_,rfl,_,_,rfl,rfl,?_⟩;refine⟨_,rfl,wd x,rfl,wl,_,rfl,?_⟩;cases g1:gw (wd x) with
  |false=>
    refine Xg ?_;refine Xg ⟨rfl,qe (by unfold pok;rw[g1];rfl) H2 s2⟩
  |true=>
    refine Yi ?_;refine⟨_,rfl,_,_,rfl, .inl ⟨_,SqL.of hD2,rfl⟩,_,_,rfl,rfl,_,rfl,?_⟩;refine Yb (λ c=>?_) (λ c=>?_)
    . have c':¬ (nms x).length<=5:=by have:=of_decide_eq_true c;rw[length_map]at this;omega
      exact⟨rfl,qe (by unfold pok;rw[g1,decide_eq_false c'];rfl) H2 s2⟩
    . have c':(nms x).length<=5:=by
        have c2:¬ ((5:Int)<(((nms x).map V.str).length:Nat)):=λ z=>c (decide_eq_true z);rw[length_map]at c2;omega
      refine⟨_,rfl,D,rfl,⟨_,SqL.of hD2⟩,ZbI (xs:=(nms x).map V.str) (λ i σ H3=>H3=H2/\((nms x).take i).all gn=true/\∃ v,σ=[some (.str x),some (.str (wd x)),some (.ref D),v]) ⟨rfl,rfl,_,rfl⟩ ?_ ?_ ?_⟩
      . rintro i σ H3 _ ⟨rfl,_⟩;exact SqL.of hD2
      . rintro i v σ H3 hv ⟨rfl,ha,w,rfl⟩;rw[getElem?_map]at hv;have ci:i<(nms x).length:=by
          cases z:(nms x)[i]? with
          |none=>rw[z]at hv;cases hv
          |some y=>exact(List.getElem?_eq_some_iff.mp z).1
        rw[getElem?_eq_getElem ci]at hv;cases hv;refine⟨_,rfl,(nms x)[i],rfl,pl _ (getElem_mem ci),_,rfl,?_⟩;cases g2:gn (nms x)[i] with
        |false=>
          refine Xg ⟨rfl,qe ?_ H3 s2⟩;unfold pok;have z:(nms x).all gn=false:=by
            cases e:(nms x).all gn with
            |false=>rfl
            |true=>
              have:=List.all_eq_true.mp e _ (getElem_mem ci);rw[g2]at this;cases this
          rw[z,Bool.and_false]
        |true=>
          refine Yi ⟨rfl,?_,_,rfl⟩;rw[take_succ,getElem?_eq_getElem ci,all_append,ha];simp[g2]
      . rintro σ H3 ⟨rfl,ha,w,rfl⟩;rw[length_map,take_length]at ha;have pk:pok x=true:=by unfold pok;rw[g1,decide_eq_true c',ha];rfl
        refine⟨_,rfl,(by show 1<=sizeLine;decide),λ b1 hb1=>?_⟩;have s3:=Ze hb1 (.lst [V.str (wd x)]);have hb1':upd H3 b1 (.lst [V.str (wd x)]) b1=some (.lst [V.str (wd x)]):=Zc;have hD3:=s3 _ _ hD2;generalize upd H3 b1 (.lst [V.str (wd x)])=H4 at *;refine⟨_,rfl,D,rfl,⟨_,SqL.of hD3⟩,λ E1 hE1=>⟨λ i m H5=>i<=(nms x).length/\m=(nms x).length - i/\Zn H4 H5/\H5 E1=some (.lst (((nms x).take i).map λ p=>V.int (iv p))),⟨(nms x).length,zero_le _,rfl,Ze hE1 _,Zc⟩,?_⟩⟩;rintro i m H5 ⟨hi,rfl,s5,hE5⟩
        by_cases ci:i<(nms x).length
        . refine .inr ⟨⟨_, .str (nms x)[i],s5.seq (SqL.of hD3),by simp[ci]⟩,λ v H' ⟨e,ev⟩=>?_⟩;subst e;have ev':=ev _ (s5.seq (SqL.of hD3));rw[getElem?_map,getElem?_eq_getElem ci]at ev';cases ev';refine Zbc ?_;have g3:=List.all_eq_true.mp ha _ (getElem_mem ci);refine⟨_,rfl,(nms x)[i],_,rfl,(iv_gn g3).1,gn_640 g3,_,(nms x).length - (i+1),hE5,Yw (by rw[length_map,length_take];omega),by omega,ci,rfl,Z7 s5 hE1,?_⟩;rw[Zc,<- Zec ci,map_append];rfl
        . have e:i=(nms x).length:=by omega
          subst e;rw[take_length]at hE5;refine .inl ⟨⟨_,s5.seq (SqL.of hD3),by rw[length_map];exact le_refl _⟩,?_⟩;refine⟨b1,E1,_,_,rfl,rfl,s5 _ _ hb1',hE5,le_of_lt (Yw (by rw[length_map];show 1+(nms x).length<=4000;omega)),λ R hR=>?_⟩;have s6:=(s2.trans s3).trans s5;exact q pk R _ (s6.trans (Ze hR _)) (s6.free hR) Zc
theorem Zdd {f:Addr}{fd:FuncData}(F:Fun K "is_class" "is_class" JM f fd)(T:Txt K g mg w0)  : FnOk P w0 K mg base CX0 1 f fd ["holder"] (ZaO K g):=by
  refine F.ok Zc3 (λ vs H Q E h=>?_) (λ cdv A outer s H vs Q E hr h=>?_)
  . obtain⟨p,h,rfl,_⟩:=h;rfl
  obtain⟨p,h,rfl,hp,w,q⟩:=h;refine⟨_,(
(Zg (Zl (YK Z0 (ZC ZO (pv 0) Zd (λ _ _=>rfl)) Zh (Zu _))))),?_⟩
  rcases w with ⟨n,hn,rfl⟩|⟨n,i,hn,hi,rfl⟩
  . walk_at "g";exact q
  . walk_at "g";exact q
theorem Zbw {f:Addr}{fd:FuncData}(F:Fun K "read_number" "read_number" YY f fd)(T:Txt K g mg w0)(Qac:Zah P w0 K g mg base):FnOk P w0 K mg base (CXR P w0 base) 2 f fd ["text"] (XL K g):=by
  refine F.okX XS (λ vs H Q E h=>?_) (λ cdv A outer s H vs Q E hr h=>?_)
  . obtain⟨x,rfl,_⟩:=h;rfl
  obtain⟨x,rfl,hx,qe,q⟩:=h;refine⟨_,(
(Zf (Zr (i:=1) XS.nd rfl (Or.inl rfl) (Xq (Zbv Zca Zca Zd (Zq Zw rfl T.z_len boot_len (Za (pv 0) Zb)) (YJ (v:=.int 4) rfl T.QbA ⟨_,rfl⟩)) (Zaw (Zy Qac (h_ hr) (Za (pv 0) (Za Zh (Za Zh Zb)))))))
 (Zf (ZI (PW.pt (XD (Yj (Ya (pv 1))) (Y4 (PW.pt (ZcC (Zo Z0 (ZC ZbD (pv 0) Zd (λ _ _=>rfl)) Zh (Zu _)) (Za6 (Zo Zac (pv 0) Zh (Zu _))))))))
 (Zg (Yu T.Qae.x T.Qab Zh))
 Zs)
 (Zg (Zl (ZP Jz rfl T.z_int PyProof.Rows.boot_int (Za (pv 0) Zb))))))),?_⟩
  rw[rdV_n]at qe q;walk_at "g";refine⟨⟨Zm (by omega),rfl⟩,?_⟩;walk_at "g";refine Yb (λ c1=>?_) (λ c1=>?_)
  rotate_left
  . have n1:nok x=false:=by
      unfold nok;rw[decide_eq_false (λ z=>c1 (decide_eq_true (by omega)))];rfl
    walk_at "g";exact qe (by rw[if_neg (by rw[n1];decide)]) H (Zn.refl _)
  walk_at "g";refine Yb (λ c2=>?_) (λ c2=>?_)
  rotate_left
  . have n1:nok x=false:=by
      unfold nok;rw[decide_eq_false (show ¬ x.length<=4 from λ z=>c2 (decide_eq_true (by omega))),Bool.and_false];rfl
    walk_at "g";exact qe (by rw[if_neg (by rw[n1];decide)]) H (Zn.refl _)
  refine⟨_,rfl,x,48,57,rfl,?_⟩;walk_at "g";cases c3:x.cps.toList.all (inR 48 57) with
  |false=>
    have n1:nok x=false:=by
      unfold nok;rw[c3,Bool.and_false];rfl
    walk_at "g";exact qe (by rw[if_neg (by rw[n1];decide)]) H (Zn.refl _)
  |true=>
    have c1':=of_decide_eq_true c1;have c2':=of_decide_eq_true c2;obtain⟨c,r,hcr⟩:∃ c r,x.cps.toList=c::r:=by
      cases e:x.cps.toList with
      |nil=>
        have hl:x.cps.toList.length=x.length:=length_toList;rw[e]at hl;have hl':0=x.length:=hl;omega
      |cons c r=>exact⟨c,r,rfl⟩
    have ec:decide (V.str ⟨#[c]⟩=V.str "0")=decide (x.cps.toList.head? = some 48):=by
      rw[hcr];refine decide_eq_decide.mpr ⟨λ e=>?_,λ e=>?_⟩
      . have e1:(⟨#[c]⟩:Str)=⟨#[48]⟩:=by injection e
        have e2:=congrArg (λ z:Str=>z.cps.toList) e1;have e3:[c]=[48]:=e2;cases e3;rfl
      . have e3:c=48:=Option.some.inj e;rw[e3];rfl
    have en:decide (V.str x=V.str "0")=decide (x="0"):=decide_eq_decide.mpr ⟨λ e=>by injection e,λ e=>by rw[e]⟩;have nk:nok x = !(decide (x.cps.toList.head? = some 48) && !decide (x="0")):=by
      unfold nok;rw[c3,decide_eq_true (show 1<=x.length by omega),decide_eq_true (show x.length<=4 by omega)];rfl
    have fin:nok x=true->∃ n:Int,PySem.intText? x=some n/\x.length<=640/\Q (V.int n) H:=λ hk=>by
      obtain⟨n,hn,rfl⟩:=Za8 hk;refine⟨n,(ZbE hn).1,by omega,?_⟩;have z:=q (.int n) (by rw[if_pos hk,(ZbE hn).2]) H (Zn.refl _);exact z
    walk_at "g";refine⟨Zm (by omega),(by rw[hcr];exact ZE (j:=0) rfl),?_⟩;walk_at "g";rw[ec];cases c5:decide (x.cps.toList.head? = some 48) with
    |false=>
      rw[c5]at nk;obtain⟨n,f1,f2,f3⟩:=fin nk;walk_at "g";exact f3
    |true=>
      rw[c5]at nk;walk_at "g";dsimp only;rw[en];cases c6:decide (x="0") with
      |false=>
        rw[c6]at nk;refine Xg ?_;walk_at "g";exact qe (by rw[if_neg (by rw[nk];decide)]) H (Zn.refl _)
      |true=>
        rw[c6]at nk;obtain⟨n,f1,f2,f3⟩:=fin nk;refine Yi ?_;walk_at "g";exact f3
theorem ZcH {f:Addr}{fd:FuncData}(F:Fun K "read_word" "read_word" XW f fd)(T:Txt K g mg w0)(QaF:ZaT P w0 K g mg base):FnOk P w0 K mg base (CXR P w0 base) 4 f fd ["text"] (JY K g):=by
  refine F.okX Zcu (λ vs H Q E h=>?_) (λ cdv A outer s H vs Q E hr h=>?_)
  . obtain⟨x,rfl,_⟩:=h;rfl
  obtain⟨x,rfl,hx,qe,q⟩:=h;refine⟨_,(
(Zf (Za7 (Y5 XF QaF (h_ hr) (Za (pv 0) Zb)))
 (Zg (Zl (pv 0))))),?_⟩
  walk_at "g";rw[rdV_w]at qe q;exact⟨λ e=>qe (by rw[if_neg (by rw[e];decide)]) H (Zn.refl _),λ e=>⟨_,rfl,q _ (by rw[if_pos e]) H (Zn.refl _)⟩⟩
theorem ZcJ {f:Addr}{fd:FuncData}(F:Fun K "read_name" "read_name" XY f fd)(T:Txt K g mg w0)(QaG:Zd4 P w0 K g mg base):FnOk P w0 K mg base (CXR P w0 base) 4 f fd ["text"] (J0 K g):=by
  refine F.okX Zcv (λ vs H Q E h=>?_) (λ cdv A outer s H vs Q E hr h=>?_)
  . obtain⟨x,rfl,_⟩:=h;rfl
  obtain⟨x,rfl,hx,qe,q⟩:=h;refine⟨_,(
(Zf (Za7 (Y5 XF QaG (h_ hr) (Za (pv 0) Zb)))
 (Zg (Zl (pv 0))))),?_⟩
  walk_at "g";rw[rdV_m]at qe q;exact⟨λ e H' s1=>qe (by rw[if_neg (by rw[e];decide)]) H' s1,λ e l H' s1 _ _=>⟨_,rfl,q _ (by rw[if_pos e]) H' s1⟩⟩
theorem ZcI {f:Addr}{fd:FuncData}(F:Fun K "read_part" "read_part" XX f fd)(T:Txt K g mg w0)(QaH:Ju P w0 K g mg base)(QaI:ZaU P w0 K g mg base)(QaJ:ZaW P w0 K g mg base):FnOk P w0 K mg base (CXR P w0 base) 5 f fd ["form","text"] (JZ K g):=by
  refine F.okX J6 (λ vs H Q E h=>?_) (λ cdv A outer s H vs Q E hr h=>?_)
  . obtain⟨f_,x,rfl,_⟩:=h;rfl
  obtain⟨f_,x,rfl,hf,hx,qe,q⟩:=h;refine⟨_,(
(Zf (Zr (i:=2) J6.nd rfl (Or.inl rfl) (ZcE (YJ (v:=.ref g.READERS) rfl T.QbB rfl) (pv 0) (λ _ _=>rfl)))
 (Zg (Zl (Ze9 (pv 2) (Za (pv 1) Zb)))))),?_⟩
  have rd:=T.d_READERS;have v1:Zbb [("number",V.ref g.read_number),("word",V.ref g.read_word),("name",V.ref g.read_name)] "number"=some (V.ref g.read_number):=rfl;have v2:Zbb [("number",V.ref g.read_number),("word",V.ref g.read_word),("name",V.ref g.read_name)] "word"=some (V.ref g.read_word):=rfl;have v3:Zbb [("number",V.ref g.read_number),("word",V.ref g.read_word),("name",V.ref g.read_name)] "name"=some (V.ref g.read_name):=rfl;rcases hf with rfl|rfl|rfl
  . walk_at "g";exact⟨FnV.of QaH T.m_read_number (h_ hr) XF,_,rfl,x,rfl,hx,qe,q⟩
  . walk_at "g";exact⟨FnV.of QaI T.m_read_word (h_ hr) XF,_,rfl,x,rfl,hx,qe,q⟩
  . walk_at "g";exact⟨FnV.of QaJ T.m_read_name (h_ hr) XF,_,rfl,x,rfl,hx,qe,q⟩
theorem ZbX {f:Addr}{fd:FuncData}(F:Fun K "read_parts" "read_parts" Xk f fd)(T:Txt K g mg w0)(QaK:ZaV P w0 K g mg base):FnOk P w0 K mg base (CXR P w0 base) 6 f fd ["forms","texts"] (Jo K g):=by
  refine F.okX ZbU (λ vs H Q E h=>?_) (λ cdv A outer s H vs Q E hr h=>?_)
  . obtain⟨fa,ta,fs,xs,rfl,_⟩:=h;rfl
  obtain⟨fa,ta,fs,xs,rfl,hf,hx,kn,f5,x2,qe,q⟩:=h;refine⟨_,(
(Zf (ZI (Zo Zac (Zq Zw rfl T.z_len boot_len (Za (pv 1) Zb)) (Zq Zw rfl T.z_len boot_len (Za (pv 0) Zb)) (Zu _))
 (Zg (Yu T.Qae.x T.Qab Zh))
 Zs)
 (Zg (Zl (ZP Zb2 rfl T.z_tuple PyProof.Rows.boot_tuple (Za (Zf0 (xs:=["form","text"]) (cl:=[]) (caps:=[]) rfl (pi_zip rfl T.z_zip (Za (pv 0) (Za (pv 1) Zb))) (λ _ _ _ _ _=>show PG _ _ (gTup K 2 (Zfu (Zdk 0) (Zfu (Zdk 1) gNil))) from Xp rfl (ZB (Zx (i:=0) (show List.Nodup (["form","text"]:List Str) by decide +kernel) rfl (Or.inl rfl)) (ZB (Zx (i:=1) (show List.Nodup (["form","text"]:List Str) by decide +kernel) rfl (Or.inl rfl)) Yq))) (λ _ _ _ _ _=>X2) (λ _ _ _ _ _=>Y5 passC QaK (h_ hr) (Za (pv 0) (Za (pv 1) Zb))) rfl (by decide +kernel) rfl (by decide +kernel) (λ _ _ h=>nomatch h) (Ja rfl) (λ p hp=>nomatch hp)) Zb)))))),?_⟩
  walk_at "g";refine⟨.inl ⟨_,hx,rfl⟩,?_⟩;walk_at "g";refine⟨.inr ⟨_,hf,rfl⟩,?_⟩;walk_at "g";dsimp only
  by_cases hl:xs.length=fs.length
  rotate_left
  . rw[decide_eq_false (show ¬ V.int ((xs.map V.str).length:Int)=V.int ((fs.map V.str).length:Int) from λ e=>hl (by injection e with e;rw[length_map,length_map]at e;omega))];refine Xg ?_;walk_at "g";exact qe (ZeZ hl) H (Zn.refl _)
  rw[decide_eq_true (show V.int ((xs.map V.str).length:Int)=V.int ((fs.map V.str).length:Int) from by rw[length_map,length_map,hl])];refine Yi ?_;unfold YS;walk_at "g";refine⟨⟨_,hf⟩,⟨_,hx⟩,λ D hD=>?_⟩;refine⟨λ i m H2=>i<=fs.length/\m=fs.length - i/\Zn H H2/\∃ ys,ZX (fs.take i) (xs.take i)=some ys/\H2 D=some (.lst ys),⟨fs.length,zero_le _,rfl,Ze hD _,[],rfl,Zc⟩,?_⟩;rintro i m H2 ⟨hi,rfl,s2,ys,hy,hD2⟩;have hf2:=s2.tupq hf;have hx2:=s2.seq hx;have yl:ys.length<=5:=by
    have:=(YI hy).2.1;rw[length_take]at this;omega
  by_cases ci:i<fs.length
  . have ci2:i<xs.length:=by omega
    refine .inr ⟨⟨_,_,_,_,hf2,hx2,by rw[getElem?_map,getElem?_eq_getElem ci];rfl,by rw[getElem?_map,getElem?_eq_getElem ci2];rfl⟩,λ x1 H3 hy1 vals hv=>?_⟩;obtain⟨T1,u1,u2,nT,rfl,e1,e2,rfl⟩:=hy1;have e1':=e1 _ hf2;rw[getElem?_map,getElem?_eq_getElem ci]at e1';cases e1';have e2':=e2 _ hx2;rw[getElem?_map,getElem?_eq_getElem ci2]at e2';cases e2';have nx:=Zei hl ci;rw[hy]at nx;have s3:=Ze nT (.tup [.str fs[i], .str xs[i]]);have sD:=s3 _ _ hD2
    match vals,hv with
    |[w1,w2],_=>
      refine⟨T1,_,rfl,SqT.of Zc,rfl,?_⟩;refine⟨_,_,rfl,_,_,rfl,rfl,[some (.str fs[i]),some (.str xs[i])],rfl,rfl,Zbc ?_⟩;refine⟨_,rfl,_,rfl,fs[i],xs[i],rfl,kn _ (getElem_mem _),x2 _ (getElem_mem _),λ e H' s4=>?_,λ v e H' s4=>?_⟩
      . refine qe (Zeh (i:=i+1) hl ?_) H' (s2.trans (s3.trans s4));rw[nx,e];rfl
      . rw[e]at nx;refine⟨ys,fs.length - (i+1),s4 _ _ sD,Yw (by omega),by omega,ci,rfl,Z7 (s2.trans (s3.trans s4)) hD,ys++[v],nx,Zc⟩
  . have e:i=fs.length:=by omega
    subst e;rw[take_length,show fs.length=xs.length from hl.symm,take_length]at hy;refine .inl ⟨⟨_,hf2,by rw[length_map];exact le_refl _⟩,?_⟩;exact⟨D,ys,rfl, .inl ⟨SqL.of hD2,λ l hl2=>q ys hy l _ (s2.trans (Ze hl2 _)) (s2.free hl2) Zc⟩⟩
theorem ZdB {f:Addr}{fd:FuncData}(F:Fun K "atom_at" "atom_at" Zar f fd)(T:Txt K g mg w0)(Qaf:Xt P w0 K g mg base):FnOk P w0 K mg base (CXR P w0 base) 7 f fd ["texts","at"] (Zbj K g):=by
  refine F.okX JD (λ vs H Q E h=>?_) (λ cdv A outer s H vs Q E hr h=>?_)
  . obtain⟨ta,ts,i,rfl,_⟩:=h;rfl
  obtain⟨ta,ts,i,rfl,hx,tl,x2,i9,qe,q⟩:=h;refine⟨_,(
(Zf (Zr (i:=2) JD.nd rfl (Or.inl rfl) (Zbu (Zo Zfd (pv 1) (Zq Zw rfl T.z_len boot_len (Za (pv 0) Zb)) (Zu _)) (ZC Z8 (pv 0) (pv 1) (λ _ _=>rfl)) Zh))
 (Zf (ZI (pt_cmp (Zen (pv 2) (YJ (v:=.ref g.ATOMS) rfl T.QaD rfl)))
 (Zg (Yu T.Qae.x T.Qab Zh))
 Zs)
 (Zf (Zr (i:=3) JD.nd rfl (Or.inl rfl) (Zi ZL (Zi ZL (pv 1) Zd) (Zq Zw rfl T.z_len boot_len (Za (ZcE (YJ (v:=.ref g.ATOMS) rfl T.QaD rfl) (pv 2) (λ _ _=>rfl)) Zb))))
 (Zg (Zl (ZZ (Za (Zi ZcF (ZZ (Za (pv 2) Zb)) (Y5 XF Qaf (h_ hr) (Za (ZcE (YJ (v:=.ref g.ATOMS) rfl T.QaD rfl) (pv 2) (λ _ _=>rfl)) (Za (ZF Z6 (pv 0) (ZG (Zi ZL (pv 1) Zd)) (ZG (pv 3))) Zb)))) (Za (pv 3) Zb))))))))),?_⟩
  obtain⟨rf,kd,kt⟩:=T.d_ATOMS;obtain⟨kind,hk⟩:∃ kind,kind=ts[i]?.getD "":=⟨_,rfl⟩;have J8:∀ σ,σ=[some (V.ref ta),some (V.int i),some (V.str kind),none]->True:=λ _ _=>trivial;walk_at "g";refine⟨.inl ⟨_,hx,rfl⟩,?_⟩;walk_at "g";dsimp only;rw[show decide ((i:Int)<((ts.map V.str).length:Int))=decide (i<ts.length) from decide_eq_decide.mpr (by rw[length_map];omega)]
  by_cases ci:i<ts.length
  . rw[decide_eq_true ci];refine Xg ?_;have at_:atI (ts.map V.str) (i:Int)=some (V.str kind):=ZE (by rw[getElem?_map,hk,getElem?_eq_getElem ci];rfl);walk_at "g";dsimp only;have vs_:=ZfJ rf kind;rw[vs_];cases hf:atF kind with
    |none=>
      refine Xg ?_;walk_at "g";exact qe (by unfold Zat;rw[<- hk,hf];rfl) H (Zn.refl _)
    |some fs=>
      refine Yi ?_;rw[hf]at vs_;have vs2:Zbb (atK.map λ p=>(p.1,V.ref (rf p.1))) kind=some (V.ref (rf kind)):=vs_;have ft:=kt _ (Zgj hf);obtain⟨kn,f1,f2⟩:=Zcn hf;unfold YS;walk_at "g";refine⟨.inr ⟨_,ft H,rfl⟩,?_⟩;walk_at "g";intro p1 hp1;have s1:=Ze hp1 (.tup [.str kind]);have hx1:=s1.seq hx;have hp1':SqT K (upd H p1 (.tup [.str kind])) p1 [.str kind]:=SqT.of Zc;generalize upd H p1 (.tup [.str kind])=H1 at *;walk_at "g";intro p2 hp2;rw[show((fs.map V.str).length:Nat)=fs.length from length_map _,Zgf];have s2:=Ze hp2 (.lst (((ts.drop (i+1)).take fs.length).map V.str));have hx2:SqL K (upd H1 p2 (.lst (((ts.drop (i+1)).take fs.length).map V.str))) p2 (((ts.drop (i+1)).take fs.length).map V.str):=SqL.of Zc;generalize upd H1 p2 (.lst (((ts.drop (i+1)).take fs.length).map V.str))=H2 at *;have s12:=s1.trans s2;have rr:Zat ts i=(ZX fs ((ts.drop (i+1)).take fs.length)).map λ vs=>(.str kind::vs,i+1+fs.length):=by
        unfold Zat;rw[<- hk,hf];rfl
      refine⟨rf kind,p2,fs,_,rfl,ft _,hx2,kn,by omega,λ x hx=>x2 x (List.mem_of_mem_drop (mem_of_mem_take hx)),λ e H' s3=>qe (by rw[rr,e];rfl) H' (s12.trans s3),λ ys e t H3 s3 nt ht=>?_⟩;rw[e]at rr;have yl:=(YI e).2.1;refine⟨p1,t,[.str kind],ys,rfl,rfl,(s2.trans s3).tupq hp1',SqT.of ht,by simp,Zm (by simp;omega),(λ z=>by have z2:fs.length=0:=yl.symm.trans (congrArg List.length z);omega),λ _ p3 hp3=>?_⟩;have s4:=Ze hp3 (.tup ([.str kind]++ys));have s14:=s12.trans (s3.trans s4);walk_at "g";intro t5 ht5;have s5:=Ze ht5 (.tup [.ref p3, .int ((i:Int)+1+(fs.length:Int))]);refine q (.str kind::ys) (i+1+fs.length) rr p3 t5 _ (s14.trans s5) ((s12.trans s3).free hp3) (s5 _ _ Zc) ?_;rw[Zc,show(((i+1+fs.length:Nat)):Int)=(i:Int)+1+(fs.length:Int) by omega]
  . rw[decide_eq_false ci];refine Yi ?_;have ek:kind="":=by rw[hk,List.getElem?_eq_none (by omega)];rfl
    walk_at "g";exact qe (by unfold Zat;rw[<- hk,ek,show atF ""=none from by decide +kernel];rfl) H (Zn.refl _)
theorem Zde {f:Addr}{fd:FuncData}(F:Fun K "atoms_at" "atoms_at" JN f fd)(T:Txt K g mg w0)(QaL:Zch P w0 K g mg base):FnOk P w0 K mg base (CXR P w0 base) 8 f fd ["texts","at","opening","joint"] (ZaP K g):=by
  refine F.okX Yh (λ vs H Q E h=>?_) (λ cdv A outer s H vs Q E hr h=>?_)
  . obtain⟨ta,ts,i0,s0,j,rfl,_⟩:=h;rfl
  obtain⟨ta,ts,i0,s0,j,rfl,hx,tl,x2,i9,qe,q⟩:=h;refine⟨_,(
(Zf (Zr (i:=4) Yh.nd rfl (Or.inl rfl) (Ye Zb))
 (Zf (Zr (i:=5) Yh.nd rfl (Or.inl rfl) (pv 2))
 (Zf (Ze6 PassesOwn.leaving (PW.pt (ZcC (Zo Zfd (pv 1) (Zq Zw rfl T.z_len boot_len (Za (pv 0) Zb)) (Zu _)) (Za6 (Zo Z0 (ZC Z8 (pv 0) (pv 1) (λ _ _=>rfl)) (pv 5) (Zu _)))))
 (Zf (JO (Y5 XF QaL (h_ hr) (Za (pv 0) (Za (Zi ZL (pv 1) Zd) Zb))) (Xp rfl (ZB (Zx (i:=6) Yh.nd rfl (Or.inl rfl)) (ZB (Zx (i:=1) Yh.nd rfl (Or.inl rfl)) Yq))))
 (Zf (Za7 (X3 PySem.F.plainAttrs_list PySem.F.slot_list_append PySem.F.type_list_append Jj (pv 4) (Za (pv 6) Zb)))
 (Zg (Zr (i:=5) Yh.nd rfl (Or.inl rfl) (pv 3))))))
 (Zg (Zl (ZZ (Za (pv 4) (Za (pv 1) Zb))))))))),?_⟩
  walk_at "g";intro p hp;have s1:=Ze hp (.lst []);have A0:AsAt (upd H p (.lst [])) p [] []:=.nil Zc;generalize upd H p (.lst [])=H1 at *;walk_at "g";refine⟨λ n σ H2=>∃(acc:List (List V))(i:Nat)(s:Str)(v:Option V)(ps:List Addr),σ=[some (.ref ta),some (.int i),some (.str s0),some (.str j),some (.ref p),some (.str s),v]/\Zn H H2/\AsAt H2 p acc ps/\acc.length<=i/\i<=1500/\ts.length<n+i/\YC ts (ts.length+1) i0 s0 j=(YC ts n i s j).map λ q=>(acc++q.1,q.2),⟨ts.length+1,[],i0,s0,_,[],rfl,s1,A0,zero_le _,i9,by omega,by cases YC ts (ts.length+1) i0 s0 j <;> rfl⟩,?_⟩;rintro n σ H2 ⟨acc,i,s_,v,ps,rfl,s2,A,al,i5,hn,e⟩;have hx2:=s2.seq hx;obtain⟨m,rfl⟩|hn0:(∃ m,n=m+1)\/n=0:=by
    cases n with
    |zero=>exact .inr rfl
    |succ m=>exact .inl ⟨m,rfl⟩
  . have fin:¬ ts[i]? = some s_->∀ l t H',Zn H2 H'->l=p->H' t=some (.tup [.ref l, .int i])->Q (.ref t) H':=λ c l t H' s3 hl ht=>by
      subst hl;refine q acc i ?_ l ps t H' (s2.trans s3) (A.same s3) ht;rw[e];unfold YC;rw[if_neg c];show some (acc++[],i)=some (acc,i);rw[append_nil]
    walk_at "g";refine⟨.inl ⟨_,hx2,rfl⟩,?_⟩;walk_at "g";dsimp only;rw[show decide ((i:Int)<((ts.map V.str).length:Int))=decide (i<ts.length) from decide_eq_decide.mpr (by rw[length_map];omega)]
    by_cases ci:i<ts.length
    . rw[decide_eq_true ci];refine Xg ?_;have at_:atI (ts.map V.str) (i:Int)=some (V.str ts[i]):=ZE (by rw[getElem?_map,getElem?_eq_getElem ci];rfl);walk_at "g";dsimp only
      by_cases ce:ts[i]=s_
      . rw[decide_eq_true (show V.str ts[i]=V.str s_ by rw[ce])];refine Xg ?_;refine⟨_,λ σ' H' z=>z,?_⟩;have hy:ts[i]? = some s_:=by rw[getElem?_eq_getElem ci,ce]
        walk_at "g";refine⟨by omega,x2,(by show i+1<=1900;omega),λ er H' s3=>qe (by rw[e,Zdx hy er];rfl) H' (s2.trans s3),λ ys b er q_ t H3 s3 nq hq ht=>?_⟩;obtain⟨_,_,b5,ib⟩:=ZdP er;have e':YC ts (ts.length+1) i0 s0 j=(YC ts m b j j).map λ q=>((acc++[ys])++q.1,q.2):=by
          rw[e,Zek hy er,Option.map_map];congr 1;funext q;show(acc++(ys::q.1),q.2)=((acc++[ys])++q.1,q.2);rw[append_assoc];rfl
        have hT3:=SqT.of (K:=K) ht;have A3:=A.same s3;have pl3:=A3.lst;have s23:=s2.trans s3;have plen:(ps.map V.ref).length<sizeLine:=Yw (by rw[length_map,A.len];omega);walk_at "g";exact⟨Nat.lt_succ_self m,acc++[ys],b,j,_,ps++[q_],rfl,Z7 s23 hp,A3.put hq,(by rw[length_append,length_singleton];omega),by omega,by omega,e'⟩
      . rw[decide_eq_false (show ¬ V.str ts[i]=V.str s_ from λ z=>ce (by injection z))];refine Yi ?_;walk_at "g";intro t ht;refine fin (λ z=>ce ?_) p t _ (Ze ht _) rfl Zc;rw[getElem?_eq_getElem ci]at z;exact Option.some.inj z
    . rw[decide_eq_false ci];refine Yi ?_;walk_at "g";intro t ht;refine fin (λ z=>ci (List.getElem?_eq_some_iff.mp z).1) p t _ (Ze ht _) rfl Zc
  . subst hn0;walk_at "g";refine⟨.inl ⟨_,hx2,rfl⟩,?_⟩;walk_at "g";dsimp only;rw[show decide ((i:Int)<((ts.map V.str).length:Int))=false from decide_eq_false (by rw[length_map];omega)];refine Yi ?_;walk_at "g";intro t ht;refine q acc i ?_ p ps t _ (s2.trans (Ze ht _)) (A.same (Ze ht _)) Zc;rw[e];show some (acc++[],i)=some (acc,i);rw[append_nil]
theorem ZcL {f:Addr}{fd:FuncData}(F:Fun K "holder_at" "holder_at" XZ f fd)(T:Txt K g mg w0)(Qaf:Xt P w0 K g mg base):FnOk P w0 K mg base (CXR P w0 base) 7 f fd ["texts","at"] (J3 K g):=by
  refine F.okX Zcw (λ vs H Q E h=>?_) (λ cdv A outer s H vs Q E hr h=>?_)
  . obtain⟨ta,ts,i,rfl,_⟩:=h;rfl
  obtain⟨ta,ts,i,rfl,hx,tl,x2,i9,qe,q⟩:=h;refine⟨_,(
(Zf (ZI (Zo (Zfe hr.units) (ZF Z6 (pv 0) (ZG (pv 1)) (ZG (Zi ZL (pv 1) Zd))) (Ye (Za Zh Zb)) (Zu _))
 (Zg (Zl (ZZ (Za (Zi ZcF (ZZ (Za Zh Zb)) (Y5 XF Qaf (h_ hr) (Za (ZZ (Za Zh (Za Zh Zb))) (Za (ZF Z6 (pv 0) (ZG (Zi ZL (pv 1) Zd)) (ZG (Zi ZL (pv 1) Zd))) Zb)))) (Za (Zi ZL (pv 1) Zd) Zb)))))
 Zs)
 (Zg (Zl (ZZ (Za (Zi ZcF (ZZ (Za Zh Zb)) (Y5 XF Qaf (h_ hr) (Za (ZZ (Za Zh Zb)) (Za (ZF Z6 (pv 0) (ZG (pv 1)) (ZG (Zi ZL (pv 1) Zd))) Zb)))) (Za (Zi ZL (pv 1) Zd) Zb))))))),?_⟩
  have big:4000<=sizeLine:=by decide
  have i1:(i:Int)+1=((i+1:Nat):Int):=by omega
  have i3:(i:Int)+3=((i+3:Nat):Int):=by omega
  walk_at "g";intro p1 h1;rw[i1,ZcT ts i (i+1) (by omega),Nat.add_sub_cancel_left];have s1:=Ze h1 (.lst (((ts.drop i).take 1).map V.str));have L1:SqL K (upd H p1 (.lst (((ts.drop i).take 1).map V.str))) p1 (((ts.drop i).take 1).map V.str):=SqL.of Zc;generalize upd H p1 (.lst (((ts.drop i).take 1).map V.str))=H1 at *;walk_at "g";intro p2 h2;have s2:=Ze h2 (.lst (([("kids":Str)]:List Str).map V.str));have L2_:=s2.seq L1;have L3:SqL K (upd H1 p2 (.lst (([("kids":Str)]:List Str).map V.str))) p2 ([("kids":Str)].map V.str):=SqL.of Zc;have s12:=s1.trans s2;refine Zgc L2_ L3 (λ x hx=>(x2 x (List.mem_of_mem_drop (mem_of_mem_take hx))).2) (λ x hx=>by rw[List.mem_singleton.mp hx];decide +kernel) ?_;have hx2:=s12.seq hx;have s12':Zn H (upd H1 p2 (.lst [V.str "kids"])):=s12;have hx2':SqL K (upd H1 p2 (.lst [V.str "kids"])) ta (ts.map V.str):=hx2;generalize upd H1 p2 (.lst [V.str "kids"])=H2 at *;have tk:((ts.drop i).take 1=(["kids"]:List Str))↔ts[i]? = some ("kids":Str):=Zed
  by_cases ck:ts[i]? = some ("kids":Str)
  . rw[decide_eq_true (tk.mpr ck)];have rr:rdH ts i=(ZX ["name","number"] ((ts.drop (i+1)).take 2)).map λ vs=>(.str "kids"::vs,i+3):=by
      unfold rdH;rw[if_pos ck]
    refine⟨_,rfl,Xg ?_⟩;walk_at "g";intro p3 h3;have s3:=Ze h3 (.tup [.str "kids"]);have T3:SqT K (upd H2 p3 (.tup [.str "kids"])) p3 [.str "kids"]:=SqT.of Zc;have hx3:=s3.seq hx2';have s13:=s12'.trans s3;generalize upd H2 p3 (.tup [.str "kids"])=H3 at *;walk_at "g";intro p4 h4;have s4:Zn H3 (upd H3 p4 (.tup [V.str "name",V.str "number"])):=Ze h4 _;have T4:SqT K (upd H3 p4 (.tup [V.str "name",V.str "number"])) p4 ((["name","number"]:List Str).map V.str):=SqT.of Zc;have hx4:=s4.seq hx3;generalize upd H3 p4 (.tup [V.str "name",V.str "number"])=H4 at *;walk_at "g";intro p5 h5;rw[i1,i3,ZcT ts (i+1) (i+3) (by omega),show i+3 - (i+1)=2 by omega];have s5:=Ze h5 (.lst (((ts.drop (i+1)).take 2).map V.str));have L5:SqL K (upd H4 p5 (.lst (((ts.drop (i+1)).take 2).map V.str))) p5 (((ts.drop (i+1)).take 2).map V.str):=SqL.of Zc;have T45:=s5.tupq T4;generalize upd H4 p5 (.lst (((ts.drop (i+1)).take 2).map V.str))=H5 at *;have s15:=s13.trans (s4.trans s5);refine⟨p4,p5,["name","number"],_,rfl,T45,L5,by decide +kernel,by decide,λ x hx=>(x2 x (List.mem_of_mem_drop (mem_of_mem_take hx))).1,λ e H' s6=>qe (by rw[rr,e];rfl) H' (s15.trans s6),λ ys e t H6 s6 nt ht=>?_⟩;rw[e]at rr;have yl:ys.length=2:=(YI e).2.1;refine⟨p3,t,[.str "kids"],ys,rfl,rfl,(s4.trans (s5.trans s6)).tupq T3,SqT.of ht,by simp,Zm (by simp;omega),(λ z=>by rw[z]at yl;cases yl),λ _ p7 h7=>?_⟩;have s7:=Ze h7 (.tup ([.str "kids"]++ys));walk_at "g";intro t8 h8;have s8:=Ze h8 (.tup [.ref p7, .int ((i:Int)+3)]);refine q (.str "kids"::ys) (i+3) rr p7 t8 _ (s15.trans (s6.trans (s7.trans s8))) (s8 _ _ Zc) ?_;rw[Zc,show(((i+3:Nat)):Int)=(i:Int)+3 by omega]
  . rw[decide_eq_false (λ z=>ck (tk.mp z))];have rr:rdH ts i=(ZX ["name"] ((ts.drop i).take 1)).map λ vs=>(.str "one"::vs,i+1):=by
      unfold rdH;rw[if_neg ck]
    refine⟨_,rfl,Yi ?_⟩;unfold YS;walk_at "g";intro p3 h3;have s3:=Ze h3 (.tup [.str "one"]);have T3:SqT K (upd H2 p3 (.tup [.str "one"])) p3 [.str "one"]:=SqT.of Zc;have hx3:=s3.seq hx2';have s13:=s12'.trans s3;generalize upd H2 p3 (.tup [.str "one"])=H3 at *;walk_at "g";intro p4 h4;have s4:Zn H3 (upd H3 p4 (.tup [V.str "name"])):=Ze h4 _;have T4:SqT K (upd H3 p4 (.tup [V.str "name"])) p4 ((["name"]:List Str).map V.str):=SqT.of Zc;have hx4:=s4.seq hx3;generalize upd H3 p4 (.tup [V.str "name"])=H4 at *;walk_at "g";intro p5 h5;rw[i1,ZcT ts i (i+1) (by omega),show i+1 - i=1 by omega];have s5:=Ze h5 (.lst (((ts.drop i).take 1).map V.str));have L5:SqL K (upd H4 p5 (.lst (((ts.drop i).take 1).map V.str))) p5 (((ts.drop i).take 1).map V.str):=SqL.of Zc;have T45:=s5.tupq T4;generalize upd H4 p5 (.lst (((ts.drop i).take 1).map V.str))=H5 at *;have s15:=s13.trans (s4.trans s5);refine⟨p4,p5,["name"],_,rfl,T45,L5,by decide +kernel,by decide,λ x hx=>(x2 x (List.mem_of_mem_drop (mem_of_mem_take hx))).1,λ e H' s6=>qe (by rw[rr,e];rfl) H' (s15.trans s6),λ ys e t H6 s6 nt ht=>?_⟩;rw[e]at rr;have yl:ys.length=1:=(YI e).2.1;refine⟨p3,t,[.str "one"],ys,rfl,rfl,(s4.trans (s5.trans s6)).tupq T3,SqT.of ht,by simp,Zm (by simp;omega),(λ z=>by rw[z]at yl;cases yl),λ _ p7 h7=>?_⟩;have s7:=Ze h7 (.tup ([.str "one"]++ys));walk_at "g";intro t8 h8;have s8:=Ze h8 (.tup [.ref p7, .int ((i:Int)+1)]);refine q (.str "one"::ys) (i+1) rr p7 t8 _ (s15.trans (s6.trans (s7.trans s8))) (s8 _ _ Zc) ?_;rw[Zc,show(((i+1:Nat)):Int)=(i:Int)+1 by omega]
theorem Zc7 {f:Addr}{fd:FuncData}(F:Fun K "read_row" "read_row" JG f fd)(T:Txt K g mg w0)(QaM:ZaX P w0 K g mg base)(Qar:ZbQ P w0 K g mg base):FnOk P w0 K mg base (CXR P w0 base) 9 f fd ["text"] (ZaI K g):=by
  refine F.okX ZY (λ vs H Q E h=>?_) (λ cdv A outer s H vs Q E hr h=>?_)
  . obtain⟨x,rfl,_⟩:=h;rfl
  obtain⟨x,rfl,hx,xo,qe,q⟩:=h;refine⟨_,(
(Zf (Zr (i:=1) ZY.nd rfl (Or.inl rfl) (X3 plainAttrs_str PySem.F.slot_str_split PySem.F.type_str_split Zae (pv 0) (Za Zh Zb)))
 (Zf (ZI (Zo Zac (ZC Z8 (pv 1) Zd (λ _ _=>rfl)) Zh (Zu _))
 (Zg (Yu T.Qae.x T.Qab Zh))
 Zs)
 (Zf (JO (Y5 XF QaM (h_ hr) (Za (pv 1) (Za Zd Zb))) (Xp rfl (ZB (Zx (i:=2) ZY.nd rfl (Or.inl rfl)) (ZB (Zx (i:=3) ZY.nd rfl (Or.inl rfl)) Yq))))
 (Zf (JO (Y5 XF Qar (h_ hr) (Za (pv 1) (Za (pv 3) (Za Zh (Za Zh Zb))))) (Xp rfl (ZB (Zx (i:=4) ZY.nd rfl (Or.inl rfl)) (ZB (Zx (i:=3) ZY.nd rfl (Or.inl rfl)) Yq))))
 (Zf (JO (Y5 XF Qar (h_ hr) (Za (pv 1) (Za (pv 3) (Za Zh (Za Zh Zb))))) (Xp rfl (ZB (Zx (i:=5) ZY.nd rfl (Or.inl rfl)) (ZB (Zx (i:=3) ZY.nd rfl (Or.inl rfl)) Yq))))
 (Zf (ZI (Zo Zac (pv 3) (Zq Zw rfl T.z_len boot_len (Za (pv 1) Zb)) (Zu _))
 (Zg (Yu T.Qae.x T.Qab Zh))
 Zs)
 (Zg (Zl (ZZ (Za (pv 2) (Za (pv 4) (Za (pv 5) Zb))))))))))))),?_⟩
  have tl:=ZdO x;walk_at "g";refine⟨Zm (by omega),?_,λ l hl=>?_⟩
  . rw[PyProof.Rows.len_partsBetween];have:=StrLaws.occ_length_le x " " 0 x.length (x.length+1);exact Zm (by omega)
  have el:(Txt.split x " ").map V.str=(spl x).map V.str:=by rw[XJ];rfl
  rw[el];have s1:=Ze hl (.lst ((spl x).map V.str));have hS:SqL K (upd H l (.lst ((spl x).map V.str))) l ((spl x).map V.str):=SqL.of Zc;have x2:∀ p∈spl x,p.length<=1400:=λ p hp=>by
    have:=ZeV hp;omega
  have x3:∀ p∈spl x,p.length<=1400/\PyData.strOk p=true:=λ p hp=>⟨x2 p hp,Zff xo p hp⟩;generalize upd H l (.lst ((spl x).map V.str))=H1 at *;have rr:rdR x=rdRs (spl x):=rfl;unfold rdRs at rr;have hpos:=List.length_pos_iff.mpr (Zbh x);have at0:atI ((spl x).map V.str) 0=some (V.str (spl x)[0]):=(ZE (j:=0) (by rw[getElem?_map,getElem?_eq_getElem hpos];rfl):atI ((spl x).map V.str) ((0:Nat):Int)=_);rw[getElem?_eq_getElem hpos]at rr;walk_at "g";dsimp only
  by_cases c0:(spl x)[0]="to"
  rotate_left
  . rw[decide_eq_false (show ¬ V.str (spl x)[0]=V.str "to" from λ z=>c0 (by injection z))];refine Xg ?_;walk_at "g";exact qe (by rw[rr,if_neg (λ z=>c0 (Option.some.inj z))]) _ s1
  rw[decide_eq_true (show V.str (spl x)[0]=V.str "to" by rw[c0])];refine Yi ?_;unfold YS;rw[c0,if_pos rfl]at rr;walk_at "g";refine⟨by omega,x3,by decide,λ e H' s2=>qe (by rw[rr,e];rfl) H' (s1.trans s2),λ h_ b eb p t H2 s2 hp ht=>?_⟩;rw[eb]at rr;obtain⟨_,_,b5⟩:=Ze4 eb;have htT:=SqT.of (K:=K) ht;have hS2:=s2.seq hS;walk_at "g";refine⟨by omega,x2,by omega,λ e H' s3=>qe (by rw[rr];show(YC (spl x) _ b "when" "and").bind _=none;rw[e];rfl) H' (s1.trans (s2.trans s3)),λ as b2 eb2 l2 ps2 t2 H3 s3 A3 ht3=>?_⟩;obtain⟨_,_,b6,_⟩:=Za5 eb2;have b6:=b6 b5;have rr:rdR x=(YC (spl x) ((spl x).length+1) b2 "until" "or").bind λ e=>if e.2=(spl x).length then some (h_,as,e.1) else none:=by
    rw[rr];show(YC (spl x) _ b "when" "and").bind _=_;rw[eb2];rfl
  have htT3:=SqT.of (K:=K) ht3;have hS3:=s3.seq hS2;walk_at "g";refine⟨by omega,x2,by omega,λ e H' s4=>qe (by rw[rr,e];rfl) H' (s1.trans (s2.trans (s3.trans s4))),λ es b3 eb3 l3 ps3 t3 H4 s4 A4 ht4=>?_⟩;rw[eb3]at rr;have htT4:=SqT.of (K:=K) ht4;have hS4:=s4.seq hS3;have hp4:=s4 _ _ (s3 _ _ hp);have A34:=A3.same s4;have s14:=s1.trans (s2.trans (s3.trans s4));walk_at "g";refine⟨.inl ⟨_,hS4,rfl⟩,?_⟩;walk_at "g";dsimp only
  by_cases cb:b3=(spl x).length
  . rw[decide_eq_true (show V.int (b3:Int)=V.int (((spl x).map V.str).length:Int) from by rw[length_map,cb])];refine Yi ?_;walk_at "g";intro t5 ht5;have s5:=Ze ht5 (.tup [.ref p, .ref l2, .ref l3]);refine q (h_,as,es) (by rw[rr];show(if b3=_ then _ else none)=_;rw[if_pos cb]) t5 _ (s14.trans s5) ⟨p,l2,l3,ps2,ps3,Zc,s5 _ _ hp4,A34.same s5,A4.same s5⟩
  . rw[decide_eq_false (show ¬ V.int (b3:Int)=V.int (((spl x).map V.str).length:Int) from λ z=>cb (by injection z with z;rw[length_map]at z;omega))];refine Xg ?_;walk_at "g";exact qe (by rw[rr];show(if b3=_ then _ else none)=none;rw[if_neg cb]) _ s14
theorem Zet {f:Addr}{fd:FuncData}(F:Fun K "joined" "joined" Zbq f fd)(T:Txt K g mg w0)  : FnOk P w0 K mg base CX0 1 f fd ["things"] (Zb7 K g):=by
  refine F.ok Zeg (λ vs H Q E h=>?_) (λ cdv A outer s H vs Q E hr h=>?_)
  . obtain⟨p,ws,rfl,_⟩:=h;rfl
  obtain⟨p,ws,rfl,hp,h8,hw,q⟩:=h;refine⟨_,(
(Zg (Zl (X3 plainAttrs_str PySem.F.slot_str_join PySem.F.type_str_join Zaf Zh (Za (Zbt (x:="thing") (cl:=[]) (caps:=[]) rfl (Ze7 (pv 0)) (λ _ _ _ _ _=>X2) (λ _ _ _ _ _=>(ZP ZaF rfl T.z_str boot_str (Za (pv 0) Zb))) rfl (by decide +kernel) rfl (by decide +kernel) rfl (λ _ _ h=>nomatch h) (Ja rfl) (λ p hp=>nomatch hp) (by decide +kernel)) Zb))))),?_⟩
  have lc:∀ H1,(∃ xs,SqT K H1 p xs)->True:=λ _ _=>trivial;walk_at "g";refine⟨⟨_,hp⟩,λ D hD=>?_⟩;refine⟨λ i m H2=>i<=ws.length/\m=ws.length - i/\Zn H H2/\H2 D=some (.lst (((ws.take i).map txV).map V.str)),⟨ws.length,zero_le _,rfl,Ze hD _,Zc⟩,?_⟩;rintro i m H2 ⟨hi,rfl,s2,hD2⟩;have hp2:=s2.tupq hp
  by_cases ci:i<ws.length
  . refine .inr ⟨⟨_,_,hp2,getElem?_eq_getElem ci⟩,λ x1 H3 hy1=>?_⟩;obtain⟨rfl,e1⟩:=hy1;have e1':=e1 _ hp2;rw[getElem?_eq_getElem ci]at e1';cases e1';refine Zbc ?_;have tk:((ws.take (i+1)).map txV).map V.str=((ws.take i).map txV).map V.str++[V.str (txV ws[i])]:=by
      rw[take_succ,getElem?_eq_getElem ci,map_append,map_append];rfl
    have nx:∃ ys m',H3 D=some (.lst ys)/\ys.length<sizeLine/\m'<ws.length - i/\(i+1<=ws.length/\m'=ws.length - (i+1)/\Zn H (upd H3 D (.lst (ys++[V.str (txV ws[i])])))/\upd H3 D (.lst (ys++[V.str (txV ws[i])])) D=some (.lst (((ws.take (i+1)).map txV).map V.str))):=by
      refine⟨_,ws.length - (i+1),hD2,Zb8 (by rw[length_map,length_map,length_take];omega),by omega,ci,rfl,Z7 s2 hD,?_⟩;rw[Zc,tk]
    have hwi:=hw _ (getElem_mem ci);refine⟨_,rfl,?_⟩;generalize ws[i]=wi at hwi nx;rcases hwi with ⟨n,hn,rfl⟩|⟨y,hy,rfl⟩
    . exact .inl ⟨n,rfl,log4 hn,nx⟩
    . exact .inr ⟨y,rfl,nx⟩
  . have e:i=ws.length:=by omega
    subst e;rw[take_length]at hD2;refine .inl ⟨⟨_,hp2,le_refl _⟩,?_⟩;have tl:∀ p∈ws.map txV,p.length<=200:=λ p hp=>by
      obtain⟨v,hv,rfl⟩:=List.mem_map.mp hp;exact tx_len (hw v hv)
    have big:2000<=sizeLine:=by decide
    refine⟨" ",D,_,rfl,rfl,SqL.of hD2,?_,?_,?_⟩
    . refine decide_eq_false ?_;rw[List.foldl_toArray];have:=ZbJ (c:=(" ":Str).length) (a:=0) tl;rw[length_map]at this;have h1:(" ":Str).length=1:=by decide +kernel
      rw[h1]at this ⊢;omega
    . rw[Zce];have:=Zcc (c:=32) tl;rw[length_map]at this;have e:(txA ws).length<=ws.length * 201:=this;omega
    . rw[Zce];exact q H2 s2
theorem ZcN {f:Addr}{fd:FuncData}(F:Fun K "atom_text" "atom_text" X1 f fd)(T:Txt K g mg w0)(Qai:ZbO P w0 K g mg base):FnOk P w0 K mg base CX0 2 f fd ["atom"] (J5 K g):=by
  refine F.ok Zcy (λ vs H Q E h=>?_) (λ cdv A outer s H vs Q E hr h=>?_)
  . obtain⟨p,ws,rfl,_⟩:=h;rfl
  obtain⟨p,ws,rfl,hp,h8,hw,q⟩:=h;refine⟨_,(
(Zg (Zl (Zy Qai (h_ hr) (Za (pv 0) Zb))))),?_⟩
  walk_at "g";exact q
theorem ZbA {f:Addr}{fd:FuncData}(F:Fun K "holder_text" "holder_text" Y2 f fd)(T:Txt K g mg w0)(QaN:ZbP P w0 K g mg base)(Qai:ZbO P w0 K g mg base):FnOk P w0 K mg base CX0 2 f fd ["holder"] (XQ K g):=by
  refine F.ok Zbm (λ vs H Q E h=>?_) (λ cdv A outer s H vs Q E hr h=>?_)
  . obtain⟨p,h,rfl,_⟩:=h;rfl
  obtain⟨p,h,rfl,hp,w,q⟩:=h;refine⟨_,(
(Zg (Zl (Zbu (Ya (Zy QaN (h_ hr) (Za (pv 0) Zb))) (Zy Qai (h_ hr) (Za (pv 0) Zb)) (ZC ZO (pv 0) Zd (λ _ _=>rfl)))))),?_⟩
  rcases id w with ⟨n,hn,rfl⟩|⟨n,i,hn,hi,rfl⟩
  . walk_at "g";exact q H (Zn.refl _)
  . have nl:=ZV hn;walk_at "g";refine⟨Nat.le_of_ble_eq_true rfl,λ v hv=>?_,q⟩;simp only[mem_cons,not_mem_nil,or_false]at hv;rcases hv with rfl|rfl|rfl
    . exact .inr ⟨_,by decide +kernel,rfl⟩
    . exact .inr ⟨n,by omega,rfl⟩
    . exact .inl ⟨i,hi,rfl⟩
theorem Zb1 {f:Addr}{fd:FuncData}(F:Fun K "atoms_text" "atoms_text" Xo f fd)(T:Txt K g mg w0)(QaO:ZaY P w0 K g mg base):FnOk P w0 K mg base CX0 3 f fd ["atoms","opening","joint"] (Js K g):=by
  refine F.ok ZbW (λ vs H Q E h=>?_) (λ cdv A outer s H vs Q E hr h=>?_)
  . obtain⟨l,as,ps,s_,j,rfl,_⟩:=h;rfl
  obtain⟨l,as,ps,s_,j,rfl,A,hw,a12,s8,j8,q⟩:=h;refine⟨_,(
(Zg (Zl (Zbu (Ze5 (pv 0) (λ _=>rfl)) (Zi Zt (pv 1) (X3 plainAttrs_str PySem.F.slot_str_join PySem.F.type_str_join Zaf (pv 2) (Za (Zbt (x:="atom") (cl:=[]) (caps:=[]) rfl (Jh (pv 0)) (λ _ _ _ _ _=>X2) (λ _ _ _ _ _=>(Zy QaO (h_ hr) (Za (pv 0) Zb))) rfl (by decide +kernel) rfl (by decide +kernel) rfl (λ _ _ h=>nomatch h) (Ja rfl) (λ p hp=>nomatch hp) (by decide +kernel)) Zb))) Zh)))),?_⟩
  have hL:SqL K H l (ps.map V.ref):=SqL.of A.lst;have pl:=A.len
  by_cases ne:as=[]
  . subst ne;have e0:ps=[]:=List.eq_nil_of_length_eq_zero pl;subst e0;walk_at "g";refine⟨.inl ⟨_,hL,rfl⟩,Yi ?_⟩;exact q H (Zn.refl _)
  have pe_:(ps.map V.ref).isEmpty=false:=by
    cases ps with
    |nil=>exact absurd (List.eq_nil_of_length_eq_zero pl.symm) ne
    |cons a r=>rfl
  walk_at "g";refine⟨.inl ⟨_,hL,by rw[pe_]⟩,?_⟩;refine Xg ?_;have ta40:∀ p∈as.map txA,p.length<=200:=λ p hp=>by
    obtain⟨a,ha,rfl⟩:=List.mem_map.mp hp;have:=Jg (hw a ha);omega
  walk_at "g";refine⟨⟨_,hL⟩,λ D hD=>?_⟩;refine⟨λ i m H2=>i<=as.length/\m=as.length - i/\Zn H H2/\H2 D=some (.lst (((as.take i).map txA).map V.str)),⟨as.length,zero_le _,rfl,Ze hD _,Zc⟩,?_⟩;rintro i m H2 ⟨hi,rfl,s2,hD2⟩;have hL2:=s2.seq hL
  by_cases ci:i<as.length
  . obtain⟨p,hp,hq⟩:=A.get ci;have wi:=hw _ (getElem_mem ci);obtain⟨wl,wp⟩:=Y7 wi;refine .inr ⟨⟨_,_,hL2,by rw[getElem?_map,hp];rfl⟩,λ x1 H3 hy1=>?_⟩;obtain⟨rfl,e1⟩:=hy1;have e1':=e1 _ hL2;rw[getElem?_map,hp]at e1';cases e1';refine Zbc ?_;have tk:((as.take (i+1)).map txA).map V.str=((as.take i).map txA).map V.str++[V.str (txA as[i])]:=by
      rw[take_succ,getElem?_eq_getElem ci,map_append,map_append];rfl
    refine⟨_,rfl,p,as[i],rfl,SqT.of (s2 _ _ hq),by omega,(λ v hv=>(wp v hv).imp_right λ⟨x,h1,_,h2⟩=>⟨x,by omega,h2⟩),λ H4 s4=>?_⟩;refine⟨_,as.length - (i+1),s4 _ _ hD2,Yw (by rw[length_map,length_map,length_take];omega),by omega,ci,rfl,Z7 (s2.trans s4) hD,?_⟩;rw[Zc,tk]
  . have e:i=as.length:=by omega
    subst e;rw[take_length]at hD2;refine .inl ⟨⟨_,hL2,by rw[length_map,pl];exact le_refl _⟩,?_⟩;have big:2 ^ 24<=sizeLine:=by decide
    have gl:Builtin.Str.glued (spc++j++spc) (as.map txA)=Str.join (spc++j++spc) (as.map txA):=gluedJ _ _;have ap:=ZfF (s:=s_) (j:=j) ne hw;have al:=Xw s8 j8 _ rfl hw;have al':=congrArg Str.length ap;rw[Zj]at al';have s1l:spc.length=1:=rfl;have jl:(spc++j++spc).length<=10:=by rw[Zj,Zj,s1l];omega
    refine⟨_,D,_,rfl,rfl,SqL.of hD2,?_,?_,?_⟩
    . refine decide_eq_false ?_;rw[List.foldl_toArray];have:=ZbJ (c:=(spc++j++spc).length) (a:=0) ta40;rw[length_map]at this;have m1:as.length * (200+(spc++j++spc).length)<=700 * 210:=Nat.mul_le_mul a12 (by omega);omega
    . rw[gl];omega
    . rw[gl];refine⟨_,_,rfl,rfl,by omega,?_⟩;rw[<- ap];exact q H2 s2
theorem Zc6 {f:Addr}{fd:FuncData}(F:Fun K "row_text" "row_text" JF f fd)(T:Txt K g mg w0)(Qas:Zal P w0 K g mg base)(QaP:Jx P w0 K g mg base):FnOk P w0 K mg base CX0 4 f fd ["row"] (ZaH K g):=by
  refine F.ok YT (λ vs H Q E h=>?_) (λ cdv A outer s H vs Q E hr h=>?_)
  . obtain⟨t,r,rfl,_⟩:=h;rfl
  obtain⟨t,r,rfl,R,w,l1,l2,l3,q⟩:=h;refine⟨_,(
(Zf (JO (pv 0) (Xp rfl (ZB (Zx (i:=1) YT.nd rfl (Or.inl rfl)) (ZB (Zx (i:=2) YT.nd rfl (Or.inl rfl)) (ZB (Zx (i:=3) YT.nd rfl (Or.inl rfl)) Yq)))))
 (Zg (Zl (Zi Zt (Zi Zt (pe_fs2 (by decide +kernel) (Zy QaP (h_ hr) (Za (pv 1) Zb))) (Zy Qas (h_ hr) (Za (pv 2) (Za Zh (Za Zh Zb))))) (Zy Qas (h_ hr) (Za (pv 3) (Za Zh (Za Zh Zb))))))))),?_⟩
  obtain⟨ph,pn,pe,qs,es,h1,h2,h3,h4⟩:=R.ex;have e1:(" when ":Str)=spc++"when"++spc:=by decide +kernel
  have e2:(" and ":Str)=spc++"and"++spc:=by decide +kernel
  have e3:(" until ":Str)=spc++"until"++spc:=by decide +kernel
  have e4:(" or ":Str)=spc++"or"++spc:=by decide +kernel
  have l4:=Zco w.1;have l5:("to ":Str).length=3:=by decide +kernel
  have tx:=Zdq r.1 r.2.1 r.2.2 w.1;have lt:=congrArg Str.length tx;rw[Zj,Zj,Zj]at lt;have lt':(txR r).length=("to ":Str).length+(Str.join spc (wdH r.1)).length+(apT "when" "and" r.2.1).length+(apT "until" "or" r.2.2).length:=lt;have hT:=SqT.of (K:=K) h1;have hH:=SqT.of (K:=K) h2;walk_at "g";refine⟨w.1,λ H1 s1=>?_⟩;have A1:=h3.same s1;have l6:(("to ":Str)++Str.join spc (wdH r.1)).length=3+(Str.join spc (wdH r.1)).length:=by rw[Zj,l5]
  walk_at "g";refine⟨Zm (by omega),Zm (by omega),?_⟩;refine⟨_,rfl,pn,r.2.1,qs,"when","and",(by rw[<- e1,<- e2]),A1,w.2.1,l2,by decide +kernel,by decide +kernel,λ H2 s2=>?_⟩;refine⟨_,_,rfl,rfl,Zm (by omega),?_⟩;have A2:=h4.same (s1.trans s2);have l7:(("to ":Str)++Str.join spc (wdH r.1)++apT "when" "and" r.2.1).length=3+(Str.join spc (wdH r.1)).length+(apT "when" "and" r.2.1).length:=by rw[Zj,l6]
  refine⟨_,rfl,pe,r.2.2,es,"until","or",(by rw[<- e3,<- e4]),A2,w.2.2,l3,by decide +kernel,by decide +kernel,λ H3 s3=>?_⟩;refine⟨_,_,rfl,rfl,Zm (by omega),?_⟩;have z:=q H3 (s1.trans (s2.trans s3));rw[show txR r=_ from tx]at z;exact z
theorem ZdA {f:Addr}{fd:FuncData}(F:Fun K "_law_num" "_law_num" Zaq f fd)(T:Txt K g mg w0)  : FnOk P w0 K mg base CX0 1 f fd ["_law_found"] (Zbi K g):=by
  refine F.ok Zdt (λ vs H Q E h=>?_) (λ cdv A outer s H vs Q E hr h=>?_)
  . obtain⟨i,rfl,_⟩:=h;rfl
  obtain⟨i,rfl,q⟩:=h;refine⟨_,(
(Zg (Zl (Xq (Zq Xh rfl T.z_isinstance PyProof.Rows.boot_isinstance (Za (pv 0) (Za (Ji (v:=V.ty "int") rfl T.z_int PyProof.Rows.boot_int rfl) Zb))) (Zaw (pe_not (Zq Xh rfl T.z_isinstance PyProof.Rows.boot_isinstance (Za (pv 0) (Za (Ji (v:=V.ty "bool") rfl T.z_bool PyProof.Rows.boot_bool rfl) Zb))))))))),?_⟩
  refine⟨_,rfl,_,_,_,_,rfl, .int _,kit_ii,_,rfl,Xg ?_⟩;exact⟨_,rfl,_,_,_,_,rfl, .int _,kit_ib,_,rfl,q⟩
theorem Zby {f:Addr}{fd:FuncData}(F:Fun K "_law_cell_at" "_law_cell_at" Y0 f fd)(T:Txt K g mg w0)  : FnOk P w0 K mg base CX0 1 f fd ["_law_script","_law_k"] (XN K g):=by
  refine F.ok Zbl (λ vs H Q E h=>?_) (λ cdv A outer s H vs Q E hr h=>?_)
  . obtain⟨a,ns,k,rfl,_⟩:=h;rfl
  obtain⟨a,ns,k,rfl,hS,h0,q⟩:=h;refine⟨_,(
(Zf (ZI (Zo Zfd (pv 1) (Zq Zw rfl T.z_len boot_len (Za (pv 0) Zb)) (Zu _))
 (Zg (Zl (ZC Z8 (pv 0) (pv 1) (λ _ _=>rfl))))
 Zs)
 (Zg (Zl Zd)))),?_⟩
  have hl:(ns.map V.int).length=ns.length:=length_map _;refine⟨_,rfl,_,rfl,_,_,rfl, .inl ⟨_,hS,rfl⟩,_,_,rfl,rfl,_,rfl,?_⟩;refine Yb (λ c=>?_) (λ c=>?_)
  . have c':k<(((ns.map V.int).length:Nat):Int):=of_decide_eq_true c;rw[hl]at c';have hk:k.toNat<ns.length:=by omega
    have e:atI (ns.map V.int) ((k.toNat:Nat):Int)=some (.int ns[k.toNat]):=ZE (by rw[getElem?_map,getElem?_eq_getElem hk] <;> rfl);rw[show((k.toNat:Nat):Int)=k by omega]at e;exact⟨_,rfl,_,rfl,a,_,_,_,rfl,rfl,hS,e,q _⟩
  . exact q 0
theorem Zda {f:Addr}{fd:FuncData}(F:Fun K "_law_rich" "_law_rich" JJ f fd)(T:Txt K g mg w0)  : FnOk P w0 K mg base CX0 1 f fd ["_law_cell","_law_place"] (ZaL K g):=by
  refine F.ok XT (λ vs H Q E h=>?_) (λ cdv A outer s H vs Q E hr h=>?_)
  . obtain⟨c,p,rfl,_⟩:=h;rfl
  obtain⟨c,p,rfl,q⟩:=h;refine⟨_,(
(Zf (ZI (Zo op_ge (pv 0) (Zi op_pow Zd Zd) (Zu _))
 (Zg (Zl (pv 0)))
 Zs)
 (Zf (Zr (i:=2) XT.nd rfl (Or.inl rfl) (Zi ZJ (Zi ZL (Zi ZL (Zi Zay (pv 0) Zd) (Zi Zay (pv 1) Zd)) Zd) Zd))
 (Zf (Zr (i:=3) XT.nd rfl (Or.inl rfl) (Zi ZJ (Zi ZL (Zi ZL (Zi Zay (pv 2) (pv 2)) (Zi Zay (pv 0) Zd)) (Zi Zay (pv 1) Zd)) Zd))
 (Zg (Zl (Zi ZL (Zi Zay (pv 2) Zd) (pv 3)))))))),?_⟩
  refine⟨_,rfl,_,_,rfl,rfl,⟨by decide,by decide,by decide⟩,_,_,rfl,rfl,_,rfl,?_⟩;refine Yb (λ _=>?_) (λ _=>?_)
  . exact⟨_,rfl,q _⟩
  . have small:∀ z:Int,(-(2 ^ 64)<z % 2147483647/\z % 2147483647<2 ^ 64):=λ z=>⟨by omega,by omega⟩;refine⟨_,rfl,_,_,rfl,rfl, .inr ⟨by decide,by decide⟩,_,rfl,_,_,rfl,rfl, .inr ⟨by decide,by decide⟩,_,_,rfl,rfl,_,_,rfl,rfl,_,_,rfl,rfl,(by show(0:Int)<2147483647;decide),?_⟩;refine⟨_,rfl,_,rfl,_,_,rfl,rfl, .inl (small _),_,rfl,_,_,rfl,rfl, .inr ⟨by decide,by decide⟩,_,_,rfl,rfl,_,rfl,_,_,rfl,rfl, .inr ⟨by decide,by decide⟩,_,_,rfl,rfl,_,_,rfl,rfl,(by show(0:Int)<2147483629;decide),?_⟩;exact⟨_,rfl,_,_,rfl,rfl, .inr ⟨by decide,by decide⟩,_,rfl,_,_,rfl,rfl,q _⟩
theorem Zc8 {f:Addr}{fd:FuncData}(F:Fun K "_law_word" "_law_word" JH f fd)(T:Txt K g mg w0)  : FnOk P w0 K mg base CX0 1 f fd ["_law_n"] (ZaJ K g):=by
  refine F.ok Z3 (λ vs H Q E h=>?_) (λ cdv A outer s H vs Q E hr h=>?_)
  . obtain⟨n,rfl,_⟩:=h;rfl
  obtain⟨n,rfl,q⟩:=h;refine⟨_,(
(Zf (Zr (i:=1) Z3.nd rfl (Or.inl rfl) (Zi ZL Zd (Zi ZJ (pv 0) Zd)))
 (Zf (Zr (i:=0) Z3.nd rfl (Or.inl rfl) (Zi ZD (pv 0) Zd))
 (Zf (Zr (i:=2) Z3.nd rfl (Or.inl rfl) Zh)
 (Zf (YO PassesOwn.never rfl (Xe rfl T.z_range (Za (pv 1) Zb)) (Zx (i:=3) Z3.nd rfl (Or.inl rfl))
 (Zf (Zr (i:=2) Z3.nd rfl (Or.inl rfl) (Zi Zt (pv 2) (ZC ZbD Zh (Zi ZJ (pv 0) Zd) (λ _ _=>rfl))))
 (Zg (Zr (i:=0) Z3.nd rfl (Or.inl rfl) (Zi ZD (pv 0) Zd)))))
 (Zf (ZI (PW.pt (XD (Zo Z0 (pv 2) Zh (Zu _)) (Y4 (Zo Z0 (pv 2) Zh (Zu _)))))
 (Zg (Zl (ZF JB (pv 2) ZW (ZG Zd))))
 Zs)
 (Zg (Zl (pv 2))))))))),?_⟩
  refine⟨_,rfl,_,_,rfl,rfl,(by show(0:Int)<8;decide),_,_,rfl,rfl,?_⟩;refine⟨_,rfl,_,_,rfl,rfl,⟨by decide,by decide⟩,?_⟩;have b1:=emod_lt_of_pos n (show(0:Int)<8 by decide);have b0:=emod_nonneg n (show(8:Int)≠0 by decide);refine⟨_,rfl,1+n % 8,rfl,by omega,by omega,Jm (n:=(1+n % 8).toNat) (λ i σ H2=>H2=H/\∃(n':Int)(z:Str)(v:Option V),σ=[some (.int n'),some (.int (1+n % 8)),some (.str z),v]/\z.length=i/\z.cps.toList.all (inR 97 122)=true) ⟨rfl,_,_,_,rfl,rfl,by decide +kernel⟩ ?_ ?_⟩
  . rintro i σ H2 hi ⟨rfl,n',z,v,rfl,hz,hk⟩;obtain⟨c,hc,hc2⟩:=abc_in (emod_nonneg n' (show(26:Int)≠0 by decide)) (emod_lt_of_pos n' (show(0:Int)<26 by decide));refine⟨_,rfl,_,rfl,_,_,rfl,rfl,(by show(0:Int)<26;decide),abc,_,c,rfl,rfl,by decide +kernel,hc,z,_,rfl,rfl,?_,?_⟩
    . have:(⟨#[c]⟩:Str).length=1:=rfl;have:=Yw (n:=9) (by decide);omega
    . refine⟨_,rfl,_,_,rfl,rfl,⟨by decide,by decide⟩,rfl,_,_,_,rfl,?_,?_⟩
      . rw[Zj,hz];rfl
      . rw[Zz,all_append,hk];simp[hc2]
  . rintro σ H2 ⟨rfl,n',z,v,rfl,hz,hk⟩;have hz8:z.length<=8:=by omega
    have hz1:1<=z.length:=by omega
    have cut:gw (Txt.slice z none (some 3))=true->tRet (tSl (λ x lo hi H Q=>∃ z,x = .str z/\z.length<=sizeLine/\Q (.str (Txt.slice z lo hi)) H) (tVar 2) ZdL (tPart (tC (.int 3)))) { nx:=λ _ H'=>Q .non H',rt:=Q } [some (.int n'),some (.int (1+n % 8)),some (.str z),v] H2:=
      λ hg=>⟨_,rfl,_,rfl,z,rfl,le_of_lt (Yw (by omega)),q _ hg⟩
    refine⟨_,rfl,rfl,_,rfl,?_⟩;refine Yb (λ c=>Xg (cut ?_)) (λ c1=>?_)
    . have e:z="crown":=by injection (of_decide_eq_true c)
      rw[e];decide +kernel
    refine⟨_,rfl,rfl,_,rfl,?_⟩;refine Yb (λ c=>cut ?_) (λ c2=>?_)
    . have e:z="kids":=by injection (of_decide_eq_true c)
      rw[e];decide +kernel
    refine⟨_,rfl,q z ?_⟩;unfold gw;rw[decide_eq_true hz1,decide_eq_true hz8,hk,decide_eq_false (λ e=>c1 (by rw[e];rfl)),decide_eq_false (λ e=>c2 (by rw[e];rfl))];rfl
theorem Zc9 {f:Addr}{fd:FuncData}(F:Fun K "_law_said" "_law_said" JI f fd)(T:Txt K g mg w0)(QaQ:ZbM P w0 K g mg base):FnOk P w0 K mg base CX0 2 f fd ["_law_n"] (ZaK K g):=by
  refine F.ok ZaR (λ vs H Q E h=>?_) (λ cdv A outer s H vs Q E hr h=>?_)
  . obtain⟨n,rfl,_⟩:=h;rfl
  obtain⟨n,rfl,q⟩:=h;refine⟨_,(
(Zf (ZI (Zo Z0 (Zi ZJ (pv 0) Zd) Zd (Zu _))
 (Zf (Zr (i:=1) ZaR.nd rfl (Or.inl rfl) (Ye (Za Zh (Za Zh (Za Zh (Za Zh (Za Zh (Za Zh (Za Zh (Za Zh (Za Zh (Za Zh (Za Zh (Za Zh (Za Zh Zb)))))))))))))))
 (Zg (Zl (ZC Z8 (pv 1) (Zi ZJ (Zi ZD (pv 0) Zd) Zd) (λ _ _=>rfl)))))
 Zs)
 (Zg (Zl (Zy QaQ (h_ hr) (Za (Zi ZD (pv 0) Zd) Zb)))))),?_⟩
  walk_at "g";dsimp only;refine Yb (λ c=>?_) (λ c=>?_)
  . unfold tSeq tAsg;dsimp only;walk_at "g";intro p hp;obtain⟨z,hz,ez⟩:=at_mod Zbo (n / 6) (by decide);have hl:SqL K (upd H p (.lst (Zbo.map V.str))) p (Zbo.map V.str):=SqL.of Zc;have s1:=Ze hp (.lst (Zbo.map V.str));refine⟨_,rfl,_,rfl,_,_,rfl,rfl,⟨by decide,by decide⟩,_,_,rfl,rfl,(by show(0:Int)<13;decide),p,_,_,_,rfl,rfl,hl,ez,q z (ZfQ z hz) _ s1⟩
  . unfold YS;walk_at "g";exact λ z hz=>q z hz H (Zn.refl _)
theorem Zdc {f:Addr}{fd:FuncData}(F:Fun K "_law_name" "_law_name" JL f fd)(T:Txt K g mg w0)(Qaj:JQ P w0 K g mg base):FnOk P w0 K mg base CX0 3 f fd ["_law_n"] (ZaN K g):=by
  refine F.ok Yg (λ vs H Q E h=>?_) (λ cdv A outer s H vs Q E hr h=>?_)
  . obtain⟨n,rfl,_⟩:=h;rfl
  obtain⟨n,rfl,q⟩:=h;refine⟨_,(
(Zf (Zr (i:=1) Yg.nd rfl (Or.inl rfl) (Zy Qaj (h_ hr) (Za (pv 0) Zb)))
 (Zf (Zr (i:=0) Yg.nd rfl (Or.inl rfl) (Zi ZD (pv 0) Zd))
 (Zf (YO PassesOwn.never rfl (Xe rfl T.z_range (Za (ZC Z8 (Ye (Za Zd (Za Zd (Za Zd (Za Zd (Za Zd (Za Zd Zb))))))) (Zi ZJ (pv 0) Zd) (λ _ _=>rfl)) Zb)) (Zx (i:=2) Yg.nd rfl (Or.inl rfl))
 (Zf (Zr (i:=0) Yg.nd rfl (Or.inl rfl) (Zi ZL (Zi ZD (pv 0) Zd) (pv 2)))
 (Zg (Zr (i:=1) Yg.nd rfl (Or.inl rfl) (Zi Zt (Zi Zt (pv 1) Zh) (ZP Xv rfl T.z_str boot_str (Za (Zi ZL Zd (Zi ZJ (pv 0) Zd)) Zb)))))))
 (Zg (Zl (pv 1))))))),?_⟩
  walk_at "g";intro z hz H1 s1;walk_at "g";intro p hp;obtain⟨r,hr1,er⟩:=Zgi [0,1,2,1,5,3] (n / 1000003) (by decide);have hl:SqL K (upd H1 p (.lst (([0,1,2,1,5,3]:List Int).map V.int))) p (([0,1,2,1,5,3]:List Int).map V.int):=SqL.of Zc;have s2:=s1.trans (Ze hp (.lst (([0,1,2,1,5,3]:List Int).map V.int)));have r5:0<=r/\r<=5:=by
    clear er;simp only[mem_cons,List.mem_nil_iff,or_false]at hr1;omega
  walk_at "g";refine⟨by omega,by omega,?_⟩;have s3:Zn H (upd H1 p (HO.lst [V.int 0,V.int 1,V.int 2,V.int 1,V.int 5,V.int 3])):=s2;generalize upd H1 p (HO.lst [V.int 0,V.int 1,V.int 2,V.int 1,V.int 5,V.int 3])=H3 at *;refine Jm (n:=r.toNat) (λ i σ H2=>H2=H3/\∃(m:Int)(y:Str)(v:Option V),σ=[some (.int m),some (.str y),v]/\pok y=true/\ZcR y=i) ⟨rfl,_,z,_,rfl,pok_gw hz,Zge hz⟩ ?_ ?_
  . rintro i σ H2 hi ⟨rfl,m,y,v,rfl,hy,hd⟩;have yl:=ZV hy;have big:2000<=sizeLine:=by decide
    have k1:=kid_of y (m / 99+(0+(i:Int)));have c0:=emod_nonneg (m / 99+(0+(i:Int))) (show(99:Int)≠0 by decide);have c1:=emod_lt_of_pos (m / 99+(0+(i:Int))) (show(0:Int)<99 by decide);have py:=ZfY (i:=((m / 99+(0+(i:Int))) % 99).toNat) hy (by omega) (by omega);have pl:=ZV py;have dy:=Zfy y ((m / 99+(0+(i:Int))) % 99).toNat;have l1:(".":Str).length=1:=by decide +kernel
    walk_at "g";refine⟨by omega,?_⟩;walk_at "g";refine⟨log4i (by omega) (by omega),?_⟩;walk_at "g";rw[<- k1,Zj]at pl;refine⟨by omega,?_⟩;unfold Zdk;dsimp only;exact⟨rfl,_,_,_,rfl,by rw[k1];exact py,by rw[k1,dy,hd]⟩
  . rintro σ H2 ⟨rfl,m,y,v,rfl,hy,hd⟩;walk_at "g";exact q y hy _ s3
theorem Za2 {f:Addr}{fd:FuncData}(F:Fun K "_law_any_need" "_law_any_need" YN f fd)(T:Txt K g mg w0)(Qad:JS P w0 K g mg base)(Qaj:JQ P w0 K g mg base):FnOk P w0 K mg base CX0 4 f fd ["_law_n"] (XC K g):=by
  refine F.ok Yd (λ vs H Q E h=>?_) (λ cdv A outer s H vs Q E hr h=>?_)
  . obtain⟨n,rfl,_⟩:=h;rfl
  obtain⟨n,rfl,q⟩:=h;refine⟨_,(
(Zf (Zr (i:=1) Yd.nd rfl (Or.inl rfl) (Zi ZJ (pv 0) Zd))
 (Zf (Zr (i:=2) Yd.nd rfl (Or.inl rfl) (ZC Z8 (Ye (Za (Zi ZJ (Zi ZD (pv 0) Zd) Zd) (Za (Zi ZJ (Zi ZD (pv 0) Zd) Zd) (Za Zd (Za Zd Zb))))) (Zi ZJ (Zi ZD (pv 0) Zd) Zd) (λ _ _=>rfl)))
 (Zf (Zr (i:=0) Yd.nd rfl (Or.inl rfl) (Zi ZD (pv 0) Zd))
 (Zf (ZI (Zo Z0 (pv 1) Zd (Zu _))
 (Zg (Zl (ZZ (Za Zh (Za (pv 2) Zb)))))
 Zs)
 (Zf (ZI (Zo Z0 (pv 1) Zd (Zu _))
 (Zg (Zl (ZZ (Za Zh (Za (Zy Qaj (h_ hr) (Za (pv 0) Zb)) Zb)))))
 Zs)
 (Zf (ZI (Zo Z0 (pv 1) Zd (Zu _))
 (Zg (Zl (ZZ (Za Zh (Za (Zy Qad (h_ hr) (Za (pv 0) Zb)) Zb)))))
 Zs)
 (Zf (ZI (Zo Z0 (pv 1) Zd (Zu _))
 (Zg (Zl (ZZ (Za Zh (Za (Zy Qad (h_ hr) (Za (pv 0) Zb)) Zb)))))
 Zs)
 (Zg (Zl (ZZ (Za Zh (Za (Zy Qad (h_ hr) (Za (pv 0) Zb)) (Za (pv 2) Zb)))))))))))))),?_⟩
  walk_at "g";intro p hp;have hn:∃ m:Nat,m<10000/\atI [V.int (n / 5 % 10000),V.int (n / 5 % 10),V.int 0,V.int 9999] (n / 50000 % 4)=some (V.int m):=by
    have h4:n / 50000 % 4=0\/n / 50000 % 4=1\/n / 50000 % 4=2\/n / 50000 % 4=3:=by omega
    rcases h4 with e|e|e|e
    . exact⟨(n / 5 % 10000).toNat,by omega,by rw[e,Int.toNat_of_nonneg (by omega)];exact ZE (j:=0) rfl⟩
    . exact⟨(n / 5 % 10).toNat,by omega,by rw[e,Int.toNat_of_nonneg (by omega)];exact ZE (j:=1) rfl⟩
    . exact⟨0,by omega,by rw[e];exact ZE (j:=2) rfl⟩
    . exact⟨9999,by omega,by rw[e];exact ZE (j:=3) rfl⟩
  obtain⟨m,hm,em⟩:=hn;have hl:SqL K (upd H p (.lst [V.int (n / 5 % 10000),V.int (n / 5 % 10),V.int 0,V.int 9999])) p [V.int (n / 5 % 10000),V.int (n / 5 % 10),V.int 0,V.int 9999]:=SqL.of Zc;have s1:=Ze hp (.lst [V.int (n / 5 % 10000),V.int (n / 5 % 10),V.int 0,V.int 9999]);walk_at "g";dsimp only;have s1:Zn H (upd H p (.lst [V.int (n / 5 % 10000),V.int (n / 5 % 10),V.int 0,V.int 9999])):=s1;generalize upd H p (.lst [V.int (n / 5 % 10000),V.int (n / 5 % 10),V.int 0,V.int 9999])=H1 at *;refine Yb (λ c=>?_) (λ c=>?_)
  . walk_at "g";intro p2 hp2;exact q _ p2 _ (.inl ⟨m,hm,rfl⟩) (s1.trans (Ze hp2 _)) (s1.free hp2) Zc
  unfold YS;walk_at "g";dsimp only;refine Yb (λ c=>?_) (λ c=>?_)
  . walk_at "g";intro z hz H2 s2;walk_at "g";intro p2 hp2;exact q _ p2 _ (.inr (.inl ⟨z,hz,rfl⟩)) ((s1.trans s2).trans (Ze hp2 _)) ((s1.trans s2).free hp2) Zc
  walk_at "g";dsimp only;refine Yb (λ c=>?_) (λ c=>?_)
  . walk_at "g";intro z hz H2 s2;walk_at "g";intro p2 hp2;exact q _ p2 _ (.inr (.inr (.inl ⟨"born",z, .inl rfl,hz,rfl⟩))) ((s1.trans s2).trans (Ze hp2 _)) ((s1.trans s2).free hp2) Zc
  walk_at "g";dsimp only;refine Yb (λ c=>?_) (λ c=>?_)
  . walk_at "g";intro z hz H2 s2;walk_at "g";intro p2 hp2;exact q _ p2 _ (.inr (.inr (.inl ⟨"dead",z, .inr rfl,hz,rfl⟩))) ((s1.trans s2).trans (Ze hp2 _)) ((s1.trans s2).free hp2) Zc
  walk_at "g";intro z hz H2 s2;walk_at "g";intro p2 hp2;exact q _ p2 _ (.inr (.inr (.inr ⟨z,m,hz,hm,rfl⟩))) ((s1.trans s2).trans (Ze hp2 _)) ((s1.trans s2).free hp2) Zc
theorem Zbz {f:Addr}{fd:FuncData}(F:Fun K "_law_any_row" "_law_any_row" Y1 f fd)(T:Txt K g mg w0)(Qad:JS P w0 K g mg base)(QaR:Je P w0 K g mg base)(Qag:JR P w0 K g mg base):FnOk P w0 K mg base CX0 5 f fd ["_law_m"] (XO K g):=by
  refine F.ok ZQ (λ vs H Q E h=>?_) (λ cdv A outer s H vs Q E hr h=>?_)
  . obtain⟨n,rfl,_⟩:=h;rfl
  obtain⟨n,rfl,q⟩:=h;refine⟨_,(
(Zf (Zr (i:=1) ZQ.nd rfl (Or.inl rfl) (Ye Zb))
 (Zf (YO PassesOwn.never rfl (Xe rfl T.z_range (Za (Zi ZL (Zi ZJ (pv 0) Zd) (Zi ZJ (Zi ZD (pv 0) Zd) Zd)) Zb)) (Zx (i:=2) ZQ.nd rfl (Or.inl rfl))
 (Zg (Za7 (X3 PySem.F.plainAttrs_list PySem.F.slot_list_append PySem.F.type_list_append Jj (pv 1) (Za (Zy QaR (h_ hr) (Za (Zy Qag (h_ hr) (Za (Zi ZL (Zi ZJ (Zi ZD (pv 0) Zd) Zd) (pv 2)) (Za (Zi ZL (pv 2) Zd) Zb))) Zb)) Zb)))))
 (Zf (Zr (i:=0) ZQ.nd rfl (Or.inl rfl) (Zi ZD (pv 0) Zd))
 (Zf (Zr (i:=3) ZQ.nd rfl (Or.inl rfl) (ZZ (Za Zh (Za (Zy Qad (h_ hr) (Za (Zi ZD (pv 0) Zd) Zb)) Zb))))
 (Zf (ZI (Zo Z0 (Zi ZJ (pv 0) Zd) Zd (Zu _))
 (Zg (Zr (i:=3) ZQ.nd rfl (Or.inl rfl) (ZZ (Za Zh (Za (Zy Qad (h_ hr) (Za (Zi ZD (pv 0) Zd) Zb)) (Za (Zi ZJ (Zi ZD (pv 0) Zd) Zd) Zb))))))
 Zs)
 (Zf (Zr (i:=4) ZQ.nd rfl (Or.inl rfl) (Zq (ZeH rfl) rfl T.z_min PyProof.Rows.boot_min (Za (Zq Zw rfl T.z_len boot_len (Za (pv 1) Zb)) (Za (Zi ZJ (Zi ZD (pv 0) Zd) Zd) Zb))))
 (Zg (Zl (ZZ (Za (pv 3) (Za (ZF Z6 (pv 1) ZW (ZG (pv 4))) (Za (ZF Z6 (pv 1) (ZG (pv 4)) ZW) Zb))))))))))))),?_⟩
  walk_at "g";intro l hl;have s1:=Ze hl (.lst []);have A0:AsAt (upd H l (.lst [])) l [] []:=.nil Zc;generalize upd H l (.lst [])=H1 at *;walk_at "g";refine⟨by omega,by omega,?_⟩;refine Jm (n:=(n % 7+n / 7 % 7).toNat) (λ i σ H2=>∃(as:List (List V))(ps:List Addr)(v:Option V),σ=[some (.int n),some (.ref l),v,none,none]/\Zn H H2/\AsAt H2 l as ps/\(∀ a∈as,WA a)/\as.length=i) ⟨[],[],_,rfl,s1,A0,(λ a ha=>nomatch ha),rfl⟩ ?_ ?_
  . rintro i σ H2 hi ⟨as,ps,v,rfl,s2,A,hw,al⟩;have hL:=SqL.of (K:=K) A.lst;walk_at "g";refine⟨.inl ⟨rfl,_,hL⟩,?_⟩;walk_at "g";intro r;walk_at "g";intro ws p H3 wa s3 np hp;have A3:=A.same s3;exact⟨l,_,_,rfl,rfl,A3.lst,Yw (by rw[length_map,A.len];omega),as++[ws],ps++[p],_,rfl,Z7 (s2.trans s3) hl,A3.put hp,(λ a ha=>by rcases List.mem_append.mp ha with h|h;exact hw a h;rw[List.mem_singleton.mp h];exact wa),by rw[length_append,al];rfl⟩
  . rintro σ H2 ⟨as,ps,v,rfl,s2,A,hw,al⟩;have hL:=SqL.of (K:=K) A.lst;have a12:as.length<=12:=by omega
    walk_at "g";intro z hz H3 s3;walk_at "g";intro p3 h3;have s4:Zn H3 (upd H3 p3 (.tup [V.str "one",V.str z])):=Ze h3 _;have hp3:upd H3 p3 (.tup [V.str "one",V.str z]) p3=some (.tup [V.str "one",V.str z]):=Zc;have A4:=A.same (s3.trans s4);have s24:=s2.trans (s3.trans s4);generalize upd H3 p3 (.tup [V.str "one",V.str z])=H4 at *;have J8:True:=trivial;walk_at "g";dsimp only;refine Yb (λ _=>?_) (λ _=>?_)
    . walk_at "g";intro z2 hz2 H5 s5_;walk_at "g";intro p8 h8;have e8:n / 49 / 3 % 10000=(((n / 49 / 3 % 10000).toNat:Nat):Int):=by omega
      have s8:Zn H5 (upd H5 p8 (.tup [V.str "kids",V.str z2,V.int (n / 49 / 3 % 10000)])):=Ze h8 _;have hp8:upd H5 p8 (.tup [V.str "kids",V.str z2,V.int (n / 49 / 3 % 10000)]) p8=some (.tup [V.str "kids",V.str z2,V.int (n / 49 / 3 % 10000)]):=Zc;have A8:=A4.same (s5_.trans s8);have s08:=s24.trans (s5_.trans s8);have w8:WH [V.str "kids",V.str z2,V.int (n / 49 / 3 % 10000)]:=.inr ⟨z2,(n / 49 / 3 % 10000).toNat,hz2,by omega,by rw[<- e8]⟩;generalize upd H5 p8 (.tup [V.str "kids",V.str z2,V.int (n / 49 / 3 % 10000)])=H8 at *;walk_at "g";refine⟨.inl ⟨_,SqL.of A8.lst,rfl⟩,?_⟩;walk_at "g";obtain⟨k,ek⟩:∃ k:Nat,(if n / 49 / 11 % 7<(((ps.map V.ref).length:Nat):Int) then n / 49 / 11 % 7 else (((ps.map V.ref).length:Nat):Int))=(k:Int):=by
        split
        . exact⟨(n / 49 / 11 % 7).toNat,by omega⟩
        . exact⟨_,rfl⟩
      dsimp only;rw[ek];have LX:=SqL.of (K:=K) A8.lst;walk_at "g";intro p5 h5;rw[cutRA];have s5:=Ze h5 (.lst ((ps.map V.ref).take k));have A5:=A8.take s5 Zc;have LY:=s5.seq LX;have B5:=A8.same s5;have X5:=s5 _ _ hp8;have S5:=s08.trans s5;generalize upd _ p5 (.lst ((ps.map V.ref).take k))=H5 at *;walk_at "g";intro p6 h6;rw[cutRB];have s6:=Ze h6 (.lst ((ps.map V.ref).drop k));have A6:=B5.drop s6 Zc;have C6:=A5.same s6;have X6:=s6 _ _ X5;generalize upd H5 p6 (.lst ((ps.map V.ref).drop k))=H6 at *;walk_at "g";intro t ht;have s7:=Ze ht (.tup [.ref p8, .ref p5, .ref p6]);refine q ([V.str "kids",V.str z2,V.int (n / 49 / 3 % 10000)],as.take k,as.drop k) t _ ⟨w8,λ a ha=>hw a (mem_of_mem_take ha),λ a ha=>hw a (List.mem_of_mem_drop ha)⟩ ?_ (S5.trans (s6.trans s7)) ⟨p8,p5,p6,_,_,Zc,s7 _ _ X6,C6.same s7,A6.same s7⟩;show(as.take k).length+(as.drop k).length<=12;rw[length_take,List.length_drop];omega
    . unfold YS;walk_at "g";refine⟨.inl ⟨_,SqL.of A4.lst,rfl⟩,?_⟩;walk_at "g";obtain⟨k,ek⟩:∃ k:Nat,(if n / 49 / 11 % 7<(((ps.map V.ref).length:Nat):Int) then n / 49 / 11 % 7 else (((ps.map V.ref).length:Nat):Int))=(k:Int):=by
        split
        . exact⟨(n / 49 / 11 % 7).toNat,by omega⟩
        . exact⟨_,rfl⟩
      dsimp only;rw[ek];have LX:=SqL.of (K:=K) A4.lst;walk_at "g";intro p5 h5;rw[cutRA];have s5:=Ze h5 (.lst ((ps.map V.ref).take k));have A5:=A4.take s5 Zc;have LY:=s5.seq LX;have B5:=A4.same s5;have X5:=s5 _ _ hp3;have S5:=s24.trans s5;generalize upd _ p5 (.lst ((ps.map V.ref).take k))=H5 at *;walk_at "g";intro p6 h6;rw[cutRB];have s6:=Ze h6 (.lst ((ps.map V.ref).drop k));have A6:=B5.drop s6 Zc;have C6:=A5.same s6;have X6:=s6 _ _ X5;generalize upd H5 p6 (.lst ((ps.map V.ref).drop k))=H6 at *;walk_at "g";intro t ht;have s7:=Ze ht (.tup [.ref p3, .ref p5, .ref p6]);refine q ([V.str "one",V.str z],as.take k,as.drop k) t _ ⟨.inl ⟨z,hz,rfl⟩,λ a ha=>hw a (mem_of_mem_take ha),λ a ha=>hw a (List.mem_of_mem_drop ha)⟩ ?_ (S5.trans (s6.trans s7)) ⟨p3,p5,p6,_,_,Zc,s7 _ _ X6,C6.same s7,A6.same s7⟩;show(as.take k).length+(as.drop k).length<=12;rw[length_take,List.length_drop];omega
theorem ZaB {f:Addr}{fd:FuncData}(F:Fun K "_law_need_text" "_law_need_text" Yz f fd)(T:Txt K g mg w0)  : FnOk P w0 K mg base CX0 1 f fd ["_law_atom"] (Xa K g):=by
  refine F.ok Ym (λ vs H Q E h=>?_) (λ cdv A outer s H vs Q E hr h=>?_)
  . obtain⟨p,ws,rfl,_⟩:=h;rfl
  obtain⟨p,ws,rfl,hp,wa,q⟩:=h;refine⟨_,(
(Zf (Zr (i:=1) Ym.nd rfl (Or.inl rfl) (Zi Zt (Zi Zt (ZC ZO (pv 0) Zd (λ _ _=>rfl)) Zh) (ZP ZaF rfl T.z_str boot_str (Za (ZC ZO (pv 0) Zd (λ _ _=>rfl)) Zb))))
 (Zf (ZI (Zo ZdV (Zq Zw rfl T.z_len boot_len (Za (pv 0) Zb)) Zd (Zu _))
 (Zg (Zr (i:=1) Ym.nd rfl (Or.inl rfl) (Zi Zt (Zi Zt (pv 1) Zh) (ZP ZaF rfl T.z_str boot_str (Za (ZC ZO (pv 0) Zd (λ _ _=>rfl)) Zb)))))
 Zs)
 (Zg (Zl (pv 1)))))),?_⟩
  have big:2000<=sizeLine:=by decide
  obtain⟨wl,wp⟩:=Y7 wa;rcases id wa with ⟨n,hn,rfl⟩|⟨w_,hw,rfl⟩|⟨k,n,hk,hn,rfl⟩|⟨n,i,hn,hi,rfl⟩
  . rw[txA2]at q;have l1:(("year":Str)++" ").length=5:=by decide +kernel
    have l2:=Xs hn;walk_at "g";refine .inl ⟨_,rfl,log4 hn,_,_,rfl,rfl,(by rw[l1];omega),?_⟩;walk_at "g";refine⟨.inr ⟨_,hp,rfl⟩,?_⟩;walk_at "g";exact q
  . rw[txA2]at q;have l1:(("comes":Str)++" ").length=6:=by decide +kernel
    have l2:=ZbG hw;walk_at "g";refine .inr ⟨_,rfl,_,_,rfl,rfl,(by rw[l1];omega),?_⟩;walk_at "g";refine⟨.inr ⟨_,hp,rfl⟩,?_⟩;walk_at "g";exact q
  . rw[txA2]at q;have l0:k.length=4:=by rcases hk with rfl|rfl <;> decide +kernel
    have l00:(" ":Str).length=1:=by decide +kernel
    have l1:(k++" ").length=5:=by rw[Zj,l0,l00]
    have l2:=ZV hn;walk_at "g";refine⟨by omega,?_⟩;walk_at "g";refine .inr ⟨_,rfl,_,_,rfl,rfl,(by rw[l1];omega),?_⟩;walk_at "g";refine⟨.inr ⟨_,hp,rfl⟩,?_⟩;walk_at "g";exact q
  . rw[txA3]at q;have l00:(" ":Str).length=1:=by decide +kernel
    have l1:(("age":Str)++" ").length=4:=by decide +kernel
    have l2:=ZV hn;have l3:=Xs hi;have l4:(("age":Str)++" "++n).length=4+n.length:=by rw[Zj,l1]
    have l5:(("age":Str)++" "++n++" ").length=4+n.length+1:=by rw[Zj,l4,l00]
    walk_at "g";refine .inr ⟨_,rfl,_,_,rfl,rfl,(by rw[l1];omega),?_⟩;walk_at "g";refine⟨.inr ⟨_,hp,rfl⟩,?_⟩;walk_at "g";refine⟨by rw[l4,l00];omega,?_⟩;walk_at "g";refine .inl ⟨_,rfl,log4 hi,_,_,rfl,rfl,(by rw[l5];omega),?_⟩;walk_at "g";exact q
theorem Za1 {f:Addr}{fd:FuncData}(F:Fun K "_law_row_text" "_law_row_text" Z4 f fd)(T:Txt K g mg w0)(Qat:XH P w0 K g mg base):FnOk P w0 K mg base CX0 2 f fd ["_law_row"] (XB K g):=by
  refine F.ok Zv (λ vs H Q E h=>?_) (λ cdv A outer s H vs Q E hr h=>?_)
  . obtain⟨t,r,rfl,_⟩:=h;rfl
  obtain⟨t,r,rfl,R,w,l12,q⟩:=h;obtain⟨ph,pn,pe,qs,es,h1,h2,h3,h4⟩:=R.ex;have hT:=SqT.of (K:=K) h1;have hH:=SqT.of (K:=K) h2;have e1:(" when ":Str)=spc++"when"++spc:=by decide +kernel
  have e2:(" and ":Str)=spc++"and"++spc:=by decide +kernel
  have e3:(" until ":Str)=spc++"until"++spc:=by decide +kernel
  have e4:(" or ":Str)=spc++"or"++spc:=by decide +kernel
  have tx:=Zdq r.1 r.2.1 r.2.2 w.1;have J8:PSs (Zp CX0 P w0 K mg base ["_law_row","_law_holder","_law_atoms","_law_ends","_law_text","_law_k","_law_atom","_law_end"] "_law_row_text" (Zk Z4) f cdv A outer s H E).nox ((Yk Z4).drop 3) (λ D σ H1=>∃ v5 v6 v7,σ=[some (.ref t),some (.ref ph),some (.ref pn),some (.ref pe),some (.str ("to "++Str.join spc (wdH r.1))),v5,v6,v7]/\Zn H H1/\∀ H',Zn H H'->D.rt (.str (txR r)) H'):=by
    refine @Zgn _ _ _ _ ((Zf (YO PassesOwn.never rfl (ZdQ rfl T.z_enumerate (Za (pv 2) Zb)) (Xp rfl (ZB (Zx (i:=5) Zv.nd rfl (Or.inl rfl)) (ZB (Zx (i:=6) Zv.nd rfl (Or.inl rfl)) Yq)))
 (Zg (Zr (i:=4) Zv.nd rfl (Or.inl rfl) (Zi Zt (Zi Zt (pv 4) (ZC Z8 (Ye (Za Zh (Za Zh Zb))) (ZP Zci rfl T.z_int PyProof.Rows.boot_int (Za (YK Z0 (pv 5) Zd (Zu _)) Zb)) (λ _ _=>rfl))) (Zy Qat (h_ hr) (Za (pv 6) Zb))))))
 (Zf (YO PassesOwn.never rfl (ZdQ rfl T.z_enumerate (Za (pv 3) Zb)) (Xp rfl (ZB (Zx (i:=5) Zv.nd rfl (Or.inl rfl)) (ZB (Zx (i:=7) Zv.nd rfl (Or.inl rfl)) Yq)))
 (Zg (Zr (i:=4) Zv.nd rfl (Or.inl rfl) (Zi Zt (Zi Zt (pv 4) (ZC Z8 (Ye (Za Zh (Za Zh Zb))) (ZP Zci rfl T.z_int PyProof.Rows.boot_int (Za (YK Z0 (pv 5) Zd (Zu _)) Zb)) (λ _ _=>rfl))) (Zy Qat (h_ hr) (Za (pv 7) Zb))))))
 (Zg (Zl (pv 4)))))) ?_
    rintro D σ H1 ⟨v5,v6,v7,rfl,s1,q⟩;have bl:(("to ":Str)++Str.join spc (wdH r.1)).length<=50:=by
      have:=Zco w.1;have l5:("to ":Str).length=3:=by decide +kernel
      rw[Zj,l5];omega
    walk_at "g";refine⟨⟨_,SqL.of (h3.same s1).lst⟩,Zdl (xs:=qs.map V.ref) (λ i σ H2=>∃ v5 v6 v7 y,σ=[some (.ref t),some (.ref ph),some (.ref pn),some (.ref pe),some (.str y),v5,v6,v7]/\Zn H H2/\y=("to "++Str.join spc (wdH r.1))++apT "when" "and" (r.2.1.take i)) ⟨_,_,_,_,rfl,s1,by rw[List.take_zero];exact(Zdm _).symm⟩ ?_ ?_ ?_⟩
    . rintro i σ H2 _ ⟨v5,v6,v7,y,rfl,s2,_⟩;exact SqL.of (h3.same s2).lst
    . rintro i x σ H2 T hx ⟨v5,v6,v7,y,rfl,s2,ey⟩ hT;have hi:i<r.2.1.length:=by
        have:=(List.getElem?_eq_some_iff.mp hx).1;rw[length_map,h3.len]at this;exact this
      obtain⟨p,hp,hq⟩:=(h3.same s2).get hi;rw[getElem?_map,hp]at hx;cases hx;have wi:=w.2.1 _ (getElem_mem hi);have st:=stepT (y:=("to "++Str.join spc (wdH r.1))) (s:="when") (j:="and") hi wi;rw[<- ey]at st;have al:=Xw (s:="when") (j:="and") (by decide +kernel) (by decide +kernel) _ rfl (as:=r.2.1.take i) (λ a ha=>w.2.1 a (mem_of_mem_take ha));rw[length_take]at al;have ml:min i r.2.1.length * 50<=12 * 50:=Nat.mul_le_mul (by omega) (le_refl _);have yl:y.length<=700:=by rw[ey,Zj];omega
      have t40:=Jg wi;have s3:=Ze hT (.tup [.int (i:Int), .ref p]);have T3:SqT K (upd H2 T (.tup [.int (i:Int), .ref p])) T [.int (i:Int), .ref p]:=SqT.of Zc;have hq3:=s3 _ _ hq;have s23:=s2.trans s3;generalize upd H2 T (.tup [.int (i:Int), .ref p])=H3 at *;walk_at "g";intro p8 h8;have s8:Zn H3 (upd H3 p8 (.lst [V.str " and ",V.str " when "])):=Ze h8 _;have L8:SqL K (upd H3 p8 (.lst [V.str " and ",V.str " when "])) p8 [V.str " and ",V.str " when "]:=SqL.of Zc;have T8:=SqT.of (K:=K) (s8 _ _ hq3);have s28:=s23.trans s8;generalize upd H3 p8 (.lst [V.str " and ",V.str " when "])=H8 at *;have ix:atI [V.str " and ",V.str " when "] (if decide (V.int (i:Int)=V.int 0)=true then 1 else 0)=some (V.str (if i=0 then spc++"when"++spc else spc++"and"++spc)):=by
        by_cases c:i=0
        . rw[if_pos (decide_eq_true (show V.int (i:Int)=V.int 0 by rw[c];rfl)),if_pos c,<- e1];exact ZE (j:=1) rfl
        . rw[if_neg (show ¬ decide (V.int (i:Int)=V.int 0)=true from λ z=>c (by have z2:=of_decide_eq_true z;injection z2 with z2;omega)),if_neg c,<- e2];exact ZE (j:=0) rfl
      have lo:(if i=0 then spc++"when"++spc else spc++"and"++spc).length<=10:=by split <;> decide +kernel
      have lo2:(y++(if i=0 then spc++"when"++spc else spc++"and"++spc)).length<=700+10:=by rw[Zj];omega
      walk_at "g";refine .inr ⟨_,rfl,p8,_,_,_,rfl,rfl,L8,ix,?_⟩;refine⟨_,_,rfl,rfl,Zm (by omega),?_⟩;refine⟨_,rfl,p,_,rfl,T8,wi,?_⟩;refine⟨_,_,rfl,rfl,Zm (by omega),?_⟩;exact⟨_,_,_,_,rfl,s28,st⟩
    . rintro σ H2 ⟨v5,v6,v7,y,rfl,s2,ey⟩;rw[length_map,h3.len,take_length]at ey;have bl2:(("to ":Str)++Str.join spc (wdH r.1)++apT "when" "and" r.2.1).length<=700:=by
        have al:=Xw (s:="when") (j:="and") (by decide +kernel) (by decide +kernel) _ rfl w.2.1;rw[Zj];omega
      walk_at "g";refine⟨⟨_,SqL.of (h4.same s2).lst⟩,Zdl (xs:=es.map V.ref) (λ i σ H2=>∃ v5 v6 v7 y,σ=[some (.ref t),some (.ref ph),some (.ref pn),some (.ref pe),some (.str y),v5,v6,v7]/\Zn H H2/\y=("to "++Str.join spc (wdH r.1)++apT "when" "and" r.2.1)++apT "until" "or" (r.2.2.take i)) ⟨_,_,_,_,rfl,s2,by rw[List.take_zero,ey];exact(Zdm _).symm⟩ ?_ ?_ ?_⟩
      . rintro i σ H2 _ ⟨v5,v6,v7,y,rfl,s2,_⟩;exact SqL.of (h4.same s2).lst
      . rintro i x σ H2 T hx ⟨v5,v6,v7,y,rfl,s2,ey⟩ hT;have hi:i<r.2.2.length:=by
          have:=(List.getElem?_eq_some_iff.mp hx).1;rw[length_map,h4.len]at this;exact this
        obtain⟨p,hp,hq⟩:=(h4.same s2).get hi;rw[getElem?_map,hp]at hx;cases hx;have wi:=w.2.2 _ (getElem_mem hi);have st:=stepT (y:=("to "++Str.join spc (wdH r.1)++apT "when" "and" r.2.1)) (s:="until") (j:="or") hi wi;rw[<- ey]at st;have al:=Xw (s:="until") (j:="or") (by decide +kernel) (by decide +kernel) _ rfl (as:=r.2.2.take i) (λ a ha=>w.2.2 a (mem_of_mem_take ha));rw[length_take]at al;have ml:min i r.2.2.length * 50<=12 * 50:=Nat.mul_le_mul (by omega) (le_refl _);have yl:y.length<=1500:=by rw[ey,Zj];omega
        have t40:=Jg wi;have s3:=Ze hT (.tup [.int (i:Int), .ref p]);have T3:SqT K (upd H2 T (.tup [.int (i:Int), .ref p])) T [.int (i:Int), .ref p]:=SqT.of Zc;have hq3:=s3 _ _ hq;have s23:=s2.trans s3;generalize upd H2 T (.tup [.int (i:Int), .ref p])=H3 at *;walk_at "g";intro p8 h8;have s8:Zn H3 (upd H3 p8 (.lst [V.str " or ",V.str " until "])):=Ze h8 _;have L8:SqL K (upd H3 p8 (.lst [V.str " or ",V.str " until "])) p8 [V.str " or ",V.str " until "]:=SqL.of Zc;have T8:=SqT.of (K:=K) (s8 _ _ hq3);have s28:=s23.trans s8;generalize upd H3 p8 (.lst [V.str " or ",V.str " until "])=H8 at *;have ix:atI [V.str " or ",V.str " until "] (if decide (V.int (i:Int)=V.int 0)=true then 1 else 0)=some (V.str (if i=0 then spc++"until"++spc else spc++"or"++spc)):=by
          by_cases c:i=0
          . rw[if_pos (decide_eq_true (show V.int (i:Int)=V.int 0 by rw[c];rfl)),if_pos c,<- e3];exact ZE (j:=1) rfl
          . rw[if_neg (show ¬ decide (V.int (i:Int)=V.int 0)=true from λ z=>c (by have z2:=of_decide_eq_true z;injection z2 with z2;omega)),if_neg c,<- e4];exact ZE (j:=0) rfl
        have lo:(if i=0 then spc++"until"++spc else spc++"or"++spc).length<=10:=by split <;> decide +kernel
        have lo2:(y++(if i=0 then spc++"until"++spc else spc++"or"++spc)).length<=1500+10:=by rw[Zj];omega
        walk_at "g";refine .inr ⟨_,rfl,p8,_,_,_,rfl,rfl,L8,ix,?_⟩;refine⟨_,_,rfl,rfl,Zm (by omega),?_⟩;refine⟨_,rfl,p,_,rfl,T8,wi,?_⟩;refine⟨_,_,rfl,rfl,Zm (by omega),?_⟩;exact⟨_,_,_,_,rfl,s28,st⟩
      . rintro σ H2 ⟨v5,v6,v7,y,rfl,s2,ey⟩;rw[length_map,h4.len,take_length]at ey;walk_at "g";have z:=q _ s2;rw[show txR r=_ from tx,<- ey]at z;exact z
  refine⟨_,(Zf (JO (pv 0) (Xp rfl (ZB (Zx (i:=1) Zv.nd rfl (Or.inl rfl)) (ZB (Zx (i:=2) Zv.nd rfl (Or.inl rfl)) (ZB (Zx (i:=3) Zv.nd rfl (Or.inl rfl)) Yq)))))
 (Zf (Zr (i:=4) Zv.nd rfl (Or.inl rfl) (Zi Zt Zh (ZC ZO (pv 1) Zd (λ _ _=>rfl))))
 (Zf (ZI (Zo Z0 (ZC ZO (pv 1) Zd (λ _ _=>rfl)) Zh (Zu _))
 (Zg (Zr (i:=4) Zv.nd rfl (Or.inl rfl) (Zi Zt (Zi Zt (Zi Zt Zh (ZC ZO (pv 1) Zd (λ _ _=>rfl))) Zh) (ZP Xv rfl T.z_str boot_str (Za (ZC ZO (pv 1) Zd (λ _ _=>rfl)) Zb)))))
 Zs)
 @J8))),?_⟩
  have l3:("to ":Str).length=3:=by decide +kernel
  have l8:("to kids ":Str).length=8:=by decide +kernel
  have l0:(" ":Str).length=1:=by decide +kernel
  rcases id w.1 with ⟨n,hn,e⟩|⟨n,i,hn,hi,e⟩
  . rw[e]at hH;have nl:=ZV hn;walk_at "g";refine⟨Zm (by omega),?_⟩;walk_at "g";exact⟨by rw[e];rfl,Zn.refl _,q⟩
  . rw[e]at hH;have nl:=ZV hn;have il:=Xs hi;walk_at "g";refine⟨Zm (by omega),?_⟩;walk_at "g";refine⟨Zm (by omega),?_⟩;have l9:(("to kids ":Str)++n).length=8+n.length:=by rw[Zj,l8]
    have l10:(("to kids ":Str)++n++" ").length=8+n.length+1:=by rw[Zj,l9,l0]
    walk_at "g";refine⟨Zm (by omega),?_⟩;walk_at "g";refine⟨log4 hi,?_⟩;refine⟨_,_,rfl,rfl,Zm (by omega),?_⟩;exact⟨_,_,_,by rw[kidsT,e];rfl,Zn.refl _,q⟩
theorem ZbY {f:Addr}{fd:FuncData}(F:Fun K "_law_spoilt" "_law_spoilt" Xl f fd)(T:Txt K g mg w0)  : FnOk P w0 K mg base CX0 1 f fd ["_law_text","_law_n"] (Jp K g):=by
  refine F.ok ZN (λ vs H Q E h=>?_) (λ cdv A outer s H vs Q E hr h=>?_)
  . obtain⟨x,n,rfl,_⟩:=h;rfl
  obtain⟨x,n,rfl,hx,xo,q⟩:=h;have hW:=Zff xo;have so:PyData.strOk ((" !\"#$&'()*+,-./0123456789:;<=>?@ABCDEFGHIJKLMNOPQRSTUVWXYZ[\\]^_`":Str)++"abcdefghijklmnopqrstuvwxyz{|}~\n")=true:=by decide +kernel
  refine⟨_,(
(Zf (Zr (i:=2) ZN.nd rfl (Or.inl rfl) Zh)
 (Zf (Zr (i:=2) ZN.nd rfl (Or.inl rfl) (Zi Zt (pv 2) Zh))
 (Zf (Zr (i:=3) ZN.nd rfl (Or.inl rfl) (Zi ZJ (Zi ZD (pv 1) Zd) (Zi ZL (Zq Zw rfl T.z_len boot_len (Za (pv 0) Zb)) Zd)))
 (Zf (Zr (i:=1) ZN.nd rfl (Or.inl rfl) (Zi ZD (pv 1) Zd))
 (Zf (Zr (i:=4) ZN.nd rfl (Or.inl rfl) (ZC ZbD (pv 2) (Zi ZJ (pv 1) (Zq Zw rfl T.z_len boot_len (Za (pv 2) Zb))) (λ _ _=>rfl)))
 (Zf (ZI (Zo Z0 (Zi ZJ (Zi ZD (pv 1) Zd) Zd) Zd (Zu _))
 (Zg (Zr (i:=4) ZN.nd rfl (Or.inl rfl) (ZC ZbD Zh (Zi ZJ (Zi ZD (pv 1) Zd) Zd) (λ _ _=>rfl))))
 Zs)
 (Zf (ZI (Zo Z0 (Zi ZJ (Zi ZD (pv 1) Zd) Zd) Zd (Zu _))
 (Zg (Zl (Zi Zt (Zi Zt (ZF JB (pv 0) ZW (ZG (pv 3))) (pv 4)) (ZF JB (pv 0) (ZG (pv 3)) ZW))))
 Zs)
 (Zf (ZI (Zo Z0 (Zi ZJ (Zi ZD (pv 1) Zd) Zd) Zd (Zu _))
 (Zg (Zl (Zi Zt (ZF JB (pv 0) ZW (ZG (pv 3))) (ZF JB (pv 0) (ZG (Zi ZL (pv 3) Zd)) ZW))))
 Zs)
 (Zf (ZI (Zo Z0 (Zi ZJ (Zi ZD (pv 1) Zd) Zd) Zd (Zu _))
 (Zg (Zl (Zi Zt (Zi Zt (ZF JB (pv 0) ZW (ZG (pv 3))) (pv 4)) (ZF JB (pv 0) (ZG (Zi ZL (pv 3) Zd)) ZW))))
 Zs)
 (Zf (Zr (i:=5) ZN.nd rfl (Or.inl rfl) (X3 plainAttrs_str PySem.F.slot_str_split PySem.F.type_str_split Zae (pv 0) (Za Zh Zb)))
 (Zf (Zr (i:=3) ZN.nd rfl (Or.inl rfl) (Zi ZJ (pv 3) (Zq Zw rfl T.z_len boot_len (Za (pv 5) Zb))))
 (Zf (ZI (Zo Z0 (Zi ZJ (Zi ZD (pv 1) Zd) Zd) Zd (Zu _))
 (Zg (Zl (X3 plainAttrs_str PySem.F.slot_str_join PySem.F.type_str_join Zaf Zh (Za (Zi Xr (ZF Z6 (pv 5) ZW (ZG (pv 3))) (ZF Z6 (pv 5) (ZG (Zi ZL (pv 3) Zd)) ZW)) Zb))))
 Zs)
 (Zf (ZI (Zo Z0 (Zi ZJ (Zi ZD (pv 1) Zd) Zd) Zd (Zu _))
 (Zg (Zl (X3 plainAttrs_str PySem.F.slot_str_join PySem.F.type_str_join Zaf Zh (Za (Zi Xr (Zi Xr (ZF Z6 (pv 5) ZW (ZG (pv 3))) (Ye (Za (ZC Z8 (pv 5) (pv 3) (λ _ _=>rfl)) Zb))) (ZF Z6 (pv 5) (ZG (pv 3)) ZW)) Zb))))
 Zs)
 (Zg (Zl (X3 plainAttrs_str PySem.F.slot_str_join PySem.F.type_str_join Zaf Zh (Za (Zi Xr (ZF Z6 (pv 5) (ZG (pv 3)) ZW) (ZF Z6 (pv 5) ZW (ZG (pv 3)))) Zb)))))))))))))))))),?_⟩
  have sg:((" !\"#$&'()*+,-./0123456789:;<=>?@ABCDEFGHIJKLMNOPQRSTUVWXYZ[\\]^_`":Str)++"abcdefghijklmnopqrstuvwxyz{|}~\n").length=95:=by decide +kernel
  walk_at "g";refine⟨⟨Zm (by omega),rfl⟩,?_⟩;walk_at "g";refine⟨(by show(0:Int)<((x.length:Nat):Int)+1;omega),?_⟩;have p0:=emod_nonneg (n / 7) (show((x.length:Nat):Int)+1≠0 by omega);dsimp only;generalize n / 7 % (((x.length:Nat):Int)+1)=at0 at *;generalize (" !\"#$&'()*+,-./0123456789:;<=>?@ABCDEFGHIJKLMNOPQRSTUVWXYZ[\\]^_`":Str)++"abcdefghijklmnopqrstuvwxyz{|}~\n"=sgs at *;walk_at "g";refine⟨⟨Zm (by omega),rfl⟩,?_⟩;have hp':(0:Int)<((sgs.length:Nat):Int):=by omega
  obtain⟨c,hc⟩:=ZeU (z:=sgs) (emod_nonneg (n / 700) (show((sgs.length:Nat):Int)≠0 by omega)) (emod_lt_of_pos (n / 700) hp');have oc:=ok_at so hc;walk_at "g";refine⟨Zm (by omega),hc,?_⟩;have hx0:x.length<=sizeLine:=Zm (by omega);have l1:=λ a b=>Txt.slice_le x a b;have la:=l1 none (some at0);have lb:=l1 (some at0) none;have lc:=l1 (some (at0+1)) none;have ls:∀ c:Nat,(⟨#[c]⟩:Str).length=1:=λ _=>rfl;have ld:∀ c:Nat,(Txt.slice x none (some at0)++⟨#[c]⟩).length=(Txt.slice x none (some at0)).length+1:=λ c=>Zj _ _;walk_at "g";dsimp only;refine Yb (λ _=>?_) (λ _=>?_)
  . obtain⟨c2,hc2⟩:=ZeU (z:=(" .0/:;a\n":Str)) (emod_nonneg (n / 700 / 200) (show(8:Int)≠0 by decide)) (by show n / 700 / 200 % 8<8;exact emod_lt_of_pos _ (by decide));have oc2:=ok_at (x:=(" .0/:;a\n":Str)) (by decide +kernel) hc2;walk_at "g";dsimp only;refine Yb (λ _=>?_) (λ _=>?_)
    . walk_at "g";refine⟨Zm (by have:=ls c2;omega),?_⟩;walk_at "g";refine⟨Zm (by rw[ld];omega),?_⟩;exact q _ (by rw[Zj,ld];omega) (by rw[YU,YU,Z1 xo,Z1 xo,oc2];rfl) H (Zn.refl _)
    unfold YS;walk_at "g";dsimp only;refine Yb (λ _=>?_) (λ _=>?_)
    . walk_at "g";refine⟨Zm (by omega),?_⟩;exact q _ (by rw[Zj];omega) (by rw[YU,Z1 xo,Z1 xo];rfl) H (Zn.refl _)
    walk_at "g";dsimp only;refine Yb (λ _=>?_) (λ _=>?_)
    . walk_at "g";refine⟨Zm (by have:=ls c2;omega),?_⟩;walk_at "g";refine⟨Zm (by rw[ld];omega),?_⟩;exact q _ (by rw[Zj,ld];omega) (by rw[YU,YU,Z1 xo,Z1 xo,oc2];rfl) H (Zn.refl _)
    walk_at "g";refine⟨?_,λ l hl=>?_⟩
    . rw[PyProof.Rows.len_partsBetween];have:=StrLaws.occ_length_le x " " 0 x.length (x.length+1);exact Zm (by omega)
    have el:(Txt.split x " ").map V.str=(spl x).map V.str:=by rw[XJ];rfl
    rw[el];have s1:=Ze hl (.lst ((spl x).map V.str));have hS:SqL K (upd H l (.lst ((spl x).map V.str))) l ((spl x).map V.str):=SqL.of Zc;generalize upd H l (.lst ((spl x).map V.str))=H1 at *;walk_at "g";refine⟨.inl ⟨_,hS,rfl⟩,?_⟩;have wp:(0:Int)<((((spl x).map V.str).length:Nat):Int):=by rw[length_map];have:=List.length_pos_iff.mpr (Zbh x);omega
    have w0:=emod_nonneg at0 (show((((spl x).map V.str).length:Nat):Int)≠0 by omega);have w1:=emod_lt_of_pos at0 wp;obtain⟨j,ej⟩:∃ j:Nat,at0 % ((((spl x).map V.str).length:Nat):Int)=(j:Int):=⟨_,(Int.toNat_of_nonneg w0).symm⟩;have hj:j<(spl x).length:=by rw[length_map]at ej w1;omega
    have ej1:(j:Int)+1=((j+1:Nat):Int):=by omega
    have z0:=ZdN x;have z1:=JU (spl x) j;have z2:=JU (spl x) (j+1);have z3:=ZeS hj;have atj:atI ((spl x).map V.str) (j:Int)=some (V.str (spl x)[j]):=ZE (by rw[getElem?_map,getElem?_eq_getElem hj];rfl);walk_at "g";dsimp only;rw[ej];refine Yb (λ _=>?_) (λ _=>?_)
    . walk_at "g";intro p2 hp2;rw[cutA];have s2:=Ze hp2 (.lst (((spl x).take j).map V.str));have hS2:=s2.seq hS;have A2:upd H1 p2 (.lst (((spl x).take j).map V.str)) p2=some (.lst (((spl x).take j).map V.str)):=Zc;generalize upd H1 p2 (.lst (((spl x).take j).map V.str))=H2 at *;walk_at "g";intro p3 hp3;rw[ej1,cutB];have s3:=Ze hp3 (.lst (((spl x).drop (j+1)).map V.str));have A3:=s3 _ _ A2;refine YW A3 Zc (by omega) λ p4 hp4=>?_;exact Xf (SqL.of Zc) (by rw[Z5];omega) (λ p hp=>hW p (memTD hp)) λ z hz ho=>q z hz ho _ (((s1.trans s2).trans s3).trans (Ze hp4 _))
    walk_at "g";dsimp only;refine Yb (λ _=>?_) (λ _=>?_)
    . walk_at "g";intro p2 hp2;rw[cutA];have s2:=Ze hp2 (.lst (((spl x).take j).map V.str));have hS2:=s2.seq hS;have A2:upd H1 p2 (.lst (((spl x).take j).map V.str)) p2=some (.lst (((spl x).take j).map V.str)):=Zc;generalize upd H1 p2 (.lst (((spl x).take j).map V.str))=H2 at *;walk_at "g";intro p3 hp3;have s3:=Ze hp3 (.lst (([(spl x)[j]]:List Str).map V.str));refine YW (m:=[(spl x)[j]]) (s3 _ _ A2) Zc (by omega) λ p4 hp4=>?_;have s4:=Ze hp4 (.lst (((spl x).take j++[(spl x)[j]]).map V.str));have s24:=s2.trans (s3.trans s4);have hS4:=s24.seq hS;refine⟨_,rfl,_,rfl,_,rfl,l,_,rfl,hS4,λ p5 hp5=>?_⟩;rw[cutB];have s5:=Ze hp5 (.lst (((spl x).drop j).map V.str));refine YW (s5 _ _ Zc) Zc (by rw[Z5];omega) λ p6 hp6=>?_;exact Xf (SqL.of Zc) (by rw[Z5,Z5];omega) (λ p hp=>hW p (Zfk hp)) λ z hz ho=>q z hz ho _ ((s1.trans s24).trans (s5.trans (Ze hp6 _)))
    walk_at "g";intro p2 hp2;rw[cutB];have s2:=Ze hp2 (.lst (((spl x).drop j).map V.str));have hS2:=s2.seq hS;have A2:upd H1 p2 (.lst (((spl x).drop j).map V.str)) p2=some (.lst (((spl x).drop j).map V.str)):=Zc;generalize upd H1 p2 (.lst (((spl x).drop j).map V.str))=H2 at *;walk_at "g";intro p3 hp3;rw[cutA];have s3:=Ze hp3 (.lst (((spl x).take j).map V.str));refine YW (s3 _ _ A2) Zc (by omega) λ p4 hp4=>?_;exact Xf (SqL.of Zc) (by rw[Z5];omega) (λ p hp=>hW p (memDT hp)) λ z hz ho=>q z hz ho _ (((s1.trans s2).trans s3).trans (Ze hp4 _))
  . unfold YS;walk_at "g";dsimp only;refine Yb (λ _=>?_) (λ _=>?_)
    . walk_at "g";refine⟨Zm (by have:=ls c;omega),?_⟩;walk_at "g";refine⟨Zm (by rw[ld];omega),?_⟩;exact q _ (by rw[Zj,ld];omega) (by rw[YU,YU,Z1 xo,Z1 xo,oc];rfl) H (Zn.refl _)
    walk_at "g";dsimp only;refine Yb (λ _=>?_) (λ _=>?_)
    . walk_at "g";refine⟨Zm (by omega),?_⟩;exact q _ (by rw[Zj];omega) (by rw[YU,Z1 xo,Z1 xo];rfl) H (Zn.refl _)
    walk_at "g";dsimp only;refine Yb (λ _=>?_) (λ _=>?_)
    . walk_at "g";refine⟨Zm (by have:=ls c;omega),?_⟩;walk_at "g";refine⟨Zm (by rw[ld];omega),?_⟩;exact q _ (by rw[Zj,ld];omega) (by rw[YU,YU,Z1 xo,Z1 xo,oc];rfl) H (Zn.refl _)
    walk_at "g";refine⟨?_,λ l hl=>?_⟩
    . rw[PyProof.Rows.len_partsBetween];have:=StrLaws.occ_length_le x " " 0 x.length (x.length+1);exact Zm (by omega)
    have el:(Txt.split x " ").map V.str=(spl x).map V.str:=by rw[XJ];rfl
    rw[el];have s1:=Ze hl (.lst ((spl x).map V.str));have hS:SqL K (upd H l (.lst ((spl x).map V.str))) l ((spl x).map V.str):=SqL.of Zc;generalize upd H l (.lst ((spl x).map V.str))=H1 at *;walk_at "g";refine⟨.inl ⟨_,hS,rfl⟩,?_⟩;have wp:(0:Int)<((((spl x).map V.str).length:Nat):Int):=by rw[length_map];have:=List.length_pos_iff.mpr (Zbh x);omega
    have w0:=emod_nonneg at0 (show((((spl x).map V.str).length:Nat):Int)≠0 by omega);have w1:=emod_lt_of_pos at0 wp;obtain⟨j,ej⟩:∃ j:Nat,at0 % ((((spl x).map V.str).length:Nat):Int)=(j:Int):=⟨_,(Int.toNat_of_nonneg w0).symm⟩;have hj:j<(spl x).length:=by rw[length_map]at ej w1;omega
    have ej1:(j:Int)+1=((j+1:Nat):Int):=by omega
    have z0:=ZdN x;have z1:=JU (spl x) j;have z2:=JU (spl x) (j+1);have z3:=ZeS hj;have atj:atI ((spl x).map V.str) (j:Int)=some (V.str (spl x)[j]):=ZE (by rw[getElem?_map,getElem?_eq_getElem hj];rfl);walk_at "g";dsimp only;rw[ej];refine Yb (λ _=>?_) (λ _=>?_)
    . walk_at "g";intro p2 hp2;rw[cutA];have s2:=Ze hp2 (.lst (((spl x).take j).map V.str));have hS2:=s2.seq hS;have A2:upd H1 p2 (.lst (((spl x).take j).map V.str)) p2=some (.lst (((spl x).take j).map V.str)):=Zc;generalize upd H1 p2 (.lst (((spl x).take j).map V.str))=H2 at *;walk_at "g";intro p3 hp3;rw[ej1,cutB];have s3:=Ze hp3 (.lst (((spl x).drop (j+1)).map V.str));have A3:=s3 _ _ A2;refine YW A3 Zc (by omega) λ p4 hp4=>?_;exact Xf (SqL.of Zc) (by rw[Z5];omega) (λ p hp=>hW p (memTD hp)) λ z hz ho=>q z hz ho _ (((s1.trans s2).trans s3).trans (Ze hp4 _))
    walk_at "g";dsimp only;refine Yb (λ _=>?_) (λ _=>?_)
    . walk_at "g";intro p2 hp2;rw[cutA];have s2:=Ze hp2 (.lst (((spl x).take j).map V.str));have hS2:=s2.seq hS;have A2:upd H1 p2 (.lst (((spl x).take j).map V.str)) p2=some (.lst (((spl x).take j).map V.str)):=Zc;generalize upd H1 p2 (.lst (((spl x).take j).map V.str))=H2 at *;walk_at "g";intro p3 hp3;have s3:=Ze hp3 (.lst (([(spl x)[j]]:List Str).map V.str));refine YW (m:=[(spl x)[j]]) (s3 _ _ A2) Zc (by omega) λ p4 hp4=>?_;have s4:=Ze hp4 (.lst (((spl x).take j++[(spl x)[j]]).map V.str));have s24:=s2.trans (s3.trans s4);have hS4:=s24.seq hS;refine⟨_,rfl,_,rfl,_,rfl,l,_,rfl,hS4,λ p5 hp5=>?_⟩;rw[cutB];have s5:=Ze hp5 (.lst (((spl x).drop j).map V.str));refine YW (s5 _ _ Zc) Zc (by rw[Z5];omega) λ p6 hp6=>?_;exact Xf (SqL.of Zc) (by rw[Z5,Z5];omega) (λ p hp=>hW p (Zfk hp)) λ z hz ho=>q z hz ho _ ((s1.trans s24).trans (s5.trans (Ze hp6 _)))
    walk_at "g";intro p2 hp2;rw[cutB];have s2:=Ze hp2 (.lst (((spl x).drop j).map V.str));have hS2:=s2.seq hS;have A2:upd H1 p2 (.lst (((spl x).drop j).map V.str)) p2=some (.lst (((spl x).drop j).map V.str)):=Zc;generalize upd H1 p2 (.lst (((spl x).drop j).map V.str))=H2 at *;walk_at "g";intro p3 hp3;rw[cutA];have s3:=Ze hp3 (.lst (((spl x).take j).map V.str));refine YW (s3 _ _ A2) Zc (by omega) λ p4 hp4=>?_;exact Xf (SqL.of Zc) (by rw[Z5];omega) (λ p hp=>hW p (memDT hp)) λ z hz ho=>q z hz ho _ (((s1.trans s2).trans s3).trans (Ze hp4 _))
theorem X4 {f:Addr}{fd:FuncData}(F:Fun K "_law_whole_numbers" "_law_whole_numbers" Z9 f fd)(T:Txt K g mg w0)(QaS:Zcg P w0 K g mg base):FnOk P w0 K mg base CX0 2 f fd ["_law_found"] (Ys K g):=by
  refine F.ok Yt (λ vs H Q E h=>?_) (λ cdv A outer s H vs Q E hr h=>?_)
  . obtain⟨p,ws,rfl,_⟩:=h;rfl
  obtain⟨p,ws,rfl,hp,wp,q⟩:=h;refine⟨_,(
(Zf (YO PassesOwn.never rfl (Ze7 (pv 0)) (Zx (i:=1) Yt.nd rfl (Or.inl rfl))
 (Zg (ZI (PW.pt (ZcC (Yj (Ya (Zq Xh rfl T.z_isinstance PyProof.Rows.boot_isinstance (Za (pv 1) (Za (Ji (v:=V.ty "str") rfl T.z_str boot_str rfl) Zb))))) (Za6 (Yj (Ya (Zy QaS (h_ hr) (Za (pv 1) Zb)))))))
 (Zg (Zl YG))
 Zs)))
 (Zg (Zl YG)))),?_⟩
  walk_at "g";refine⟨⟨_,hp⟩,Zga (xs:=ws) (λ i σ H1=>H1=H/\∃ v1,σ=[some (.ref p),v1]) ⟨rfl,_,rfl⟩ ?_ ?_ ?_⟩
  . rintro i σ H1 _ ⟨rfl,_⟩;exact hp
  . rintro i x σ H1 hx ⟨rfl,v1,rfl⟩;have w:=wp x (mem_of_getElem? hx);rcases w with ⟨n,_,rfl⟩|⟨y,_,_,rfl⟩
    . have t1:=TyOf.int (K:=K) (H:=H1) (n:Int);have k1:PySem.W.kitOne K (.type "int") (.type "str")=some false:=rfl;walk_at "g";exact rfl
    . have t1:=TyOf.str (K:=K) (H:=H1) y;have k1:PySem.W.kitOne K (.type "str") (.type "str")=some true:=kit_ss;walk_at "g";exact rfl
  . rintro σ H1 ⟨rfl,v1,rfl⟩;walk_at "g";exact q
theorem Zbx {f:Addr}{fd:FuncData}(F:Fun K "_law_is_need" "_law_is_need" YZ f fd)(T:Txt K g mg w0)(QaT:YH P w0 K g mg base):FnOk P w0 K mg base CX0 3 f fd ["_law_found","_law_due"] (XM K g):=by
  refine F.ok Zbk (λ vs H Q E h=>?_) (λ cdv A outer s H vs Q E hr h=>?_)
  . obtain⟨p,r,ws,rfl,_⟩:=h;rfl
  obtain⟨p,r,ws,rfl,hp,hr_,wp,q⟩:=h;refine⟨_,(
(Zg (Zl (Xq (Zq Xh rfl T.z_isinstance PyProof.Rows.boot_isinstance (Za (pv 0) (Za (Ji (v:=V.ty "tuple") rfl T.z_tuple PyProof.Rows.boot_tuple rfl) Zb))) (Xq (YK (Zfe hr.units) (pv 0) (pv 1) (Zu _)) (Zaw (Zy QaT (h_ hr) (Za (pv 0) Zb)))))))),?_⟩
  have t1:=TyOf.tup (K:=K) hp;have k1:PySem.W.kitOne K (.type "tuple") (.type "tuple")=some true:=Zfp;have hp2:=SqT.of (K:=K) hp;walk_at "g";refine⟨.tuple hp2 (Xd wp), .tuple hr_ (Xd wp),Xj wp,Xj wp,?_⟩;rw[ZeD wp];walk_at "g";exact q
theorem ZaD {f:Addr}{fd:FuncData}(F:Fun K "_law_are_needs" "_law_are_needs" YB f fd)(T:Txt K g mg w0)(Qak:Y6 P w0 K g mg base):FnOk P w0 K mg base CX0 4 f fd ["_law_found","_law_due"] (Xc K g):=by
  refine F.ok Zap (λ vs H Q E h=>?_) (λ cdv A outer s H vs Q E hr h=>?_)
  . obtain⟨l,m,as,ps,qs,rfl,_⟩:=h;rfl
  obtain⟨l,m,as,ps,qs,rfl,A,B,hw,a12,q⟩:=h;refine⟨_,(
(Zf (ZI (PW.pt (XD (Yj (Ya (Zq Xh rfl T.z_isinstance PyProof.Rows.boot_isinstance (Za (pv 0) (Za (Ji (v:=V.ty "list") rfl T.z_list boot_list rfl) Zb))))) (Y4 (Zo Zac (Zq Zw rfl T.z_len boot_len (Za (pv 0) Zb)) (Zq Zw rfl T.z_len boot_len (Za (pv 1) Zb)) (Zu _)))))
 (Zg (Zl YG))
 Zs)
 (Zg (Zl (YK Z0 (Zq Zw rfl T.z_len boot_len (Za (Zbt (x:="_law_k") (cl:=[("_law_found",s.heap.objs.size+1),("_law_due",s.heap.objs.size+2)]) (caps:=[("_law_found",0),("_law_due",1)]) rfl (Xe rfl T.z_range (Za (Zq Zw rfl T.z_len boot_len (Za (pv 1) Zb)) Zb)) (λ _ _ _ _ _=>Zbs (Ya (Zy Qak (h_ hr) (Za (ZC (show IxR _ (rIxL K) from Z8) (pv 1) (pv 0) (λ _ _=>rfl)) (Za (ZC (show IxR _ (rIxL K) from Z8) (pv 2) (pv 0) (λ _ _=>rfl)) Zb))))) (λ _ _ _ _ _=>(pv 0)) rfl (by decide +kernel) rfl (by decide +kernel) rfl (L2.cl_subR (λ p hp=>by simp only[mem_cons,not_mem_nil,or_false]at hp;rcases hp with rfl|rfl <;> rfl)) (Ja rfl) (λ p hp=>by simp only[mem_cons,not_mem_nil,or_false]at hp;rcases hp with rfl|rfl <;> exact⟨rfl,rfl,by first|exact .inl rfl|exact .inr rfl⟩) (by decide +kernel)) Zb)) (Zq Zw rfl T.z_len boot_len (Za (pv 1) Zb)) (Zu _)))))),?_⟩
  have t1:=TyOf.lst (K:=K) A.lst;have k1:PySem.W.kitOne K (.type "list") (.type "list")=some true:=kit_ll;have LA:=SqL.of (K:=K) A.lst;have LB:=SqL.of (K:=K) B.lst;walk_at "g";refine⟨.inl ⟨_,LA,rfl⟩,?_⟩;walk_at "g";refine⟨.inl ⟨_,LB,rfl⟩,?_⟩;walk_at "g";dsimp only;have pl:(ps.map V.ref).length=as.length:=by rw[length_map,A.len]
  have ql:(qs.map V.ref).length=as.length:=by rw[length_map,B.len]
  rw[decide_eq_true (show V.int ((ps.map V.ref).length:Int)=V.int ((qs.map V.ref).length:Int) by rw[pl,ql])];refine Yi ?_;unfold YS;walk_at "g";refine⟨.inl ⟨_,LB,rfl⟩,?_⟩;walk_at "g";refine⟨by omega,by omega,λ D hD=>?_⟩;refine⟨λ i m H2=>i<=as.length/\m=as.length - i/\Zn H H2/\∃ ys,H2 D=some (.lst ys)/\ys.length=i,⟨as.length,zero_le _,rfl,Ze hD _,[],Zc,rfl⟩,?_⟩;rintro i m2 H2 ⟨hi,rfl,s2,ys,hD2,yl⟩;have A2:=A.same s2;have B2:=B.same s2;have LA2:=SqL.of (K:=K) A2.lst;have LB2:=SqL.of (K:=K) B2.lst
  by_cases ci:i<as.length
  . refine .inr ⟨(by show i<_;omega),λ x1 H3 hy1=>?_⟩;obtain⟨rfl,rfl⟩:=hy1;obtain⟨p,hp,hp2⟩:=A2.get ci;obtain⟨p',hp',hp2'⟩:=B2.get ci;have wp:=(Y7 (hw _ (getElem_mem ci))).2;have e1:atI (ps.map V.ref) ((0:Int)+(i:Int))=some (.ref p):=by rw[Int.zero_add];exact ZE (by rw[getElem?_map,hp];rfl)
    have e2:atI (qs.map V.ref) ((0:Int)+(i:Int))=some (.ref p'):=by rw[Int.zero_add];exact ZE (by rw[getElem?_map,hp'];rfl)
    have T2:=SqT.of (K:=K) hp2';walk_at "g";exact⟨Yw (by omega),(by omega:as.length - (i+1)<as.length - i),ci,rfl,Z7 s2 hD,_,Zc,by rw[length_append,yl];rfl⟩
  . have e:i=as.length:=by omega
    refine .inl ⟨(by show _<=i;omega),?_⟩;walk_at "g";refine⟨.inl ⟨_,LB2,rfl⟩,?_⟩;refine⟨rfl,?_⟩;rw[decide_eq_true (show V.int ((ys.length:Nat):Int)=V.int (((qs.map V.ref).length:Nat):Int) by rw[ql,yl,e])];exact q H2 s2
theorem Zb0 {f:Addr}{fd:FuncData}(F:Fun K "_law_is_row" "_law_is_row" Xn f fd)(T:Txt K g mg w0)(Qau:XI P w0 K g mg base)(Qak:Y6 P w0 K g mg base):FnOk P w0 K mg base CX0 5 f fd ["_law_found","_law_due"] (Jr K g):=by
  refine F.ok ZbV (λ vs H Q E h=>?_) (λ cdv A outer s H vs Q E hr h=>?_)
  . obtain⟨t,u,r,rfl,_⟩:=h;rfl
  obtain⟨t,u,r,rfl,R,S,w,l1,l2,q⟩:=h;refine⟨_,(
(Zf (ZI (PW.pt (XD (Yj (Ya (Zq Xh rfl T.z_isinstance PyProof.Rows.boot_isinstance (Za (pv 0) (Za (Ji (v:=V.ty "tuple") rfl T.z_tuple PyProof.Rows.boot_tuple rfl) Zb))))) (XD (Zo Zac (Zq Zw rfl T.z_len boot_len (Za (pv 0) Zb)) Zd (Zu _)) (Y4 (Yj (Ya (Zy Qak (h_ hr) (Za (ZC ZO (pv 0) Zd (λ _ _=>rfl)) (Za (ZC ZO (pv 1) Zd (λ _ _=>rfl)) Zb)))))))))
 (Zg (Zl YG))
 Zs)
 (Zg (Zl (Xq (Zy Qau (h_ hr) (Za (ZC ZO (pv 0) Zd (λ _ _=>rfl)) (Za (ZC ZO (pv 1) Zd (λ _ _=>rfl)) Zb))) (Zaw (Zy Qau (h_ hr) (Za (ZC ZO (pv 0) Zd (λ _ _=>rfl)) (Za (ZC ZO (pv 1) Zd (λ _ _=>rfl)) Zb))))))))),?_⟩
  obtain⟨ph,pn,pe,qs,es,h1,h2,h3,h4⟩:=R.ex;obtain⟨gh,gn,ge,gs,fs,g1,g2,g3,g4⟩:=S.ex;have t1:=TyOf.tup (K:=K) h1;have k1:PySem.W.kitOne K (.type "tuple") (.type "tuple")=some true:=Zfp;have hT:=SqT.of (K:=K) h1;have gT:=SqT.of (K:=K) g1;have gH:=SqT.of (K:=K) g2;walk_at "g";refine⟨.inr ⟨_,hT,rfl⟩,?_⟩;walk_at "g";refine⟨(Zba w.1).2,?_⟩;walk_at "g";refine⟨w.2.1,l1,λ H2 s2=>⟨_,rfl,Xg ?_⟩⟩;have hT2:=s2.tupq hT;have gT2:=s2.tupq gT;have h42:=h4.same s2;have g42:=g4.same s2;walk_at "g";refine⟨w.2.2,l2,λ H3 s3=>q H3 (s2.trans s3)⟩
theorem Zaz {f:Addr}{fd:FuncData}(F:Fun K "_law_word_well" "_law_word_well" Yx f fd)(T:Txt K g mg w0)  : FnOk P w0 K mg base CX0 1 f fd ["_law_word_here"] (Y8 K g):=by
  refine F.ok Zan (λ vs H Q E h=>?_) (λ cdv A outer s H vs Q E hr h=>?_)
  . obtain⟨x,rfl,_⟩:=h;rfl
  obtain⟨x,rfl,hx,q⟩:=h;refine⟨_,(
(Zf (ZI (PW.pt (XD (Zo Zeq (pv 0) (Ye (Za Zh (Za Zh (Za Zh Zb)))) rfl) (Y4 (Zo ZdV (Zq Zw rfl T.z_len boot_len (Za (pv 0) Zb)) Zd (Zu _)))))
 (Zg (Zl YG))
 Zs)
 (Zg (Zl (YK Z0 (Zq Zw rfl T.z_len boot_len (Za (Zbt (x:="_law_sign") (cl:=[]) (caps:=[]) rfl (Ze8 (pv 0)) (λ _ _ _ _ _=>Zbs (Zo Zep (pv 0) Zh rfl)) (λ _ _ _ _ _=>(pv 0)) rfl (by decide +kernel) rfl (by decide +kernel) rfl (λ _ _ h=>nomatch h) (Ja rfl) (λ p hp=>nomatch hp) (by decide +kernel)) Zb)) (Zq Zw rfl T.z_len boot_len (Za (pv 0) Zb)) (Zu _)))))),?_⟩
  obtain⟨x1,x8⟩:=ZbG hx;have xa:x.cps.toList.all (inR 97 122)=true:=by
    unfold gw at hx;simp only[and_eq_true]at hx;exact hx.1.2
  have nb:x∉(["","crown","kids"]:List Str):=λ h=>by
    simp only[mem_cons,List.mem_nil_iff,or_false]at h;rcases h with rfl|rfl|rfl
    . exact absurd hx (by decide +kernel)
    . exact absurd hx (by decide +kernel)
    . exact absurd hx (by decide +kernel)
  walk_at "g";intro l hl;have i1:inV (.str x) ((["","crown","kids"]:List Str).map V.str)=false:=by rw[Zdj];exact decide_eq_false nb
  have hS:SqL K (upd H l (.lst ((["","crown","kids"]:List Str).map V.str))) l ((["","crown","kids"]:List Str).map V.str):=SqL.of Zc;have s1:=Ze hl (.lst ((["","crown","kids"]:List Str).map V.str));refine⟨l,_,rfl, .inl hS,rfl,flatS _,?_⟩;rw[if_neg (by decide),i1];walk_at "g";refine⟨⟨Zm (by omega),rfl⟩,?_⟩;walk_at "g";dsimp only;rw[decide_eq_false (show ¬ (8:Int)<((x.length:Nat):Int) by omega)];refine Yi ?_;unfold YS;have s1':Zn H (upd H l (HO.lst [V.str "",V.str "crown",V.str "kids"])):=s1;generalize upd H l (HO.lst [V.str "",V.str "crown",V.str "kids"])=H1 at *;walk_at "g";intro D hD;have hl2:x.cps.toList.length=x.cps.size:=length_toList;have hl3:x.cps.size=x.length:=rfl;refine⟨λ i m H2=>i<=x.cps.size/\m=x.cps.size - i/\Zn H1 H2/\∃ ys,H2 D=some (.lst ys)/\ys.length=i,⟨x.cps.size,zero_le _,rfl,Ze hD _,[],Zc,rfl⟩,?_⟩;rintro i m H2 ⟨hi,rfl,s2,ys,hy,hyl⟩
  by_cases ci:i<x.cps.size
  . refine .inr ⟨ci,λ v H' ⟨e,cc,hcc,hv⟩=>?_⟩;subst e;subst hv;have hcc':x.cps.toList[i]? = some cc:=by rw[getElem?_toList];exact hcc
    have f':=List.all_eq_true.mp xa cc (mem_of_getElem? hcc');refine⟨_,rfl,_,_,rfl,rfl,_,rfl,?_⟩;rw[lc_mem,f'];exact Xg ⟨_,rfl,ys,x.cps.size - (i+1),hy,Yw (by omega),by omega,ci,rfl,Z7 s2 hD,_,Zc,by rw[length_append,hyl];rfl⟩
  . have e:i=x.cps.size:=by omega
    subst e;refine .inl ⟨le_refl _,?_⟩;refine⟨_,_,rfl, .inl ⟨ys,SqL.of hy,rfl⟩,_,rfl,_,_,rfl,⟨Zm (by omega),rfl⟩,rfl,?_⟩;rw[decide_eq_true (show V.int (ys.length:Nat)=V.int (x.length:Nat) by rw[hyl,hl3])];exact q _ (s1'.trans s2)
theorem ZaC {f:Addr}{fd:FuncData}(F:Fun K "_law_name_well" "_law_name_well" YA f fd)(T:Txt K g mg w0)(Qal:YE P w0 K g mg base):FnOk P w0 K mg base CX0 2 f fd ["_law_name_here"] (Xb K g):=by
  refine F.ok Yn (λ vs H Q E h=>?_) (λ cdv A outer s H vs Q E hr h=>?_)
  . obtain⟨x,rfl,_⟩:=h;rfl
  obtain⟨x,rfl,hx,q⟩:=h;refine⟨_,(
(Zf (Zr (i:=1) Yn.nd rfl (Or.inl rfl) (X3 plainAttrs_str PySem.F.slot_str_split PySem.F.type_str_split Zae (pv 0) (Za Zh Zb)))
 (Zf (ZI (PW.pt (XD (Zo ZdV (Zq Zw rfl T.z_len boot_len (Za (pv 1) Zb)) Zd (Zu _)) (Y4 (Yj (Ya (Zy Qal (h_ hr) (Za (ZC Z8 (pv 1) Zd (λ _ _=>rfl)) Zb)))))))
 (Zg (Zl YG))
 Zs)
 (Zf (YO PassesOwn.never rfl (Jh (ZF Z6 (pv 1) (ZG Zd) ZW)) (Zx (i:=2) Yn.nd rfl (Or.inl rfl))
 (Zg (ZI (Zo Zab (pv 2) (Zbt (x:="_law_k") (cl:=[]) (caps:=[]) rfl (Zem rfl T.z_range (Za Zd (Za Zd Zb))) (λ _ _ _ _ _=>X2) (λ _ _ _ _ _=>(ZP Xv rfl T.z_str boot_str (Za (pv 0) Zb))) rfl (by decide +kernel) rfl (by decide +kernel) rfl (λ _ _ h=>nomatch h) (Ja rfl) (λ p hp=>nomatch hp) (by decide +kernel)) rfl)
 (Zg (Zl YG))
 Zs)))
 (Zg (Zl YG)))))),?_⟩
  have xl:=ZV hx;have hx':=hx;unfold pok at hx';simp only[and_eq_true,decide_eq_true_eq]at hx';obtain⟨⟨hw,n5⟩,hg⟩:=hx';walk_at "g";refine⟨Zm (by omega),?_,λ l hl=>?_⟩
  . rw[PyProof.Rows.len_partsBetween];have:=StrLaws.occ_length_le x "." 0 x.length (x.length+1);exact Zm (by omega)
  have el:(Txt.split x ".").map V.str=(wd x::nms x).map V.str:=congrArg (List.map V.str) (YR x);rw[el];have s1:=Ze hl (.lst ((wd x::nms x).map V.str));have hS:SqL K (upd H l (.lst ((wd x::nms x).map V.str))) l ((wd x::nms x).map V.str):=SqL.of Zc;generalize upd H l (.lst ((wd x::nms x).map V.str))=H1 at *;walk_at "g";refine⟨.inl ⟨_,hS,rfl⟩,?_⟩;walk_at "g";dsimp only;rw[decide_eq_false (show ¬ (6:Int)<((((wd x::nms x).map V.str).length:Nat):Int) by rw[length_map,length_cons];omega)];refine Yi ?_;have at0:atI ((wd x::nms x).map V.str) 0=some (V.str (wd x)):=(ZE (j:=0) rfl:atI ((wd x::nms x).map V.str) ((0:Nat):Int)=_);walk_at "g";intro H2 s2;have s12:=s1.trans s2;have hS2:=s2.seq hS;walk_at "g";intro p3 hp3;have ec:Xu (List.map V.str (wd x::nms x)) (some 1) none=(nms x).map V.str:=cut1 _ _;rw[ec];have s3:=s12.trans (Ze hp3 (.lst ((nms x).map V.str)));have hS3:SqL K (upd H2 p3 (.lst ((nms x).map V.str))) p3 ((nms x).map V.str):=SqL.of Zc;generalize upd H2 p3 (.lst ((nms x).map V.str))=H3 at *;refine⟨p3,rfl,⟨_,hS3⟩,ZbI (xs:=(nms x).map V.str) (λ i σ H1=>Zn H3 H1/\∃ v1,σ=[some (.str x),some (.ref l),v1]) ⟨Zn.refl _,_,rfl⟩ ?_ ?_ ?_⟩
  . rintro i σ H4 _ ⟨s4,_⟩;exact s4.seq hS3
  . rintro i y σ H4 hy ⟨s4,v1,rfl⟩;rw[getElem?_map]at hy;cases hq:(nms x)[i]? with
    |none=>rw[hq]at hy;cases hy
    |some y1=>
      rw[hq]at hy;cases hy;have hm:=gn_mem (List.all_eq_true.mp hg y1 (mem_of_getElem? hq));have i1:inV (.str y1) (Jt.map V.str)=true:=by rw[Zdj];exact decide_eq_true hm
      walk_at "g";intro D hD;refine⟨λ i m H5=>i<=99/\m=99 - i/\Zn H4 H5/\H5 D=some (.lst ((Jt.take i).map V.str)),⟨99,zero_le _,rfl,Ze hD _,Zc⟩,?_⟩;rintro j m H5 ⟨hj,rfl,s5,hy5⟩
      by_cases cj:j<99
      . refine .inr ⟨cj,λ v H6 hv=>?_⟩;obtain⟨rfl,rfl⟩:=hv;refine Zbc ?_;refine⟨_,rfl,_,rfl,log4i (by omega) (by omega),_,99 - (j+1),hy5,Yw (by rw[length_map,length_take];omega),by omega,cj,rfl,Z7 s5 hD,?_⟩;rw[Zc,take99 cj]
      . have e:j=99:=by omega
        subst e;refine .inl ⟨le_refl _,?_⟩;have e9:Jt.take 99=Jt:=List.take_of_length_le (by unfold Jt;rw[length_map,List.length_range];exact le_refl _);rw[e9]at hy5;refine⟨D,_,rfl, .inl (SqL.of hy5),rfl,flatS _,?_⟩;rw[if_pos rfl,i1];exact⟨_,rfl,Yi ⟨s4.trans s5,_,rfl⟩⟩
  . rintro σ H4 ⟨s4,v1,rfl⟩;walk_at "g";exact q _ (s3.trans s4)
theorem ZaA {f:Addr}{fd:FuncData}(F:Fun K "_law_need_well" "_law_need_well" Yy f fd)(T:Txt K g mg w0)(Qam:YF P w0 K g mg base)(Qal:YE P w0 K g mg base):FnOk P w0 K mg base CX0 3 f fd ["_law_atom"] (Y9 K g):=by
  refine F.ok Zao (λ vs H Q E h=>?_) (λ cdv A outer s H vs Q E hr h=>?_)
  . obtain⟨p,ws,rfl,_⟩:=h;rfl
  obtain⟨p,ws,rfl,hp,wa,q⟩:=h;refine⟨_,(
(Zf (ZI (Zo Z0 (ZC ZO (pv 0) Zd (λ _ _=>rfl)) Zh (Zu _))
 (Zg (Zl YG))
 Zs)
 (Zf (ZI (Zo Z0 (ZC ZO (pv 0) Zd (λ _ _=>rfl)) Zh (Zu _))
 (Zg (Zl (Zy Qal (h_ hr) (Za (ZC ZO (pv 0) Zd (λ _ _=>rfl)) Zb))))
 Zs)
 (Zg (Zl (Zy Qam (h_ hr) (Za (ZC ZO (pv 0) Zd (λ _ _=>rfl)) Zb))))))),?_⟩
  rcases id wa with ⟨n,hn,rfl⟩|⟨w_,hw,rfl⟩|⟨k,n,hk,hn,rfl⟩|⟨n,i,hn,hi,rfl⟩
  . walk_at "g";exact q H (Zn.refl _)
  . walk_at "g";exact q
  . rcases hk with rfl|rfl
    . walk_at "g";exact q
    . walk_at "g";exact q
  . walk_at "g";exact q
theorem Za0 {f:Addr}{fd:FuncData}(F:Fun K "_law_row_well" "_law_row_well" YM f fd)(T:Txt K g mg w0)(Qam:YF P w0 K g mg base)(QaU:XG P w0 K g mg base):FnOk P w0 K mg base CX0 4 f fd ["_law_row"] (XA K g):=by
  refine F.ok ZaZ (λ vs H Q E h=>?_) (λ cdv A outer s H vs Q E hr h=>?_)
  . obtain⟨t,r,rfl,_⟩:=h;rfl
  obtain⟨t,r,rfl,R,w,l1,l2,q⟩:=h;refine⟨_,(
(Zf (ZI (Yj (Ya (Zy Qam (h_ hr) (Za (ZC ZO (ZC ZO (pv 0) Zd (λ _ _=>rfl)) Zd (λ _ _=>rfl)) Zb))))
 (Zg (Zl YG))
 Zs)
 (Zg (Zl (YK Z0 (Zq Zw rfl T.z_len boot_len (Za (Zbt (x:="_law_atom") (cl:=[]) (caps:=[]) rfl (Jh (Zi Xr (ZC ZO (pv 0) Zd (λ _ _=>rfl)) (ZC ZO (pv 0) Zd (λ _ _=>rfl)))) (λ _ _ _ _ _=>Zbs (Yj (Ya (Zy QaU (h_ hr) (Za (pv 0) Zb))))) (λ _ _ _ _ _=>(pv 0)) rfl (by decide +kernel) rfl (by decide +kernel) rfl (λ _ _ h=>nomatch h) (Ja rfl) (λ p hp=>nomatch hp) (by decide +kernel)) Zb)) Zd (Zu _)))))),?_⟩
  obtain⟨ph,pn,pe,qs,es,h1,h2,h3,h4⟩:=R.ex;have hT:=SqT.of (K:=K) h1;have hH:=SqT.of (K:=K) h2;obtain⟨nm,en,pn_⟩:=ZfI w.1;walk_at "g";intro H2 s2;have hT2:=s2.tupq hT;have A2:=h3.same s2;have B2:=h4.same s2;refine⟨_,rfl,Yi ?_⟩;unfold YS;walk_at "g";refine⟨A2.lst,B2.lst,Yw (by rw[length_map,length_map,A2.len,B2.len];omega) |> le_of_lt,λ p3 h3_=>?_⟩;have s3:=Ze h3_ (.lst (qs.map V.ref++es.map V.ref));have C:=A2.app B2 s3 Zc;have s23:=s2.trans s3;generalize upd H2 p3 (.lst (qs.map V.ref++es.map V.ref))=H3 at *;have wc:∀ a∈r.2.1++r.2.2,WA a:=λ a ha=>by
    rcases List.mem_append.mp ha with h|h
    . exact w.2.1 a h
    . exact w.2.2 a h
  generalize r.2.1++r.2.2=cs at *;generalize qs++es=us at *;have LC:=SqL.of (K:=K) C.lst;refine⟨p3,rfl,⟨_,LC⟩,λ D hD=>?_⟩;refine⟨λ i m H4=>i<=cs.length/\m=cs.length - i/\Zn H3 H4/\H4 D=some (.lst []),⟨cs.length,zero_le _,rfl,Ze hD _,Zc⟩,?_⟩;rintro i m H4 ⟨hi,rfl,s4,hD4⟩;have C4:=C.same s4;have LC4:=SqL.of (K:=K) C4.lst
  by_cases ci:i<cs.length
  . obtain⟨p,hp,hq⟩:=C4.get ci;refine .inr ⟨⟨_,_,LC4,by rw[getElem?_map,hp];rfl⟩,λ x1 H5 hy1=>?_⟩;obtain⟨rfl,e1⟩:=hy1;have e1':=e1 _ LC4;rw[getElem?_map,hp]at e1';cases e1';have T5:=SqT.of (K:=K) hq;have wi:=wc _ (getElem_mem ci);walk_at "g";intro H6 s6;exact⟨_,rfl,Yi ⟨_,(by omega:cs.length - (i+1)<cs.length - i),ci,rfl,s4.trans s6,s6 _ _ hD4⟩⟩
  . have e:i=cs.length:=by omega
    refine .inl ⟨⟨_,LC4,by rw[length_map,C4.len];omega⟩,?_⟩;have LD:=SqL.of (K:=K) hD4;walk_at "g";rw[decide_eq_true (show V.int ((([]:List V).length:Nat):Int)=V.int 0 from rfl)];exact q _ (s23.trans s4)
theorem Zdb {f:Addr}{fd:FuncData}(F:Fun K "_law_read" "_law_read" JK f fd)(T:Txt K g mg w0)(QaV:ZbL P w0 K g mg base):FnOk P w0 K mg base CX0 10 f fd ["_law_text"] (ZaM K g):=by
  refine F.ok Zc2 (λ vs H Q E h=>?_) (λ cdv A outer s H vs Q E hr h=>?_)
  . obtain⟨x,rfl,_⟩:=h;rfl
  obtain⟨x,rfl,hx,xo,qe,q⟩:=h;refine⟨_,(
(Zg (ps_try (ZfX (pex_fn QaV (h_ hr) rfl rfl (Za (pv 0) Zb))) (λ a oe=>(Zg (Zl Zdz))) T.Qab rfl rfl))),?_⟩
  walk_at "g";exact⟨λ e H' s1=>⟨T.e_NoText_NoText,qe e H' s1⟩,q⟩
theorem ZbZ {f:Addr}{fd:FuncData}(F:Fun K "_law_nearly" "_law_nearly" Xm f fd)(T:Txt K g mg w0)  : FnOk P w0 K mg base CX0 1 f fd [] (Jq K g):=by
  refine F.ok Yp (λ vs H Q E h=>?_) (λ cdv A outer s H vs Q E hr h=>?_)
  . obtain⟨rfl,_⟩:=h;rfl
  obtain⟨rfl,q⟩:=h;refine⟨_,(
(Zf (Zr (i:=0) Yp.nd rfl (Or.inl rfl) (Ye (Za Zh (Za Zh (Za Zh (Za Zh (Za Zh (Za Zh (Za Zh (Za Zh (Za Zh Zb)))))))))))
 (Zf (Zr (i:=0) Yp.nd rfl (Or.inl rfl) (Zi Xr (pv 0) (Ye (Za Zh (Za Zh (Za Zh (Za Zh Zb)))))))
 (Zf (Zr (i:=0) Yp.nd rfl (Or.inl rfl) (Zi Xr (pv 0) (Ye (Za Zh (Za Zh (Za Zh (Za Zh (Za Zh (Za Zh Zb)))))))))
 (Zg (Zl (Zi Xr (pv 0) (Ye (Za Zh (Za Zh (Za Zh Zb))))))))))),?_⟩
  walk_at "g";intro p1 h1;have s1:=Ze h1 (.lst ((ZR.take 9).map V.str));refine⟨_,rfl,(by show 4<=sizeLine;decide),?_⟩;intro p2 h2;have s2:=Ze h2 (.lst (((ZR.drop 9).take 4).map V.str));refine ZdH (l:=ZR.take 9) (m:=(ZR.drop 9).take 4) (s2 _ _ Zc) Zc (by decide +kernel) λ p3 h3=>?_;have s3:=Ze h3 (.lst ((ZR.take 9++(ZR.drop 9).take 4).map V.str));refine⟨_,rfl,(by show 6<=sizeLine;decide),?_⟩;intro p4 h4;have s4:=Ze h4 (.lst (((ZR.drop 13).take 6).map V.str));refine ZdH (l:=ZR.take 9++(ZR.drop 9).take 4) (m:=(ZR.drop 13).take 6) (s4 _ _ Zc) Zc (by decide +kernel) λ p5 h5=>?_;have s5:=Ze h5 (.lst ((ZR.take 9++(ZR.drop 9).take 4++(ZR.drop 13).take 6).map V.str));refine⟨_,rfl,(by show 3<=sizeLine;decide),?_⟩;intro p6 h6;have s6:=Ze h6 (.lst ((ZR.drop 19).map V.str));refine ZdH (l:=ZR.take 9++(ZR.drop 9).take 4++(ZR.drop 13).take 6) (m:=ZR.drop 19) (s6 _ _ Zc) Zc (by decide +kernel) λ p7 h7=>?_;have s7:=Ze h7 (.lst (ZR.map V.str));have sA:=s1.trans (s2.trans (s3.trans (s4.trans (s5.trans s6))));exact q p7 _ (sA.trans s7) (sA.free h7) Zc
theorem ok_law {f:Addr}{fd:FuncData}(F:Fun K "law" "law" ZeX f fd)(T:Txt K g mg w0)(QaW:Jw P w0 K g mg base)(Qav:ZbK P w0 K g mg base)(QaX:Zaj P w0 K g mg base)(Qag:JR P w0 K g mg base)(QaY:Zai P w0 K g mg base)(Qap:ZbN P w0 K g mg base)(Qaw:Jv P w0 K g mg base)(Qax:Jd P w0 K g mg base)(QaZ:Zak P w0 K g mg base)(Qa0:Jc P w0 K g mg base):FnOk P w0 K mg base CX0 11 f fd ["_law_script"] (Zcr K g):=by
  refine F.ok XU (λ vs H Q E h=>?_) (λ cdv A outer s H vs Q E hr h=>?_)
  . obtain⟨a,ns,rfl,_⟩:=h;rfl
  obtain⟨a,ns,rfl,hS,hlen,q⟩:=h;refine⟨_,(
(Zf (Zr (i:=1) XU.nd rfl (Or.inl rfl) (Zy QaW (h_ hr) (Za (Zy Qag (h_ hr) (Za (Zy Qaw (h_ hr) (Za (pv 0) (Za Zd Zb))) (Za Zd Zb))) Zb)))
 (Zf (Zr (i:=2) XU.nd rfl (Or.inl rfl) (ZZ (Za (ZC ZO (pv 1) Zd (λ _ _=>rfl)) (Za (ZP (show YX _ (.type "list") (Zdy K) from ZbR) rfl T.z_list boot_list (Za (ZC ZO (pv 1) Zd (λ _ _=>rfl)) Zb)) (Za (ZP (show YX _ (.type "list") (Zdy K) from ZbR) rfl T.z_list boot_list (Za (ZC ZO (pv 1) Zd (λ _ _=>rfl)) Zb)) Zb)))))
 (Zf (Zr (i:=3) XU.nd rfl (Or.inl rfl) (Zy Qav (h_ hr) (Za (pv 2) Zb)))
 (Zf (ZI (PW.pt (XD (Zo Zac (pv 3) (Zy Qax (h_ hr) (Za (pv 1) Zb)) (Zu _)) (XD (Zo (op_neD hr.units) (pv 2) (pv 1) (Zu _)) (Y4 (Yj (Ya (Zy QaZ (h_ hr) (Za (Zy Qap (h_ hr) (Za (pv 3) Zb)) (Za (pv 1) Zb)))))))))
 (Zg (Zl YG))
 Zs)
 (Zf (YO PassesOwn.never rfl (Xe rfl T.z_range (Za Zd Zb)) (Zx (i:=4) XU.nd rfl (Or.inl rfl))
 (Zf (Zr (i:=3) XU.nd rfl (Or.inl rfl) (Zy QaY (h_ hr) (Za (Zy Qax (h_ hr) (Za (pv 1) Zb)) (Za (Zy Qag (h_ hr) (Za (Zy Qaw (h_ hr) (Za (pv 0) (Za (Zi ZL Zd (pv 4)) Zb))) (Za (Zi ZL Zd (pv 4)) Zb))) Zb))))
 (Zf (Zr (i:=5) XU.nd rfl (Or.inl rfl) (Zy Qap (h_ hr) (Za (pv 3) Zb)))
 (Zg (ZI (PW.pt (ZcC (Zo ZdU (pv 5) Zdz (Zu _)) (Za6 (PW.pt (XD (Zo Zac (Zy Qav (h_ hr) (Za (pv 5) Zb)) (pv 3) (Zu _)) (Y4 (Yj (Ya (Zy Qa0 (h_ hr) (Za (pv 5) Zb))))))))))
 (Zg (Zl YG))
 Zs)))))
 (Zf (YO PassesOwn.never rfl (Jh (pe_fn0 QaX (h_ hr))) (Zx (i:=3) XU.nd rfl (Or.inl rfl))
 (Zg (ZI (Zo ZdU (Zy Qap (h_ hr) (Za (pv 3) Zb)) Zdz (Zu _))
 (Zg (Zl YG))
 Zs)))
 (Zg (Zl YG))))))))),?_⟩
  have q':∀ H',Q (.bl true) H':=q;walk_at "g";intro c;walk_at "g";intro r;walk_at "g";intro r t H1 w l12 s1 R;obtain⟨ph,pn,pe,qs,es,h1,h2,h3,h4⟩:=R.ex;have hT:=SqT.of (K:=K) h1;have LA:=SqL.of (K:=K) h3.lst;have LB:=SqL.of (K:=K) h4.lst;walk_at "g";refine⟨.inl LA,λ l1 hl1=>?_⟩;have s2:=Ze hl1 (.lst (qs.map V.ref));have s2':Zn H1 (upd H1 l1 (.lst (qs.map V.ref))):=s2;have hT2:=s2.tupq hT;have LB2:=s2.seq LB;have A2:AsAt (upd H1 l1 (.lst (qs.map V.ref))) l1 r.2.1 qs:=h3.copy s2 Zc;generalize upd H1 l1 (.lst (qs.map V.ref))=H2 at *;walk_at "g";refine⟨.inl LB2,λ l2 hl2=>?_⟩;have s3:=Ze hl2 (.lst (es.map V.ref));have B3:AsAt (upd H2 l2 (.lst (es.map V.ref))) l2 r.2.2 es:=h4.copy (s2'.trans s3) Zc;have A3:=A2.same s3;have s13:=s2'.trans s3;generalize upd H2 l2 (.lst (es.map V.ref))=H3 at *;walk_at "g";intro p4 hp4;have s4:=Ze hp4 (.tup [.ref ph, .ref l1, .ref l2]);have R4:RowAt (upd H3 p4 (.tup [.ref ph, .ref l1, .ref l2])) p4 r:=⟨ph,l1,l2,qs,es,Zc,s4 _ _ (s13 _ _ h2),A3.same s4,B3.same s4⟩;have S4:=R.same (s13.trans s4);have s04:=s1.trans (s13.trans s4);generalize upd H3 p4 (.tup [.ref ph, .ref l1, .ref l2])=H4 at *;have tl:=ZfK w l12;have to:=txR_ok w;walk_at "g";refine⟨by omega,by omega,by omega,λ H5 s5=>?_⟩;have R5:=R4.same s5;have S5:=S4.same s5;have s05:=s04.trans s5;have hS5:=s05.seq hS;walk_at "g";intro H6 s6;have R6:=R5.same s6;have S6:=S5.same s6;walk_at "g";dsimp only;rw[decide_eq_true (rfl:V.str (txR r)=V.str (txR r))];refine Yi ?_;refine⟨_,rfl,_,rfl,ne_row R6 S6 w ?_⟩;refine⟨_,rfl,Yi ?_⟩;walk_at "g";refine⟨by omega,to,(λ e=>absurd e (by rw[Ze3 w];exact λ z=>nomatch z)),λ r2 e t7 H7 s7 R7=>?_⟩;rw[Ze3 w]at e;cases e;have S7:=S6.same s7;have hS7:=(s6.trans s7).seq hS5;walk_at "g";refine⟨by omega,by omega,λ H8 s8=>?_⟩;have S8:=S7.same s8;have hS8:=s8.seq hS7;refine⟨_,rfl,Yi ?_⟩;unfold YS;walk_at "g";refine Jm (n:=4) (λ i σ H9=>Zn H8 H9/\∃ v2 v3 v4 v5,σ=[some (.ref a),some (.ref t),v2,v3,v4,v5]) ⟨Zn.refl _,_,_,_,_,rfl⟩ ?_ ?_
  . rintro i σ H9 hi ⟨s9,v2,v3,v4,v5,rfl⟩;have S9:=S8.same s9;have hS9:=s9.seq hS8;walk_at "g";intro HA sA;have SA:=S9.same sA;have hSA:=sA.seq hS9;walk_at "g";refine⟨by omega,λ c1=>?_⟩;walk_at "g";intro r1;walk_at "g";intro z hz zo HB sB;walk_at "g";refine⟨λ e HC sC=>?_,λ r2 e tC HC sC RC=>?_⟩
    . walk_at "g";dsimp only;rw[decide_eq_true (rfl:V.non=V.non)];exact Yi (Yi ⟨s9.trans (sA.trans (sB.trans sC)),_,_,_,_,rfl⟩)
    . obtain⟨wy,wz,ty⟩:=Ze2 e;have nl:=ZfT e;have sl:=ZdO z;have tlz:(txR r2).length<=1400:=by rw[ty];exact hz
      walk_at "g";refine⟨by omega,by omega,λ HD sD=>?_⟩;rw[ty];have RD:=RC.same sD;walk_at "g";dsimp only;rw[decide_eq_true (rfl:V.str z=V.str z)];refine Yi ?_;walk_at "g";refine⟨by omega,by omega,λ HE sE=>?_⟩;exact⟨_,rfl,Yi ⟨s9.trans (sA.trans (sB.trans (sC.trans (sD.trans sE)))),_,_,_,_,rfl⟩⟩
  . rintro σ H9 ⟨s9,v2,v3,v4,v5,rfl⟩;walk_at "g";intro lz H5_ s5_ nl5 hl5;have hL:=SqL.of (K:=K) hl5;refine⟨lz,rfl,⟨_,hL⟩,ZbI (xs:=ZR.map V.str) (λ i σ H9=>Zn H5_ H9/\∃ v3,σ=[some (.ref a),some (.ref t),v2,v3,v4,v5]) ⟨Zn.refl _,_,rfl⟩ ?_ ?_ ?_⟩
    . rintro i σ H6 _ ⟨s6,_⟩;exact s6.seq hL
    . rintro i x σ H6 hx ⟨s6,v3,rfl⟩;rw[getElem?_map]at hx;cases hq:ZR[i]? with
      |none=>rw[hq]at hx;cases hx
      |some y=>
        rw[hq]at hx;cases hx;obtain⟨nb,nl,no⟩:=Zev y (mem_of_getElem? hq);have nn:rdR y=none:=Option.isNone_iff_eq_none.mp nb;walk_at "g";refine⟨λ e H7 s7=>?_,λ ys e=>absurd e (by rw[nn];exact λ z=>nomatch z)⟩;walk_at "g";dsimp only;rw[decide_eq_true (rfl:V.non=V.non)];exact Yi ⟨s6.trans s7,_,rfl⟩
    . rintro σ H6 ⟨s6,v3,rfl⟩;walk_at "g";exact q' _
end
local macro_rules|`(tactic| walk_at "b0") => `(tactic| exact λ _ _ _ _ _ _ us hl=>by(cases us with|nil=>rfl|cons _ _=>cases hl))
local macro_rules|`(tactic| walk_at "b1") => `(tactic| exact λ _ _ _ _ _ _ us hl=>by(obtain⟨_,h⟩:=L2.us1 us hl;subst h;rfl))
local macro_rules|`(tactic| walk_at "b2") => `(tactic| exact λ _ _ _ _ _ _ us hl=>by(obtain⟨_,_,h⟩:=L2.us2 us hl;subst h;rfl))
local macro_rules|`(tactic| walk_at "b3") => `(tactic| exact λ _ _ _ _ _ _ us hl=>by(obtain⟨_,_,_,h⟩:=L2.us3 us hl;subst h;rfl))
local macro_rules|`(tactic| walk_at "b4") => `(tactic| exact λ _ _ _ _ _ _ us hl=>by(obtain⟨_,_,_,_,h⟩:=L2.us4 us hl;subst h;rfl))
theorem all_mk {l:PySem.W.OpenLaw}{w:World}{K:Frag}{h:Heap}{mg:Str->Option Value}{fa:Addr}(X:K.In h)(G:h.Ns mainGlobals mg)(hfa:mg "law"=some (.ref fa)){Qay Qaa:Addr}{Qaz QaA QaB QaC:Tok}{Qaq:Addr}{QbC:Option Addr}{QbD:Nat}{QbE:Array (Option Value)}{QbF QbG:Tok}{Qan Qao c_read_number c_read_word c_read_name ar0 ar1 ar2 ar3 ar4:Addr}{ah0 ah1 ah2 ah3 ah4 rh0 rh1 rh2:Int}{at0 at1 at2 at3 at4 au0 au1 au2 au3 au4 au5 rt0 rt1 rt2:Tok}{aep an0 an1 an2 an3 an4 rep:Nat}{ad0 ad1 ad2 ad3 ad4:Option Addr}{as0 as1 as2 as3 as4:Array (Option Value)}(Qa1:nsIn K mainGlobals "isinstance"=some none)(Qa2:nsIn K mainGlobals "int"=some none)(Qa3:nsIn K mainGlobals "bool"=some none)(Qa4:nsIn K mainGlobals "tuple"=some none)(Qa5:nsIn K mainGlobals "len"=some none)(Qa6:nsIn K mainGlobals "range"=some none)(Qa7:nsIn K mainGlobals "list"=some none)(Qa8:nsIn K mainGlobals "str"=some none)(Qa9:nsIn K mainGlobals "min"=some none)(Qba:nsIn K mainGlobals "enumerate"=some none)(Qbb:nsIn K mainGlobals "zip"=some none)(Qbc:nsIn K mainGlobals "ValueError"=some none)(Qbd:nsIn K mainGlobals "LandError"=some (some (.ref Qay)))(Qbe:nsIn K mainGlobals "NoText"=some (some (.ref Qaa)))(Qbf:excIn K Qaa bmV "ValueError.__new__"=true)(Qbg:findIn K (.ref Qaa) "__getattribute__"=some (some (.builtin "BaseException.__getattribute__")))(Qbh:findIn K (.ref Qaa) "__getattr__"=some none)(Qbi:findIn K (.ref Qaa) "__class__"=some (some (.builtin "object.__class__")))(Qbj:subIn K (.ref Qaa) (.type "object")=some true)(Qbk:subIn K (.ref Qaa) (.type "BaseException")=some true)(pe_NoText_NoText:PySem.W.exmOne K (.ref Qaa) (.ref Qaa)=some true)(Qbl:nsIn K mainGlobals "LONGEST_WORD"=some (some (.int 8 Qaz)))(Qbm:nsIn K mainGlobals "LONGEST_NUMBER"=some (some (.int 2 QaA)))(Qbn:nsIn K mainGlobals "MOST_NUMBERS"=some (some (.int 5 QaB)))(Qbo:nsIn K mainGlobals "BARRED"=some (some (.ref Qaq)))(lk_BARRED:K.lookup Qaq=some ⟨.type "tuple",QbC, .seq #[.str "crown" QbF, .str "kids" QbG] QbD,QbE⟩)(Qbp:nsIn K mainGlobals "MOST_FIGURES"=some (some (.int 4 QaC)))(Qbq:nsIn K mainGlobals "ATOMS"=some (some (.ref Qan)))(Qbr:nsIn K mainGlobals "READERS"=some (some (.ref Qao)))(Qbs:nsIn K mainGlobals "read_number"=some (some (.ref c_read_number)))(Qbt:nsIn K mainGlobals "read_word"=some (some (.ref c_read_word)))(Qbu:nsIn K mainGlobals "read_name"=some (some (.ref c_read_name)))(rlk:K.lookup Qao=some ⟨.type "dict",none, .dict #[⟨rh0, .str "number" rt0, .ref c_read_number⟩,⟨rh1, .str "word" rt1, .ref c_read_word⟩,⟨rh2, .str "name" rt2, .ref c_read_name⟩] rep,#[]⟩)(rns:(Qao == sysModules)=false)(re0:rh0=hashStr w "number")(re1:rh1=hashStr w "word")(re2:rh2=hashStr w "name")(alk:K.lookup Qan=some ⟨.type "dict",none, .dict #[⟨ah0, .str "year" at0, .ref ar0⟩,⟨ah1, .str "comes" at1, .ref ar1⟩,⟨ah2, .str "born" at2, .ref ar2⟩,⟨ah3, .str "dead" at3, .ref ar3⟩,⟨ah4, .str "age" at4, .ref ar4⟩] aep,#[]⟩)(ans:(Qan == sysModules)=false)(ae0:ah0=hashStr w "year")(ae1:ah1=hashStr w "comes")(ae2:ah2=hashStr w "born")(ae3:ah3=hashStr w "dead")(ae4:ah4=hashStr w "age")(ak0:K.lookup ar0=some ⟨.type "tuple",ad0, .seq #[.str "number" au0] an0,as0⟩)(ak1:K.lookup ar1=some ⟨.type "tuple",ad1, .seq #[.str "word" au1] an1,as1⟩)(ak2:K.lookup ar2=some ⟨.type "tuple",ad2, .seq #[.str "name" au2] an2,as2⟩)(ak3:K.lookup ar3=some ⟨.type "tuple",ad3, .seq #[.str "name" au3] an3,as3⟩)(ak4:K.lookup ar4=some ⟨.type "tuple",ad4, .seq #[.str "name" au4, .str "number" au5] an4,as4⟩)(p0:GlP K "within" Zbp)(p1:GlP K "good_word" X0)(p2:GlP K "want_word" XV)(p3:GlP K "good_number" Y3)(p4:GlP K "parts" Zcz)(p5:GlP K "is_class" JM)(p6:GlP K "read_number" YY)(p7:GlP K "read_word" XW)(p8:GlP K "read_name" XY)(p9:GlP K "read_part" XX)(p10:GlP K "read_parts" Xk)(p11:GlP K "atom_at" Zar)(p12:GlP K "atoms_at" JN)(p13:GlP K "holder_at" XZ)(p14:GlP K "read_row" JG)(p15:GlP K "joined" Zbq)(p16:GlP K "atom_text" X1)(p17:GlP K "holder_text" Y2)(p18:GlP K "atoms_text" Xo)(p19:GlP K "row_text" JF)(p20:GlP K "_law_num" Zaq)(p21:GlP K "_law_cell_at" Y0)(p22:GlP K "_law_rich" JJ)(p23:GlP K "_law_word" JH)(p24:GlP K "_law_said" JI)(p25:GlP K "_law_name" JL)(p26:GlP K "_law_any_need" YN)(p27:GlP K "_law_any_row" Y1)(p28:GlP K "_law_need_text" Yz)(p29:GlP K "_law_row_text" Z4)(p30:GlP K "_law_spoilt" Xl)(p31:GlP K "_law_whole_numbers" Z9)(p32:GlP K "_law_is_need" YZ)(p33:GlP K "_law_are_needs" YB)(p34:GlP K "_law_is_row" Xn)(p35:GlP K "_law_word_well" Yx)(p36:GlP K "_law_name_well" YA)(p37:GlP K "_law_need_well" Yy)(p38:GlP K "_law_row_well" YM)(p39:GlP K "_law_read" JK)(p40:GlP K "_law_nearly" Xm)(p41:GlP K "law" ZeX)
    : ∃(g:Ga)(fd:FuncData),(∀(s:Shared)(v:Value),BindsTo s fd ⟨[v],[]⟩ [("_law_script",v)])/\∀ base:Heap,K.In base->base.Ns mainGlobals mg->FnOk l.prog w K mg base CX0 11 fa fd ["_law_script"] (Zcr K g):=by
  have T:Txt K ({ LandError:=Qay,NoText:=Qaa,LONGEST_WORD:=Qaz,LONGEST_NUMBER:=QaA,MOST_NUMBERS:=QaB,BARRED:=Qaq,MOST_FIGURES:=QaC,ATOMS:=Qan,READERS:=Qao,read_number:=c_read_number,read_word:=c_read_word,read_name:=c_read_name }:Ga) mg w:=⟨mg_none_of X G Qa1,mg_none_of X G Qa2,mg_none_of X G Qa3,mg_none_of X G Qa4,mg_none_of X G Qa5,mg_none_of X G Qa6,mg_none_of X G Qa7,mg_none_of X G Qa8,mg_none_of X G Qa9,mg_none_of X G Qba,mg_none_of X G Qbb,mg_none_of X G Qbc,mg_of X G Qbd,mg_of X G Qbe,⟨Qbf,Qbg,Qbh,Qbi,Qbj,Qbk⟩,pe_NoText_NoText,mg_of X G Qbl,mg_of X G Qbm,mg_of X G Qbn,mg_of X G Qbo,λ _ => .inr ⟨_,_,_,lk_BARRED,rfl,rfl,by show 2<=sizeLine;decide, .cons ⟨_,rfl⟩ (.cons ⟨_,rfl⟩ (.nil))⟩,mg_of X G Qbp,mg_of X G Qbq,mg_of X G Qbr,mg_of X G Qbs,mg_of X G Qbt,mg_of X G Qbu,Zdv rns rlk re0 re1 re2,ZfE ans alk ae0 ae1 ae2 ae3 ae4 ak0 ak1 ak2 ak3 ak4⟩;obtain⟨fd,bl,Fl⟩:=la_gl (l:="_law_script") X G hfa p41 (λ _ _ _ _ _ _ s v => .of_eq rfl);refine⟨{ LandError:=Qay,NoText:=Qaa,LONGEST_WORD:=Qaz,LONGEST_NUMBER:=QaA,MOST_NUMBERS:=QaB,BARRED:=Qaq,MOST_FIGURES:=QaC,ATOMS:=Qan,READERS:=Qao,read_number:=c_read_number,read_word:=c_read_word,read_name:=c_read_name },fd,bl,λ base _ _=>?_⟩;generalize hg:({ LandError:=Qay,NoText:=Qaa,LONGEST_WORD:=Qaz,LONGEST_NUMBER:=QaA,MOST_NUMBERS:=QaB,BARRED:=Qaq,MOST_FIGURES:=QaC,ATOMS:=Qan,READERS:=Qao,read_number:=c_read_number,read_word:=c_read_word,read_name:=c_read_name }:Ga)=g at T;have Qac:Zah l.prog w K g mg base:=ZS X G p0 (Zes · T) (by walk_at "b3");have Qah:Jf l.prog w K g mg base:=ZS X G p1 (ZcM · T Qac) (by walk_at "b1");have QaF:ZaT l.prog w K g mg base:=Jb X G p2 (ZcG · T Qah) (by walk_at "b1");have QaE:Jy l.prog w K g mg base:=ZS X G p3 (ZbB · T Qac) (by walk_at "b1");have QaG:Zd4 l.prog w K g mg base:=Jb X G p4 (Zad · T Qah QaE) (by walk_at "b1");have QaN:ZbP l.prog w K g mg base:=ZS X G p5 (Zdd · T) (by walk_at "b1");have QaH:Ju l.prog w K g mg base:=Jb X G p6 (Zbw · T Qac) (by walk_at "b1");have QaI:ZaU l.prog w K g mg base:=Jb X G p7 (ZcH · T QaF) (by walk_at "b1");have QaJ:ZaW l.prog w K g mg base:=Jb X G p8 (ZcJ · T QaG) (by walk_at "b1");have QaK:ZaV l.prog w K g mg base:=Jb X G p9 (ZcI · T QaH QaI QaJ) (by walk_at "b2");have Qaf:Xt l.prog w K g mg base:=Jb X G p10 (ZbX · T QaK) (by walk_at "b2");have QaL:Zch l.prog w K g mg base:=Jb X G p11 (ZdB · T Qaf) (by walk_at "b2");have Qar:ZbQ l.prog w K g mg base:=Jb X G p12 (Zde · T QaL) (by walk_at "b4");have QaM:ZaX l.prog w K g mg base:=Jb X G p13 (ZcL · T Qaf) (by walk_at "b2");have QaV:ZbL l.prog w K g mg base:=Jb X G p14 (Zc7 · T QaM Qar) (by walk_at "b1");have Qai:ZbO l.prog w K g mg base:=ZS X G p15 (Zet · T) (by walk_at "b1");have QaO:ZaY l.prog w K g mg base:=ZS X G p16 (ZcN · T Qai) (by walk_at "b1");have QaP:Jx l.prog w K g mg base:=ZS X G p17 (ZbA · T QaN Qai) (by walk_at "b1");have Qas:Zal l.prog w K g mg base:=ZS X G p18 (Zb1 · T QaO) (by walk_at "b3");have Qav:ZbK l.prog w K g mg base:=ZS X G p19 (Zc6 · T Qas QaP) (by walk_at "b1");have QaS:Zcg l.prog w K g mg base:=ZS X G p20 (ZdA · T) (by walk_at "b1");have Qaw:Jv l.prog w K g mg base:=ZS X G p21 (Zby · T) (by walk_at "b2");have Qag:JR l.prog w K g mg base:=ZS X G p22 (Zda · T) (by walk_at "b2");have QaQ:ZbM l.prog w K g mg base:=ZS X G p23 (Zc8 · T) (by walk_at "b1");have Qaj:JQ l.prog w K g mg base:=ZS X G p24 (Zc9 · T QaQ) (by walk_at "b1");have Qad:JS l.prog w K g mg base:=ZS X G p25 (Zdc · T Qaj) (by walk_at "b1");have QaR:Je l.prog w K g mg base:=ZS X G p26 (Za2 · T Qad Qaj) (by walk_at "b1");have QaW:Jw l.prog w K g mg base:=ZS X G p27 (Zbz · T Qad QaR Qag) (by walk_at "b1");have Qat:XH l.prog w K g mg base:=ZS X G p28 (ZaB · T) (by walk_at "b1");have Qax:Jd l.prog w K g mg base:=ZS X G p29 (Za1 · T Qat) (by walk_at "b1");have QaY:Zai l.prog w K g mg base:=ZS X G p30 (ZbY · T) (by walk_at "b2");have QaT:YH l.prog w K g mg base:=ZS X G p31 (X4 · T QaS) (by walk_at "b1");have Qak:Y6 l.prog w K g mg base:=ZS X G p32 (Zbx · T QaT) (by walk_at "b2");have Qau:XI l.prog w K g mg base:=ZS X G p33 (ZaD · T Qak) (by walk_at "b2");have QaZ:Zak l.prog w K g mg base:=ZS X G p34 (Zb0 · T Qau Qak) (by walk_at "b2");have Qal:YE l.prog w K g mg base:=ZS X G p35 (Zaz · T) (by walk_at "b1");have Qam:YF l.prog w K g mg base:=ZS X G p36 (ZaC · T Qal) (by walk_at "b1");have QaU:XG l.prog w K g mg base:=ZS X G p37 (ZaA · T Qam Qal) (by walk_at "b1");have Qa0:Jc l.prog w K g mg base:=ZS X G p38 (Za0 · T Qam QaU) (by walk_at "b1");have Qap:ZbN l.prog w K g mg base:=ZS X G p39 (Zdb · T QaV) (by walk_at "b1");have QaX:Zaj l.prog w K g mg base:=ZS X G p40 (ZbZ · T) (by walk_at "b0");exact ok_law Fl T QaW Qav QaX Qag QaY Qap Qaw Qax QaZ Qa0
theorem walk {l:PySem.W.OpenLaw}{q:Program}{loose:List Str}{XP:(Str->Option Value)->Heap->Prop}{YP:World->Heap->Prop}{d:DefRec}{K:Params->Frag}(hn:l.most=some 63)(hdf:d.params.defaults=[])(hY:∀(w:World)(h:Heap),YP w h->(K w.params).In h)(F:∀(w:World)(mg:Str->Option Value)(fa:Addr)(h:Heap),(K w.params).In h->h.Ns mainGlobals mg->mg d.name=some (.ref fa) ->
      ∃(g:Ga)(fd:FuncData),(∀(s:Shared)(u:Value),BindsTo s fd ⟨[u],[]⟩ [("_law_script",u)])/\∀ base:Heap,(K w.params).In base->base.Ns mainGlobals mg->FnOk l.prog w (K w.params) mg base CX0 11 fa fd ["_law_script"] (Zcr (K w.params) g)) :
    PySem.W.WalkO q loose XP YP l.row.toRowW d [] (λ f vs=>PySem.call f vs):=
  L2.walk_of (n:=63) (k:=11) (x:="_law_script") (CX:=λ _=>CX0) (sp:=λ w=>Zcr (K w.params) {}) hn (by decide) hdf ⟨rfl,by decide,by decide⟩ hY (λ w mg fa h a b c=>(F w mg fa h a b c).elim λ _ z=>z) (λ _ _ a ns hl _ hS=>⟨a,ns,rfl,hS,hl,λ _=>rfl⟩) λ _ _ _ _ _ z=>z
end My
open PySem PySem.W PyProof.Rows
set_option maxRecDepth 100000 in
set_option maxHeartbeats 0 in
theorem PySem.Challenge.cw_deadhand_k46_rows_written_holds : PySem.Challenge.rw_deadhand_k46_rows_written.Holds := by
  w_on; o_law; z_head; (case hw=>w_witness2)
  refine L2.walkX_of (by intro P; exact rfl) (My.walk (l:=PySem.Challenge.rw_deadhand_k46_rows_written) rfl rfl (fun w h Y=>Y) ?F)
  case F =>
    intro w mg fa h KX G hmg;refine' My.all_mk KX G hmg ?Qa1 ?Qa2 ?Qa3 ?Qa4 ?Qa5 ?Qa6 ?Qa7 ?Qa8 ?Qa9 ?Qba ?Qbb ?Qbc ?Qbd ?Qbe ?Qbf ?Qbg ?Qbh ?Qbi ?Qbj ?Qbk ?pe_NoText_NoText ?Qbl ?Qbm ?Qbn ?Qbo ?lk_BARRED ?Qbp ?Qbq ?Qbr ?Qbs ?Qbt ?Qbu ?rlk ?rns ?re0 ?re1 ?re2 ?alk ?ans ?ae0 ?ae1 ?ae2 ?ae3 ?ae4 ?ak0 ?ak1 ?ak2 ?ak3 ?ak4 ?p0 ?p1 ?p2 ?p3 ?p4 ?p5 ?p6 ?p7 ?p8 ?p9 ?p10 ?p11 ?p12 ?p13 ?p14 ?p15 ?p16 ?p17 ?p18 ?p19 ?p20 ?p21 ?p22 ?p23 ?p24 ?p25 ?p26 ?p27 ?p28 ?p29 ?p30 ?p31 ?p32 ?p33 ?p34 ?p35 ?p36 ?p37 ?p38 ?p39 ?p40 ?p41
    (case Qa1=>k_is)
    (case Qa2=>k_is)
    (case Qa3=>k_is)
    (case Qa4=>k_is)
    (case Qa5=>k_is)
    (case Qa6=>k_is)
    (case Qa7=>k_is)
    (case Qa8=>k_is)
    (case Qa9=>k_is)
    (case Qba=>k_is)
    (case Qbb=>k_is)
    (case Qbc=>k_is)
    (case Qbd=>k_is)
    (case Qbe=>k_is)
    (case Qbf=>k_exc)
    (case Qbg=>k_is)
    (case Qbh=>k_is)
    (case Qbi=>k_is)
    (case Qbj=>k_is)
    (case Qbk=>k_is)
    (case pe_NoText_NoText=>kts_exm)
    (case Qbl=>k_is)
    (case Qbm=>k_is)
    (case Qbn=>k_is)
    (case Qbo=>k_is)
    (case lk_BARRED=>k_is)
    (case Qbp=>k_is)
    (case Qbq=>k_is)
    (case Qbr=>k_is)
    (case Qbs=>k_is)
    (case Qbt=>k_is)
    (case Qbu=>k_is)
    (case rlk=>k_is)
    (case rns=>rfl)
    (case re0=>rfl)
    (case re1=>rfl)
    (case re2=>rfl)
    (case alk=>k_is)
    (case ans=>rfl)
    (case ae0=>rfl)
    (case ae1=>rfl)
    (case ae2=>rfl)
    (case ae3=>rfl)
    (case ae4=>rfl)
    all_goals (try first | (refine' L2.glp_mk ?a ?l ?c ?k; (case a=>k_is); (case l=>k_is); (case c=>k_is); (case k=>k_is)) | (refine' L2.mtp_mk ?a ?i ?l ?c ?k; (case a=>k_is); (case i=>k_is); (case l=>k_is); (case c=>k_is); (case k=>k_is)) | k_is)
