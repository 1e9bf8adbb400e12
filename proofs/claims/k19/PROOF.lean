import PyProof.Rows.All
import Wide.All
import OpenK.AllK
import Wide.FinOn
import Lean
import PyProof.EqAt
import PyProof.EqKinds
import PyProof.TupleCall
import KE.KDictList
import PyProof.Rows.StrCountLaw
import KE.KIntText
import PyProof.P3In
import PySem.Challenge.RW_deadhand_k19_heirs_by_stems
open PySem.W (instObj hideAll Frag lookIn plainGet hasDictIn findIn isFn plainOver makesIn emptyDict keepIn fnOf codeIn excIn nsIn subIn mg_of mg_none_of)
open Nat (lt_of_lt_of_le lt_irrefl ne_of_lt le_trans le_of_lt le_refl zero_le le_succ lt_succ_of_lt lt_or_ge)
open List (mem_cons_self mem_cons_of_mem mem_append_left mem_append_right size_toArray length_cons map_cons length_map append_nil length_take getElem?_append_right getElem?_append_left getElem?_map mem_of_getElem? length_append length_replicate find?_cons any_cons map_nil flatten_cons append_assoc length_singleton take_succ getElem?_eq_getElem take_length mem_append all_append map_append nodup_append map_map map_congr_left eq_nil_or_concat mem_map length_range mem_cons not_mem_nil getElem_mem filter_append length_filter_le)
open Array (length_toList getElem?_toList)
open Option (isSome_map map_some)
open PySem.F (slot_dict_get plainAttrs_str slot_str_count type_str_count plainAttrs_list)
open Int (toNat_natCast emod_lt_of_pos emod_nonneg)
open Bool (and_eq_true or_eq_true)
open PySem (boot_len)
open PyProof.Rows (boot_list boot_max boot_str)
set_option Elab.async false
set_option linter.all false
set_option maxRecDepth 100000
namespace L2
open PySem PySem.Spec PyProof.Rows
noncomputable abbrev Key:=Sum Int Str
noncomputable def Zbx:Key->Value->Bool
  |.inl k,v=>Value.isInt k v
  |.inr x,v=>Value.isStrOf x v
noncomputable def keyH (w:World):Key->Int
  |.inl k=>hashInt k
  |.inr x=>hashStr w x
theorem ZJ:∀ {k:Key} {v:Value},Zbx k v=true->(∃ i t,k=Sum.inl i/\v=Value.int i t)\/(∃ x t,k=Sum.inr x/\v=Value.str x t)
  | .inl i,v,h=>by
    obtain⟨t,e⟩:=Value.isInt_shape (k:=i) (v:=v) h;exact .inl ⟨i,t,rfl,e⟩
  | .inr x,v,h=>by
    obtain⟨t,e⟩:=Value.isStrOf_shape (x:=x) (v:=v) h;exact .inr ⟨x,t,rfl,e⟩
theorem ZgA (i:Int)(t:Tok):Zbx (.inl i) (.int i t)=true:=by simp[Zbx,Value.isInt]
theorem Zgz (x:Str)(t:Tok):Zbx (.inr x) (.str x t)=true:=by simp[Zbx,Value.isStrOf]
theorem key_ll (a b:Int):decide ((Sum.inl a:Key)=Sum.inl b)=(a == b):=by
  by_cases e:a=b
  . subst e;simp
  . have h:¬ (Sum.inl a:Key)=Sum.inl b:=λ q=>e (Sum.inl.inj q);rw[decide_eq_false h];exact(beq_eq_false_iff_ne.mpr e).symm
theorem key_rr (a b:Str):decide ((Sum.inr a:Key)=Sum.inr b)=decide (a=b):=by
  by_cases e:a=b
  . subst e;simp
  . have h:¬ (Sum.inr a:Key)=Sum.inr b:=λ q=>e (Sum.inr.inj q);rw[decide_eq_false h,decide_eq_false e]
theorem key_lr (a:Int)(b:Str):decide ((Sum.inl a:Key)=Sum.inr b)=false:=decide_eq_false (λ q=>nomatch q)
theorem key_rl (a:Str)(b:Int):decide ((Sum.inr a:Key)=Sum.inl b)=false:=decide_eq_false (λ q=>nomatch q)
noncomputable def ZM (prog:Program)(w:World):PySem.KeyKind prog w Key where
  is:=Zbx
  hash:=keyH w
  inj:=λ v a b ha hb=>by
    rcases ZJ ha with ⟨i,t,rfl,rfl⟩|⟨x,t,rfl,rfl⟩
    . rcases ZJ hb with ⟨j,u,rfl,e⟩|⟨y,u,rfl,e⟩
      . injection e with e1 _;rw[e1]
      . exact nomatch e
    . rcases ZJ hb with ⟨j,u,rfl,e⟩|⟨y,u,rfl,e⟩
      . exact nomatch e
      . injection e with e1 _;rw[e1]
  byValue:=λ k v h=>by
    rcases ZJ h with ⟨i,t,rfl,rfl⟩|⟨x,t,rfl,rfl⟩ <;> rfl
  pyHash:=λ hv h=>by
    rcases ZJ hv with ⟨i,t,rfl,rfl⟩|⟨x,t,rfl,rfl⟩
    . exact wpAny_pyHash_int h
    . exact wpAny_pyHash_str h
  eqBool:=λ hu hv h=>by
    rcases ZJ hu with ⟨i,t,rfl,rfl⟩|⟨x,t,rfl,rfl⟩
    . rcases ZJ hv with ⟨j,u,rfl,rfl⟩|⟨y,u,rfl,rfl⟩
      . rw[key_ll]at h;exact wpAny_eqBool_int h
      . rw[key_lr]at h;exact SeqAt.EqAt.int_str i t y u _ _ _ _ h
    . rcases ZJ hv with ⟨j,u,rfl,rfl⟩|⟨y,u,rfl,rfl⟩
      . rw[key_rl]at h;exact SeqAt.EqAt.str_int x t j u _ _ _ _ h
      . rw[key_rr]at h;exact wpAny_eqBool_str h
  «strs»:=λ k x t v h=>by
    rcases ZJ h with ⟨i,u,rfl,e⟩|⟨y,u,rfl,e⟩
    . exact nomatch e
    . injection e with e1 _;subst e1;cases v <;> rfl
theorem ZeE (prog:Program)(w:World)(i:Int)(t:Tok):(ZM prog w).is (.inl i) (.int i t)=true:=ZgA i t
theorem ZeD (prog:Program)(w:World)(x:Str)(t:Tok):(ZM prog w).is (.inr x) (.str x t)=true:=Zgz x t
open PySem PySem.Spec PyProof.Rows
inductive V where
  | non|bl (b:Bool)|int (i:Int)|str (x:Str)|byt (b:Array UInt8)|flt (b:UInt64)|ref (a:Addr)|ty (n:String)
  deriving DecidableEq
noncomputable def Zw:V->Value->Prop
  |.non,u=>u=Value.none
  |.bl b,u=>u=Value.bool b
  |.int i,u=>∃ t,u=Value.int i t
  |.str x,u=>∃ t,u=Value.str x t
  |.byt b,u=>∃ t,u=Value.bytes b t
  |.flt b,u=>∃ t,u=Value.float b t
  |.ref a,u=>u=Value.ref a
  |.ty n,u=>u=Value.type n
noncomputable abbrev ZF:List V->List Value->Prop:=Paired Zw
theorem ZF.length {xs:List V}{us:List Value}(r:ZF xs us):xs.length=us.length:=Paired.length r
theorem ZF.get:∀ {xs:List V} {us:List Value} {i:Nat} {x:V},ZF xs us->xs[i]? = some x->∃ u,us[i]? = some u/\Zw x u
  |_,_,_,_, .nil,e=>by simp at e
  |_,_,0,_, .cons r _,e=>by simp at e;subst e;exact⟨_,rfl,r⟩
  | _,_,i+1,x, .cons _ t,e=>by
    obtain⟨u,h1,h2⟩:=ZF.get (i:=i) (x:=x) t (by simpa using e);exact⟨u,by simpa using h1,h2⟩
theorem ZF.set {x:V}{u:Value}(r:Zw x u):∀ {xs:List V} {us:List Value} (i:Nat),ZF xs us->ZF (xs.set i x) (us.set i u)
  |_,_,_, .nil => .nil
  |_,_,0, .cons _ t => .cons r t
  |_,_,i+1, .cons q t => .cons q (ZF.set r i t)
theorem ZF.append:∀ {xs ys:List V} {us ws:List Value},ZF xs us->ZF ys ws->ZF (xs++ys) (us++ws)
  |_,_,_,_, .nil,s=>s
  |_,_,_,_, .cons r t,s => .cons r (ZF.append t s)
noncomputable def Ji:Option V->Option Value->Prop
  |some v,some u=>Zw v u
  |none,none=>True
  |_,_=>False
noncomputable def KV {κ:Type}:List (κ×V)->List (κ×Value)->Prop:=Paired λ(p:κ×V)(q:κ×Value)=>p.1=q.1/\Zw p.2 q.2
noncomputable def kV:Key->V
  |.inl i => .int i
  |.inr x => .str x
inductive HO where
    | lst (xs:List V)
    | tup (xs:List V)
    | dK (kvs:List (Key×V))|dT (kvs:List (List Key×V))
    | set (S:Int->Bool) (n:Nat)
    | ins (C dx:Addr) (fs:List (Str×V))
    | own (x:Addr)
    | xd (fs:List (Str×V))
    | met (f x:Addr)
    | rng (lo hi:Int)
    | frz (o:Obj) (u:HO)
    | tbl (ps:Array Value)
    | ext (φ:Heap->Prop)
noncomputable abbrev Hp:=Addr->Option HO
noncomputable def upd (H:Hp)(a:Addr)(o:HO):Hp:=λ b=>if b=a then some o else H b
theorem Zb {H:Hp}{a:Addr}{o:HO}:upd H a o a=some o:=by unfold upd;rw[if_pos rfl]
theorem Zc {H:Hp}{a b:Addr}{o:HO}(h:b≠a):upd H a o b=H b:=by unfold upd;rw[if_neg h]
theorem Zdt {H:Hp}{a:Addr}{o u:HO}:upd (upd H a o) a u=upd H a u:=by
 funext b;unfold upd;split <;> rfl
theorem Za5 {H:Hp}{a b:Addr}{o u:HO}(h:H a=some o)(h':H b=some u)(d:o≠u):a≠b:=by
 intro e;subst e;rw[h]at h';exact d (Option.some.inj h')
theorem Zk {H:Hp}{a b:Addr}{o:HO}(h:H a=some o)(h':H b=none):a≠b:=by
 intro e;subst e;rw[h]at h';cases h'
section
variable (P:Program)(w:World)
noncomputable def ZR (H:Hp)(h:Heap)(a:Addr):HO->Prop
  |.lst xs=>xs.length<=sizeLine/\∃(its:List Value)(n:Nat),ZF xs its/\h.get? a=some { cls:=.type "list",data:=.seq its.toArray n }
  |.tup xs=>xs.length<=sizeLine/\∃ its:List Value,ZF xs its/\IsTup h a its.toArray
  |.dK kvs=>kvs.length<=sizeLine/\(a == sysModules)=false/\∃ vs,KV kvs vs/\h.DictOf (ZM P w) a vs
  | .dT kvs=>kvs.length<=sizeLine/\(a == sysModules)=false/\∃ xs:List (List Key×Addr×Value),
      Paired (λ(p:List Key×V)(q:List Key×Addr×Value)=>p.1=q.1/\H q.2.1=some (.tup (p.1.map kV))/\Zw p.2 q.2.2) kvs xs /\
      ∃ o es ep,h.get? a=some o/\o.ExactDict/\o.data = .dict es ep/\es.toList=xs.map (entryOfKey (tupleKind (ZM P w)))/\(xs.map (·.1)).Nodup
  |.set S n=>h.SetOf (intKind P w) a S n
  | .ins C dx fs=>H dx=some (.own a)/\fs.length<=1000/\dx≠a/\h.get? a=some (instObj C dx) /\
      ∃ mA,h.Ns1 dx mA/\(∀ f,Ji (fs.lookup f) (mA f))/\PySem.Within mA (fs.map (·.1))
  |.own _=>∃ o,h.get? a=some o
  |.xd fs=>∃ mA,h.Ns1 a mA/\∀ f,Ji (fs.lookup f) (mA f)
  |.rng lo hi=>∃ t u v,h.get? a=some { cls:=.type "range",data:=.fields #[.int lo t, .int hi u, .int 1 v] }
  |.frz o u=>h.get? a=some o/\ZR H h a u
  |.tbl ps=>h.get? a=some { cls:=.none,data:=.fields ps }
  |.met f x=>h.get? a=some (PySem.W.methodObj (.ref f) (.ref x))
  |.ext φ=>φ h/\(∃ o,h.get? a=some o)/\∀ h1 h2:Heap,φ h1->(∀ o,h1.get? a=some o->h2.get? a=some o)->φ h2
noncomputable def HOk (H:Hp)(h:Heap):Prop:=∀ a o,H a=some o->ZR P w H h a o
end
section
variable {P:Program}{w:World}{H H':Hp}{h h':Heap}{a:Addr}{o:HO}
theorem ZR.lt (x:ZR P w H h a o):a<h.objs.size:=by
  cases o with
  |lst xs=>obtain⟨_,_,_,_,e⟩:=x;exact Heap.lt_size e
  |tup xs=>obtain⟨_,_,_,p⟩:=x;exact p.lt
  |dK kvs=>obtain⟨_,_,_,_,o,_,_,e,_⟩:=x;exact Heap.lt_size e
  |dT kvs=>obtain⟨_,_,_,_,o,_,_,e,_⟩:=x;exact Heap.lt_size e
  |set S n=>obtain⟨o,_,_,_,e,_⟩:=x;exact Heap.lt_size e
  |ins C dx fs=>obtain⟨_,_,_,e,_⟩:=x;exact Heap.lt_size e
  |own y=>obtain⟨_,e⟩:=x;exact Heap.lt_size e
  |xd fs=>obtain⟨_,⟨_,_,_,e,_⟩,_⟩:=x;exact Heap.lt_size e
  |rng lo hi=>obtain⟨_,_,_,e⟩:=x;exact Heap.lt_size e
  |frz ob u=>obtain⟨e,_⟩:=x;exact Heap.lt_size e
  |tbl ps=>exact Heap.lt_size (show h.get? a=some _ from x)
  |met f y=>exact Heap.lt_size (show h.get? a=some _ from x)
  |ext φ=>obtain⟨_,⟨_,e⟩,_⟩:=x;exact Heap.lt_size e
theorem Paired.mapP {α β:Type}{F G:α->β->Prop}:∀ {l₁:List α} {l₂:List β},Paired F l₁ l₂->(∀ a b,F a b->G a b)->Paired G l₁ l₂
  |_,_, .nil,_ => .nil
  |_,_, .cons r t,f => .cons (f _ _ r) (Paired.mapP t f)
theorem ZR.stay (x:ZR P w H h a o)(k:∀ b u,(b=a\/H b=some (.own a))->h.get? b=some u->h'.get? b=some u)(ho:∀ b,H b=some (.own a)->H' b=some (.own a))(ht:∀ b xs,H b=some (.tup xs)->H' b=some (.tup xs)):ZR P w H' h' a o:=by
  induction o with
  |lst xs=>obtain⟨z,its,n,r,e⟩:=x;exact⟨z,its,n,r,k _ _ (.inl rfl) e⟩
  |tup xs=>obtain⟨z,its,r,ob,e,c⟩:=x;exact⟨z,its,r,ob,k _ _ (.inl rfl) e,c⟩
  |dK kvs=>obtain⟨z,y,vs,r,ob,es,ep,e,c⟩:=x;exact⟨z,y,vs,r,ob,es,ep,k _ _ (.inl rfl) e,c⟩
  |dT kvs=>
    obtain⟨z,y,xs,r,ob,es,ep,e,c⟩:=x;exact⟨z,y,xs,Paired.mapP r λ p q z=>⟨z.1,ht _ _ z.2.1,z.2.2⟩,ob,es,ep,k _ _ (.inl rfl) e,c⟩
  |set S n=>obtain⟨ob,es,ep,t,e,c⟩:=x;exact⟨ob,es,ep,t,k _ _ (.inl rfl) e,c⟩
  |ins C dx fs=>
    obtain⟨d,z,ne,e,mA,⟨od,es,ep,e2,c⟩,r⟩:=x;exact⟨ho _ d,z,ne,k _ _ (.inl rfl) e,mA,⟨od,es,ep,k _ _ (.inr d) e2,c⟩,r⟩
  |own y=>obtain⟨ob,e⟩:=x;exact⟨ob,k _ _ (.inl rfl) e⟩
  |xd fs=>obtain⟨mA,⟨od,es,ep,e,c⟩,r⟩:=x;exact⟨mA,⟨od,es,ep,k _ _ (.inl rfl) e,c⟩,r⟩
  |rng lo hi=>obtain⟨t,u,v,e⟩:=x;exact⟨t,u,v,k _ _ (.inl rfl) e⟩
  |frz ob u ih=>obtain⟨e,q⟩:=x;exact⟨k _ _ (.inl rfl) e,ih q⟩
  |tbl ps=>
    have e:h.get? a=some { cls:=.none,data:=.fields ps }:=x;show h'.get? a=some { cls:=.none,data:=.fields ps };exact k a _ (.inl rfl) e
  |met f y=>
    have e:h.get? a=some (PySem.W.methodObj (.ref f) (.ref y)):=x;show h'.get? a=some (PySem.W.methodObj (.ref f) (.ref y));exact k a _ (.inl rfl) e
  |ext φ=>obtain⟨p,⟨o,e⟩,st⟩:=x;exact⟨st _ _ p λ o q=>k _ _ (.inl rfl) q,⟨o,k _ _ (.inl rfl) e⟩,st⟩
theorem HOk.lt (x:HOk P w H h)(e:H a=some o):a<h.objs.size:=(x a o e).lt
theorem HOk.fresh (x:HOk P w H h)(e:h.objs.size<=a):H a=none:=by
  cases q:H a with
  |none=>rfl
  |some u=>exact absurd (lt_of_lt_of_le (x.lt q) e) (lt_irrefl _)
theorem HOk.kept (x:HOk P w H h)(k:∀ b u,h.get? b=some u->h'.get? b=some u):HOk P w H h':=λ a o e=>
 (x a o e).stay (λ b u _ q=>k b u q) (λ _ q=>q) λ _ _ q=>q
theorem HOk.laid (x:HOk P w H h)(k:∀ b u,h.get? b=some u->h'.get? b=some u)(hp:h.objs.size<=a)(new:ZR P w (upd H a o) h' a o):HOk P w (upd H a o) h':=λ b u e=>by
  have hn:=x.fresh hp
  by_cases hb:b=a
  . subst hb;rw[Zb]at e;cases e;exact new
  . rw[Zc hb]at e;exact(x b u e).stay (λ c v _ q=>k c v q) (λ c q=>by rw[Zc (Zk q hn)];exact q) λ c xs q=>by rw[Zc (Zk q hn)];exact q
end
noncomputable def Rd (H:Hp)(a:Addr)(u:HO):Prop:=H a=some u\/∃ o,H a=some (.frz o u)
theorem Rd.ok {P:Program}{w:World}{H:Hp}{h:Heap}{a:Addr}{u:HO}(r:Rd H a u)(x:HOk P w H h):ZR P w H h a u:=by
  rcases r with r|⟨o,r⟩
  . exact x a u r
  . obtain⟨_,q⟩:=x a _ r;exact q
noncomputable def Mut:Option HO->Prop
  |some (.lst _)=>True
  |some (.dK _)=>True
  |some (.dT _)=>True
  |some (.set _ _)=>True
  |some (.ins _ _ _)=>True
  |some (.ext _)=>True
  |_=>False
section
variable {P:Program}{w:World}{H:Hp}{h h':Heap}{x e:Addr}{o':HO}
theorem HOk.write (ok:HOk P w H h)(mu:Mut (H x))(he:e=x\/H e=some (.own x))(k:∀ b u,b≠e->h.get? b=some u->h'.get? b=some u)(heo:∃ u,h'.get? e=some u)(new:ZR P w (upd H x o') h' x o'):HOk P w (upd H x o') h':=λ b u q=>by
  have nown:∀ c y,H c=some (.own y)->c≠x:=λ c y r z=>by subst z;rw[r]at mu;exact mu
  have ntup:∀ c xs,H c=some (.tup xs)->c≠x:=λ c xs r z=>by subst z;rw[r]at mu;exact mu
  by_cases hb:b=x
  . subst hb;rw[Zb]at q;cases q;exact new
  . rw[Zc hb]at q
    by_cases hbe:b=e
    . have q':H b=some (.own x):=by
        rcases he with z|z
        . exact absurd (hbe.trans z) hb
        . rw[hbe];exact z
      rw[q]at q';cases q';obtain⟨v,hv⟩:=heo;exact⟨v,by rw[hbe];exact hv⟩
    . refine(ok b u q).stay (λ c v hc r=>k c v ?_ r) (λ c r=>by rw[Zc (nown c b r)];exact r) λ c xs r=>by rw[Zc (ntup c xs r)];exact r
      rcases hc with rfl|hc
      . exact hbe
      . rintro rfl;rcases he with z|z
        . exact nown c b hc z
        . rw[hc]at z;cases z;exact hb rfl
end
structure Un (fs ex:List Addr)(H H':Hp)(h h':Heap):Prop where
  keep:∀ b o,h.get? b=some o->H b=none->b∉fs->b∉ex->h'.get? b=some o
  slot:∀ b o,h.get? b=some o->H b=none->b∈fs->b∉ex->∃ sl,h'.get? b=some { o with slots:=sl }
  free:∀ b o,h.get? b=some o->H b=none->b∉ex->H' b=none
  there:∀ b o,h.get? b=some o->b∉ex->∃ o',h'.get? b=some o'
  tups:∀ b xs,H b=some (.tup xs)->H' b=some (.tup xs)
  frzs:∀ b o u,H b=some (.frz o u)->H' b=some (.frz o u)
  tbls:∀ b ps,H b=some (.tbl ps)->∃ more,H' b=some (.tbl (ps++more))
section
variable {fs fs' ex ex':List Addr}{H H1 H2:Hp}{h h1 h2 h':Heap}{a x e:Addr}{o:HO}
theorem Un.any (u:Un fs ex H H1 h h1){b:Addr}{ob:Obj}(q:h.get? b=some ob)(n:H b=none)(hx:b∉ex):∃ sl,h1.get? b=some { ob with slots:=sl }:=by
  by_cases hb:b∈fs
  . exact u.slot b ob q n hb hx
  . exact⟨ob.slots,u.keep b ob q n hb hx⟩
theorem Un.trans (a:Un fs ex H H1 h h1)(b:Un fs ex H1 H2 h1 h2):Un fs ex H H2 h h2 where
  keep:=λ c ob q n hc hx=>b.keep c ob (a.keep c ob q n hc hx) (a.free c ob q n hx) hc hx
  slot:=λ c ob q n hc hx=>by
    obtain⟨sl,e1⟩:=a.slot c ob q n hc hx;obtain⟨sl',e2⟩:=b.slot c _ e1 (a.free c ob q n hx) hc hx;exact⟨sl',e2⟩
  free:=λ c ob q n hx=>by
    obtain⟨o',e1⟩:=a.there c ob q hx;exact b.free c o' e1 (a.free c ob q n hx) hx
  there:=λ c ob q hx=>by
    obtain⟨o',e1⟩:=a.there c ob q hx;exact b.there c o' e1 hx
  tups:=λ c xs q=>b.tups c xs (a.tups c xs q)
  frzs:=λ c ob xs q=>b.frzs c ob xs (a.frzs c ob xs q)
  tbls:=λ c ps q=>by
    obtain⟨m1,e1⟩:=a.tbls c ps q;obtain⟨m2,e2⟩:=b.tbls c _ e1;exact⟨m1++m2,by rw[e2,Array.append_assoc]⟩
theorem Un.kept (k:∀ b u,h.get? b=some u->h'.get? b=some u):Un fs ex H H h h':=
 ⟨λ b ob q _ _ _=>k b ob q,λ b ob q _ _ _=>⟨ob.slots,k b ob q⟩,λ _ _ _ n _=>n,λ b ob q _=>⟨ob,k b ob q⟩,λ _ _ q=>q,λ _ _ _ q=>q,λ _ ps q=>⟨#[],by rw[q];simp⟩⟩
theorem Un.refl:Un fs ex H H h h:=Un.kept λ _ _ q=>q
theorem Un.laid (k:∀ b u,h.get? b=some u->h'.get? b=some u)(hp:h.objs.size<=a)(hn:H a=none):Un fs ex H (upd H a o) h h' where
 keep:=λ b u q _ _ _=>k b u q
 slot:=λ b u q _ _ _=>⟨u.slots,k b u q⟩
 free:=λ b u q n _=>by rw[Zc (ne_of_lt (lt_of_lt_of_le (Heap.lt_size q) hp))];exact n
 there:=λ b u q _=>⟨u,k b u q⟩
 tups:=λ b xs q=>by rw[Zc (Zk q hn)];exact q
 frzs:=λ b u xs q=>by rw[Zc (Zk q hn)];exact q
 tbls:=λ b ps q=>⟨#[],by rw[Zc (Zk q hn),q];simp⟩
theorem Un.write (mu:Mut (H x))(he:e=x\/H e=some (.own x))(k:∀ b u,b≠e->h.get? b=some u->h'.get? b=some u)(heo:∃ u,h'.get? e=some u):Un fs ex H (upd H x o) h h':=by
  have hx:∀ b,H b=none->b≠x:=λ b n z=>by subst z;rw[n]at mu;exact mu
  have hb:∀ b,H b=none->b≠e:=λ b n z=>by
    subst z;rcases he with r|r
    . exact hx b n r
    . rw[n]at r;cases r
  have hm:∀ b u,H b=some u->¬ Mut (some u)->b≠x:=λ b u q nm z=>by subst z;rw[q]at mu;exact nm mu
  refine⟨λ b u q n _ _=>k b u (hb b n) q,λ b u q n _ _=>⟨u.slots,k b u (hb b n) q⟩,λ b u q n _=>by rw[Zc (hx b n)];exact n,λ b u q _=>?_,
    λ b xs q=>by rw[Zc (hm b _ q λ z=>z)];exact q,λ b u xs q=>by rw[Zc (hm b _ q λ z=>z)];exact q,λ b ps q=>⟨#[],by rw[Zc (hm b _ q λ z=>z),q];simp⟩⟩
  by_cases hbe:b=e
  . subst hbe;exact heo
  . exact⟨u,k b u hbe q⟩
theorem Un.mono (u:Un fs ex H H1 h h1)(hs:∀ b∈fs,b∈fs')(hx:∀ b∈ex,b∈ex'):Un fs' ex' H H1 h h1:=
 ⟨λ b ob q n hb he=>u.keep b ob q n (λ z=>hb (hs b z)) λ z=>he (hx b z),λ _ _ q n _ he=>u.any q n λ z=>he (hx _ z),λ b ob q n he=>u.free b ob q n λ z=>he (hx b z),λ b ob q he=>u.there b ob q λ z=>he (hx b z),u.tups,u.frzs,u.tbls⟩
end
noncomputable def trk (h:Heap)(H:Hp):List Addr:=(List.range h.objs.size).filter λ a=>(H a).isSome
noncomputable def Zd7 (h:Heap)(H:Hp):Heap:=hideAll h (trk h H)
theorem ZgD (h:Heap)(H:Hp):(Zd7 h H).objs.size=h.objs.size:=PySem.W.hideAll_size _ _
theorem ZhJ {h:Heap}{H:Hp}{b:Addr}{o:Obj}(e:h.get? b=some o)(n:H b=none):(Zd7 h H).get? b=some o:=
  PySem.W.hideAll_get _ e λ hm=>by
    have q:(H b).isSome=true:=(List.mem_filter.mp hm).2;rw[n]at q;simp at q
theorem Ziv {h:Heap}{H:Hp}{b:Addr}{o:Obj}(e:(Zd7 h H).get? b=some o):h.get? b=some o/\H b=none:=by
  have e':h.get? b=some o:=PySem.W.of_hideAll (trk h H) e;refine⟨e',?_⟩;cases q:H b with
  |none=>rfl
  |some x=>
    have hm:b∈trk h H:=List.mem_filter.mpr ⟨List.mem_range.mpr (Heap.lt_size e'),by simp[q]⟩;have z:(Zd7 h H).get? b=none:=PySem.W.hideAll_none (trk h H) hm;rw[z]at e;cases e
noncomputable def ZiP (g h:Heap)(L:Addr):List (Addr×Obj):=(List.range h.objs.size).filterMap λ a=>if a=L\/(g.get? a).isSome=true then none else (h.get? a).map λ o=>(a,o)
noncomputable def Zbd (g h:Heap)(L d:Addr):List (Addr×Obj):=(ZiP g h L).filter λ p=>decide (p.1≠d)
open PySem PySem.Spec PyProof.Rows
structure Mod (K:Frag)(mg:Str->Option Value)(base:Heap):Prop where
  kin:K.In base
  glob:base.Ns mainGlobals mg
  blt:∃ mb,base.Ns builtinsNs mb/\∀ x:Str,x≠"__name__"->mb x=bootBuiltins x
  nolimit:base.NoLimit
structure Cx where
  prog:Program
  w:World
  K:Frag
  mg:Str->Option Value
  base:Heap
  A:Around
  N:List Str
  s₀:Shared
  H₀:Hp
  env:Env
  outer:List Env
  stack:List Env
  ex:List Addr
  fn:Str->Bool
  calm:Bool
  pn:List (Addr×Obj)
  xe:Value->Shared->Prop
noncomputable def frs (l:List Env):List Addr:=l.filterMap (·.frame)
noncomputable abbrev Cx.fs (X:Cx):List Addr:=frs X.outer
noncomputable def Vis (sc:Scope)(x:Str):Prop:=sc.names.lookup x=some .local\/sc.names.lookup x=some .cell\/sc.names.lookup x=some .free
noncomputable def Loc (sc:Scope)(x:Str):Prop:=sc.names.lookup x=some .local\/sc.names.lookup x=some .cell
noncomputable def Look (env:Env)(h:Heap)(m:Str->Option Value)(x:Str)(u:Value):Prop:=
 (env.kindOf x=some .local/\m x=some u)\/((env.kindOf x=some .cell\/env.kindOf x=some .free)/\∃ c,env.cells.lookup x=some c/\h.IsCell c (some u))
structure Cx.Ok (X:Cx):Prop where
  mod:Mod X.K X.mg X.base
  kind:X.env.scope.kind = .function
  glob:X.env.globals=mainGlobals
  blt:X.env.builtins=builtinsNs
  above:X.s₀.heap.objs.size<=X.env.locals
  inj:∀ x y c,X.env.cells.lookup x=some c->X.env.cells.lookup y=some c->x=y
  has:∀ x,(X.env.kindOf x=some .cell\/X.env.kindOf x=some .free)->∃ c,X.env.cells.lookup x=some c
  cab:∀ x c,X.fn x=true->X.env.cells.lookup x=some c->X.s₀.heap.objs.size<=c
  hd:X.calm=true->X.A.handled=none
  frames:X.A.frames=some X.stack
  stk:X.stack=X.outer\/(X.stack=X.env::X.outer/\X.env.frame=some X.env.locals)
  exf:∀ b∈X.ex,b≠X.env.locals/\∀ x c,X.env.cells.lookup x=some c->c≠b
  bs:∀ b o,X.base.get? b=some o->X.s₀.heap.get? b=some o/\X.H₀ b=none
  bsz:X.base.objs.size<=X.s₀.heap.objs.size
  noex:∀ b o,X.base.get? b=some o->b∉X.ex
  exfs:∀ b∈X.ex,b∉X.fs
  funs:X.s₀.heap.FunFrames X.base X.outer
  frf:∀ b∈X.fs,X.H₀ b=none
structure Inv (X:Cx)(pins:List (Addr×Obj))(σ:List (Option V))(H:Hp)(s:Shared):Prop where
  ok:X.Ok
  os:s.os=X.s₀.os
  bare:AllBare s.gens
  base:Un X.fs X.ex X.H₀ H X.s₀.heap s.heap
  loc:∃ m,s.heap.Ns X.env.locals m/\∀(i:Nat)(x:Str)(v:V),X.N[i]? = some x->σ[i]? = some (some v)->Vis X.env.scope x->∃ u,Zw v u/\Look X.env s.heap m x u
  cell:∀ x c,X.env.cells.lookup x=some c->∃ v,s.heap.IsCell c v
  free:H X.env.locals=none
  freeC:∀ x c,X.env.cells.lookup x=some c->H c=none
  pin:∀ p∈X.pn++pins,s.heap.get? p.1=some p.2/\H p.1=none/\p.1≠X.env.locals/\p.1∉X.fs/\∀ v,p.2.data ≠ .cell v
  hok:HOk X.prog X.w H s.heap
  len:σ.length=X.N.length
section
variable {X:Cx}{pins:List (Addr×Obj)}{σ:List (Option V)}{H H':Hp}{s:Shared}{h':Heap}
theorem Cx.Ok.nofr (ok:X.Ok){b:Addr}{o:Obj}(e:X.base.get? b=some o):b∉X.fs:=λ hb=>by
 have:=(ok.funs.mem hb).1;rw[e]at this;cases this
theorem Inv.bs (I:Inv X pins σ H s):∀ b o,X.base.get? b=some o->s.heap.get? b=some o/\H b=none:=λ b o e=>
 ⟨I.base.keep b o (I.ok.bs b o e).1 (I.ok.bs b o e).2 (I.ok.nofr e) (I.ok.noex b o e),I.base.free b o (I.ok.bs b o e).1 (I.ok.bs b o e).2 (I.ok.noex b o e)⟩
theorem Inv.bk (I:Inv X pins σ H s):∀ b o,X.base.get? b=some o->s.heap.get? b=some o:=λ b o e=>(I.bs b o e).1
theorem Inv.mod (I:Inv X pins σ H s):Mod X.K X.mg X.base:=I.ok.mod
theorem Inv.kIn (I:Inv X pins σ H s):X.K.In s.heap:=I.ok.mod.kin.keeps I.bk
theorem Inv.lt (I:Inv X pins σ H s):X.env.locals<s.heap.objs.size:=let ⟨_,hn,_⟩:=I.loc;hn.lt
theorem Inv.sz (I:Inv X pins σ H s):X.s₀.heap.objs.size<=s.heap.objs.size:=le_trans I.ok.above (le_of_lt I.lt)
theorem Inv.nofs (I:Inv X pins σ H s){a:Addr}(h:s.heap.objs.size<=a):a∉X.fs:=λ hb=>by
 obtain⟨_,o,ho,_⟩:=I.ok.funs.mem hb;exact absurd (lt_of_lt_of_le (Heap.lt_size ho) (le_trans I.sz h)) (lt_irrefl _)
theorem Inv.cne (I:Inv X pins σ H s):∀ x c,X.env.cells.lookup x=some c->c≠X.env.locals:=λ x c e z=>by
 obtain⟨v,o,ho,hd⟩:=I.cell x c e;obtain⟨m,⟨o',es,ep,ho',hd',_⟩,_⟩:=I.loc;rw[z,ho']at ho;cases ho;rw[hd']at hd;cases hd
theorem Inv.funs (I:Inv X pins σ H s):s.heap.FunFrames X.base X.outer:=by
  have all:∀(l:List Env),(∀ b∈frs l,b∈X.fs)->X.s₀.heap.FunFrames X.base l->s.heap.FunFrames X.base l:=by
    intro l
    induction l with
    |nil=>intro _ _;trivial
    |cons env r ih=>
      intro hs hl;obtain⟨hk,⟨L,o,hf,hn,ho,hd⟩,hr⟩:=hl;have hL:L∈X.fs:=hs L (by unfold frs;rw[List.filterMap_cons,hf];exact mem_cons_self);obtain⟨sl,e⟩:=I.base.slot L o ho (I.ok.frf L hL) hL λ z=>I.ok.exfs L z hL;exact⟨hk,⟨L,_,hf,hn,e,hd⟩,ih (λ b hb=>hs b (by unfold frs;rw[List.filterMap_cons,hf];exact mem_cons_of_mem _ hb)) hr⟩
  exact all X.outer (λ _ hb=>hb) I.ok.funs
theorem Inv.stack (I:Inv X pins σ H s):s.heap.FunFrames X.base X.stack:=by
  rcases I.ok.stk with e|⟨e,hf⟩
  . rw[e];exact I.funs
  . rw[e];obtain⟨m,hn,_⟩:=I.loc;refine .cons (by rw[I.ok.kind];decide) hf hn ?_ I.funs;exact Heap.get?_none_of_le (le_trans I.ok.bsz I.ok.above)
theorem Inv.stkSub (I:Inv X pins σ H s):∀ b∈frs X.stack,b∈X.env.locals::X.fs:=λ b hb=>by
  rcases I.ok.stk with e|⟨e,hf⟩
  . rw[e]at hb;exact mem_cons_of_mem _ hb
  . rw[e]at hb;unfold frs at hb;rw[List.filterMap_cons,hf]at hb;exact hb
theorem Inv.stkFree (I:Inv X pins σ H s):∀ b∈frs X.stack,H b=none:=λ b hb=>by
  rcases List.mem_cons.mp (I.stkSub b hb) with e|hb
  . rw[e];exact I.free
  . obtain⟨_,o,ho,_⟩:=I.ok.funs.mem hb;exact I.base.free b o ho (I.ok.frf b hb) λ z=>I.ok.exfs b z hb
theorem Inv.step {g':Array GenState}{t':Nat}{d':Drawn}{ch:List Addr}(I:Inv X pins σ H s)(hch:∀ b∈ch,(b∈X.ex\/X.s₀.heap.objs.size<=b)/\b≠X.env.locals/\(∀ x c,X.env.cells.lookup x=some c->c≠b)/\∀ p∈X.pn++pins,p.1≠b)(keep:∀ b o,b≠X.env.locals->b∉X.fs->b∉ch->s.heap.get? b=some o->H b=none->h'.get? b=some o)(slot:∀ b o,b≠X.env.locals->b∈X.fs->b∉ch->s.heap.get? b=some o->H b=none->∃ sl,h'.get? b=some { o with slots:=sl })(free:∀ b o,b∉ch->s.heap.get? b=some o->H b=none->H' b=none)(there:∀ b o,b∉ch->s.heap.get? b=some o->∃ o',h'.get? b=some o')(tups:∀ b xs,H b=some (.tup xs)->H' b=some (.tup xs))(frzs:∀ b o u,H b=some (.frz o u)->H' b=some (.frz o u))(tbls:∀ b ps,H b=some (.tbl ps)->∃ more,H' b=some (.tbl (ps++more)))(ns:∀ m,s.heap.Ns X.env.locals m->h'.Ns X.env.locals m)(hok:HOk X.prog X.w H' h')(hg:AllBare g') :
    Inv X pins σ H' { s with heap:=h',gens:=g',drawn:=d',toks:=t' }:=by
  have neL:∀ b o,X.s₀.heap.get? b=some o->b≠X.env.locals:=λ b o e=>ne_of_lt (lt_of_lt_of_le (Heap.lt_size e) I.ok.above);have neC:∀ b o,X.s₀.heap.get? b=some o->b∉X.ex->b∉ch:=λ b o e hx hb=>by
    rcases(hch b hb).1 with z|z
    . exact hx z
    . exact absurd (lt_of_lt_of_le (Heap.lt_size e) z) (lt_irrefl _)
  have cellK:∀ x c,X.env.cells.lookup x=some c->∀ v,s.heap.IsCell c v->h'.IsCell c v:=λ x c e v ⟨o,ho,hd⟩=>by
    have nch:c∉ch:=λ z=>(hch c z).2.2.1 x c e rfl
    by_cases hc:c∈X.fs
    . obtain⟨sl,q⟩:=slot c o (I.cne x c e) hc nch ho (I.freeC x c e);exact⟨_,q,hd⟩
    . exact⟨o,keep c o (I.cne x c e) hc nch ho (I.freeC x c e),hd⟩
  refine⟨I.ok,I.os,hg,⟨λ b o e n hb hx=>?_,λ b o e n hb hx=>?_,λ b o e n hx=>?_,λ b o e hx=>?_,λ b xs e=>tups b xs (I.base.tups b xs e),λ b o xs e=>frzs b o xs (I.base.frzs b o xs e),λ b ps e=>?_⟩,?_,λ x c e=>?_,?_,λ x c e=>?_,λ p hp=>?_,hok,I.len⟩
  . exact keep b o (neL b o e) hb (neC b o e hx) (I.base.keep b o e n hb hx) (I.base.free b o e n hx)
  . obtain⟨sl,e1⟩:=I.base.slot b o e n hb hx;obtain⟨sl',e2⟩:=slot b _ (neL b o e) hb (neC b o e hx) e1 (I.base.free b o e n hx);exact⟨sl',e2⟩
  . obtain⟨o',e1⟩:=I.base.there b o e hx;exact free b o' (neC b o e hx) e1 (I.base.free b o e n hx)
  . obtain⟨o',e1⟩:=I.base.there b o e hx;exact there b o' (neC b o e hx) e1
  . obtain⟨m1,e1⟩:=I.base.tbls b ps e;obtain⟨m2,e2⟩:=tbls b _ e1;exact⟨m1++m2,by rw[e2,Array.append_assoc]⟩
  . obtain⟨m,hn,hl⟩:=I.loc;refine⟨m,ns m hn,λ i x v e1 e2 e3=>?_⟩;obtain⟨u,r,l⟩:=hl i x v e1 e2 e3;refine⟨u,r,?_⟩;rcases l with l|⟨k,c,e,z⟩
    . exact .inl l
    . exact .inr ⟨k,c,e,cellK x c e _ z⟩
  . obtain⟨v,z⟩:=I.cell x c e;exact⟨v,cellK x c e v z⟩
  . obtain⟨m,⟨o,_,_,ho,_⟩,_⟩:=I.loc;exact free _ o (λ z=>(hch _ z).2.1 rfl) ho I.free
  . obtain⟨v,o,ho,hd⟩:=I.cell x c e;exact free c o (λ z=>(hch c z).2.2.1 x c e rfl) ho (I.freeC x c e)
  . obtain⟨e,n,ne,nf,d⟩:=I.pin p hp;have nch:p.1∉ch:=λ z=>(hch p.1 z).2.2.2 p hp rfl;exact⟨keep p.1 p.2 ne nf nch e n,free p.1 p.2 nch e n,ne,nf,d⟩
theorem Inv.un {t':Nat}(I:Inv X pins σ H s)(u:Un X.fs [] H H' s.heap h')(hok:HOk X.prog X.w H' h'):Inv X pins σ H' { s with heap:=h',toks:=t' }:=by
  obtain⟨m,⟨o,es,ep,ho,r⟩,_⟩:=id I.loc;obtain⟨sl,hL⟩:=u.any ho I.free (by simp);exact I.step (g':=s.gens) (d':=s.drawn) (ch:=[]) (λ _ z=>nomatch z) (λ b o _ hb _ e n=>u.keep b o e n hb (by simp)) (λ b o _ hb _ e n=>u.slot b o e n hb (by simp)) (λ b o _ e n=>u.free b o e n (by simp)) (λ b o _ e=>u.there b o e (by simp)) u.tups u.frzs u.tbls (λ m' hm=>by
    obtain⟨o',es',ep',ho',r'⟩:=hm;rw[ho]at ho';cases ho';exact⟨_,es',ep',hL,r'⟩) hok I.bare
theorem Inv.call {g':Array GenState}{t':Nat}{d':Drawn}{ch:List Addr}(I:Inv X pins σ H s)(u:Un (frs X.stack) ch H H' s.heap h')(hok:HOk X.prog X.w H' h')(hg:AllBare g')(hch:∀ b∈ch,(b∈X.ex\/X.s₀.heap.objs.size<=b)/\b≠X.env.locals/\(∀ x c,X.env.cells.lookup x=some c->c≠b)/\∀ p∈X.pn++pins,p.1≠b) :
    Inv X pins σ H' { s with heap:=h',gens:=g',drawn:=d',toks:=t' }:=by
  obtain⟨m,⟨o,es,ep,ho,r⟩,_⟩:=id I.loc;obtain⟨sl,hL⟩:=u.any ho I.free λ z=>(hch _ z).2.1 rfl;exact I.step (ch:=ch) hch (λ b o hL hb hc e n=>u.keep b o e n (λ z=>(List.mem_cons.mp (I.stkSub b z)).elim hL hb) hc) (λ b o _ _ hc e n=>u.any e n hc) (λ b o hc e n=>u.free b o e n hc) (λ b o hc e=>u.there b o e hc) u.tups u.frzs u.tbls (λ m' hm=>by
    obtain⟨o',es',ep',ho',r'⟩:=hm;rw[ho]at ho';cases ho';exact⟨_,es',ep',hL,r'⟩) hok hg
theorem Inv.turned {t':Nat}{it:Addr}(I:Inv X pins σ H s)(k:∀ b o,b≠it->s.heap.get? b=some o->h'.get? b=some o)(hn:H it=none)(hL:it≠X.env.locals)(h1:it∈X.ex\/X.s₀.heap.objs.size<=it)(h2:∀ x c,X.env.cells.lookup x=some c->c≠it)(h3:∀ p∈X.pn++pins,p.1≠it):Inv X pins σ H { s with heap:=h',toks:=t' }:=by
  have nit:∀ b u,H b=some u->b≠it:=λ b u e z=>by rw[z,hn]at e;cases e
  refine I.step (g':=s.gens) (d':=s.drawn) (ch:=[it]) (λ b hb=>?_) (λ b o _ _ hc e _=>k b o (λ z=>hc (by simp[z])) e) (λ b o _ _ hc e _=>⟨o.slots,k b o (λ z=>hc (by simp[z])) e⟩) (λ _ _ _ _ n=>n)
    (λ b o hc e=>⟨o,k b o (λ z=>hc (by simp[z])) e⟩) (λ _ _ e=>e) (λ _ _ _ e=>e) (λ b ps e=>⟨#[],by rw[e];simp⟩) (λ m hm=>?_) (λ b u e=>?_) I.bare
  . have e:b=it:=by simpa using hb
    subst e;exact⟨h1,hL,h2,h3⟩
  . obtain⟨o,es,ep,ho,r⟩:=hm;exact⟨o,es,ep,k _ o (Ne.symm hL) ho,r⟩
  . refine(I.hok b u e).stay (λ c v hc q=>k c v ?_ q) (λ _ q=>q) λ _ _ q=>q;rcases hc with z|z
    . rw[z];exact nit b u e
    . exact nit c _ z
theorem Inv.tok (I:Inv X pins σ H s)(t:Nat):Inv X pins σ H { s with toks:=t }:=I.un (h':=s.heap) (t':=t) Un.refl I.hok
theorem Inv.kept {t':Nat}(I:Inv X pins σ H s)(k:∀ b u,s.heap.get? b=some u->h'.get? b=some u):Inv X pins σ H { s with heap:=h',toks:=t' }:=I.un (Un.kept k) (I.hok.kept k)
theorem Inv.laid {a:Addr}{o:HO}{t':Nat}(I:Inv X pins σ H s)(k:∀ b u,s.heap.get? b=some u->h'.get? b=some u)(hp:s.heap.objs.size<=a)(new:ZR X.prog X.w (upd H a o) h' a o) :
    Inv X pins σ (upd H a o) { s with heap:=h',toks:=t' }:=I.un (Un.laid k hp (I.hok.fresh hp)) (I.hok.laid k hp new)
theorem Inv.write {x e:Addr}{o:HO}{t':Nat}(I:Inv X pins σ H s)(mu:Mut (H x))(he:e=x\/H e=some (.own x))(k:∀ b u,b≠e->s.heap.get? b=some u->h'.get? b=some u)(heo:∃ u,h'.get? e=some u)(new:ZR X.prog X.w (upd H x o) h' x o):Inv X pins σ (upd H x o) { s with heap:=h',toks:=t' }:=I.un (Un.write mu he k heo) (I.hok.write mu he k heo new)
theorem Inv.pins_of {pins':List (Addr×Obj)}(I:Inv X pins σ H s)(h:∀ p∈pins',s.heap.get? p.1=some p.2/\H p.1=none/\p.1≠X.env.locals/\p.1∉X.fs/\∀ v,p.2.data ≠ .cell v):Inv X pins' σ H s:=
 ⟨I.ok,I.os,I.bare,I.base,I.loc,I.cell,I.free,I.freeC,λ p hp=>(List.mem_append.mp hp).elim (λ z=>I.pin p (mem_append_left _ z)) (h p),I.hok,I.len⟩
theorem ZeA {N:List Str}(hN:N.Nodup){i j:Nat}{x:Str}(a:N[i]? = some x)(b:N[j]? = some x):i=j:=by
 obtain⟨h1,e1⟩:=List.getElem?_eq_some_iff.mp a;obtain⟨h2,e2⟩:=List.getElem?_eq_some_iff.mp b;exact(List.getElem_inj hN).mp (e1.trans e2.symm)
theorem Zc4 {M:Model}{A:Around}{E:Value->Shared->Prop}{i:Nat}{x:Str}{v:V}{u:Value}{Q:Unit->Shared->Prop}(I:Inv X pins σ H s)(hN:X.N.Nodup)(hi:X.N[i]? = some x)(hx:Loc X.env.scope x)(r:Zw v u)(h:∀ s',Inv X pins (σ.set i (some v)) H s'->(∃ a,Heap.SameBut a s.heap s'.heap/\(a=X.env.locals\/X.env.cells.lookup x=some a))->Q () s')(hf:X.fn x=true\/X.env.scope.names.lookup x=some .local:=by first|exact .inl rfl|exact .inr rfl|assumption):wpAny M A (storeName X.env x u) Q E s:=by
  obtain⟨m,hn,hl⟩:=id I.loc;have hcls:(X.env.scope.kind == .class || (X.env.scope.kind == .module && X.env.locals != X.env.globals))=false:=by rw[I.ok.kind];rfl
  have hiσ:i<σ.length:=by rw[I.len];exact(List.getElem?_eq_some_iff.mp hi).1
  have cne:=I.cne;have tracked:∀ {a:Addr} {h':Heap},(∃ o,s.heap.get? a=some o/\H a=none)->Heap.SameBut a s.heap h'->HOk X.prog X.w H h':=λ {a h'} ha hs b ob e=>by
    obtain⟨_,_,hfree⟩:=ha;refine(I.hok b ob e).stay (λ c w' hc q=>(hs.2 c ?_).trans q) (λ _ q=>q) λ _ _ q=>q;rintro rfl;rcases hc with rfl|hc
    . rw[hfree]at e;cases e
    . rw[hfree]at hc;cases hc
  rcases hx with hk|hk
  . refine wpAny_storeName_local hk hn (λ h' hn' hs=>?_) hcls;obtain⟨oL,_,_,hoL,_⟩:=id hn;refine h _ ⟨I.ok,I.os,I.bare,⟨λ b o e n hb hx=>?_,λ b o e n hb hx=>?_,I.base.free,λ b o e hx=>?_,I.base.tups,I.base.frzs,I.base.tbls⟩,⟨_,hn',λ j y v' e1 e2 e3=>?_⟩,λ y c e=>?_,I.free,I.freeC,λ p hp=>?_,tracked ⟨oL,hoL,I.free⟩ hs,by simpa using I.len⟩ ⟨_,hs, .inl rfl⟩
    . exact(hs.2 b (ne_of_lt (lt_of_lt_of_le (Heap.lt_size e) I.ok.above))).trans (I.base.keep b o e n hb hx)
    . obtain⟨sl,e1⟩:=I.base.slot b o e n hb hx;exact⟨sl,(hs.2 b (ne_of_lt (lt_of_lt_of_le (Heap.lt_size e) I.ok.above))).trans e1⟩
    . obtain⟨o',e1⟩:=I.base.there b o e hx;exact⟨o',(hs.2 b (ne_of_lt (lt_of_lt_of_le (Heap.lt_size e) I.ok.above))).trans e1⟩
    . by_cases hj:j=i
      . subst hj;rw[hi]at e1;cases e1;rw[List.getElem?_set_self hiσ]at e2;cases e2;exact⟨u,r, .inl ⟨hk,by simp⟩⟩
      . rw[List.getElem?_set_ne (Ne.symm hj)]at e2;obtain⟨u',r',q⟩:=hl j y v' e1 e2 e3;refine⟨u',r',?_⟩;rcases q with ⟨k,e⟩|⟨k,c,e,z⟩
        . refine .inl ⟨k,?_⟩;have:y≠x:=λ e=>hj (ZeA hN e1 (e▸hi));simp[this,e]
        . exact .inr ⟨k,c,e,z.sameBut hs (cne y c e)⟩
    . obtain⟨w',z⟩:=I.cell y c e;exact⟨w',z.sameBut hs (cne y c e)⟩
    . obtain⟨e,n,ne,nf,d⟩:=I.pin p hp;exact⟨(hs.2 p.1 ne).trans e,n,ne,nf,d⟩
  . have hfn:X.fn x=true:=by
      rcases hf with z|z
      . exact z
      . rw[z]at hk;cases hk
    obtain⟨c,hc⟩:=I.ok.has x (.inl hk);obtain⟨w',z⟩:=I.cell x c hc;refine wpAny_storeName_cell I.ok.kind hk hc z (λ h' hc' hs=>?_);obtain⟨oc,hoc,hocd⟩:=id z;refine h { s with heap:=h' } ⟨I.ok,I.os,I.bare,⟨λ b o e n hb hx=>?_,λ b o e n hb hx=>?_,I.base.free,λ b o e hx=>?_,I.base.tups,I.base.frzs,I.base.tbls⟩,⟨m,hn.sameBut hs (Ne.symm (cne x c hc)),λ j y v' e1 e2 e3=>?_⟩,λ y c' e=>?_,I.free,I.freeC,λ p hp=>?_,tracked ⟨oc,hoc,I.freeC x c hc⟩ hs,by simpa using I.len⟩ ⟨c,hs, .inr hc⟩
    . exact(hs.2 b (ne_of_lt (lt_of_lt_of_le (Heap.lt_size e) (I.ok.cab x c hfn hc)))).trans (I.base.keep b o e n hb hx)
    . obtain⟨sl,e1⟩:=I.base.slot b o e n hb hx;exact⟨sl,(hs.2 b (ne_of_lt (lt_of_lt_of_le (Heap.lt_size e) (I.ok.cab x c hfn hc)))).trans e1⟩
    . obtain⟨o',e1⟩:=I.base.there b o e hx;exact⟨o',(hs.2 b (ne_of_lt (lt_of_lt_of_le (Heap.lt_size e) (I.ok.cab x c hfn hc)))).trans e1⟩
    . by_cases hj:j=i
      . subst hj;rw[hi]at e1;cases e1;rw[List.getElem?_set_self hiσ]at e2;cases e2;exact⟨u,r, .inr ⟨.inl hk,c,hc,hc'⟩⟩
      . rw[List.getElem?_set_ne (Ne.symm hj)]at e2;obtain⟨u',r',q⟩:=hl j y v' e1 e2 e3;refine⟨u',r',?_⟩;rcases q with q|⟨k,c',e,z'⟩
        . exact .inl q
        . refine .inr ⟨k,c',e,z'.sameBut hs ?_⟩;rintro rfl;exact hj (ZeA hN e1 (I.ok.inj _ _ _ e hc▸hi))
    . by_cases hcc:c'=c
      . subst hcc;exact⟨_,hc'⟩
      . obtain⟨w2,z2⟩:=I.cell y c' e;exact⟨w2,z2.sameBut hs hcc⟩
    . obtain⟨e,n,ne,nf,d⟩:=I.pin p hp;refine⟨(hs.2 p.1 ?_).trans e,n,ne,nf,d⟩;intro q;rw[q,hoc]at e;have q':oc=p.2:=Option.some.inj e;exact d w' (by rw[<- q'];exact hocd)
theorem Jk {M:Model}{A:Around}{E:Value->Shared->Prop}{i:Nat}{x:Str}{v:V}{u:Value}{Q:Unit->Shared->Prop}(I:Inv X pins σ H s)(hN:X.N.Nodup)(hi:X.N[i]? = some x)(hx:Loc X.env.scope x)(r:Zw v u)(h:∀ s',Inv X pins (σ.set i (some v)) H s'->Q () s')(hf:X.fn x=true\/X.env.scope.names.lookup x=some .local:=by first|exact .inl rfl|exact .inr rfl|assumption):wpAny M A (storeName X.env x u) Q E s:=
 Zc4 I hN hi hx r (λ s' I' _=>h s' I') hf
theorem Inv.call' {s':Shared}{ch:List Addr}(I:Inv X pins σ H s)(ho:s'.os=s.os)(u:Un (frs X.stack) ch H H' s.heap s'.heap)(hok:HOk X.prog X.w H' s'.heap)(hg:AllBare s'.gens)(hch:∀ b∈ch,(b∈X.ex\/X.s₀.heap.objs.size<=b)/\b≠X.env.locals/\(∀ x c,X.env.cells.lookup x=some c->c≠b)/\∀ p∈X.pn++pins,p.1≠b):Inv X pins σ H' s':=by
 obtain⟨h',g',d',t',o'⟩:=s';have e:o'=s.os:=ho;subst e;exact I.call (g':=g') (t':=t') (d':=d') u hok hg hch
end
noncomputable abbrev XK:=Value->Option Addr->Hp->Prop
noncomputable abbrev St:=List (Option V)
noncomputable abbrev VK:=V->Hp->Prop
noncomputable abbrev TE:=St->Hp->VK->Prop
noncomputable abbrev TT:=St->Hp->(Bool->Hp->Prop)->Prop
noncomputable abbrev TA:=St->Hp->(List V->Hp->Prop)->Prop
structure Ends where
  nx:St->Hp->Prop
  rt:VK
  bk:St->Hp->Prop:=λ _ _=>False
  ct:St->Hp->Prop:=λ _ _=>False
noncomputable abbrev TS:=Ends->St->Hp->Prop
noncomputable def EP (X:Cx)(pins:List (Addr×Obj))(σ:St)(Q:VK)(u:Value)(s':Shared):Prop:=∃ v H',Inv X pins σ H' s'/\Zw v u/\Q v H'
noncomputable def TP (X:Cx)(pins:List (Addr×Obj))(σ:St)(Q:Bool->Hp->Prop)(b:Bool)(s':Shared):Prop:=∃ H',Inv X pins σ H' s'/\Q b H'
noncomputable def AP (X:Cx)(pins:List (Addr×Obj))(σ:St)(Q:List V->Hp->Prop)(us:List Value)(s':Shared):Prop:=∃ vs H',Inv X pins σ H' s'/\ZF vs us/\Q vs H'
noncomputable def SP (X:Cx)(pins:List (Addr×Obj))(D:Ends)(f:Flow)(s':Shared):Prop:=
  match f with
  |.next=>∃ σ' H',Inv X pins σ' H' s'/\D.nx σ' H'
  |.brk=>∃ σ' H',Inv X pins σ' H' s'/\D.bk σ' H'
  |.cont=>∃ σ' H',Inv X pins σ' H' s'/\D.ct σ' H'
  |.ret u=>∃ v σ' H',Inv X pins σ' H' s'/\Zw v u/\D.rt v H'
noncomputable abbrev PEb (X:Cx)(e:Expr)(t:TE):Prop:=
  ∀(pins:List (Addr×Obj))(s:Shared)(σ:St)(H:Hp)(Q:VK),Inv X pins σ H s->t σ H Q->wpAny (model X.prog X.w) X.A (eval e X.env) (EP X pins σ Q) X.xe s
structure PE (X:Cx)(e:Expr)(t:TE):Prop where
  go:PEb X e t
instance {X:Cx}{e:Expr}{t:TE}:CoeFun (PE X e t) λ _=>PEb X e t:=⟨PE.go⟩
noncomputable abbrev PTb (X:Cx)(e:Expr)(t:TT):Prop:=
  ∀(pins:List (Addr×Obj))(s:Shared)(σ:St)(H:Hp)(Q:Bool->Hp->Prop),Inv X pins σ H s->t σ H Q->wpAny (model X.prog X.w) X.A (isTrue e X.env (eval e X.env)) (TP X pins σ Q) X.xe s
structure PT (X:Cx)(e:Expr)(t:TT):Prop where
  go:PTb X e t
instance {X:Cx}{e:Expr}{t:TT}:CoeFun (PT X e t) λ _=>PTb X e t:=⟨PT.go⟩
noncomputable abbrev PWb (X:Cx)(e:Expr)(t:TT):Prop:=
  ∀(whole:Sem Value)(pins:List (Addr×Obj))(s:Shared)(σ:St)(H:Hp)(Q:Bool->Hp->Prop),Inv X pins σ H s->t σ H Q->wpAny (model X.prog X.w) X.A (isTrue e X.env whole) (TP X pins σ Q) X.xe s
structure PW (X:Cx)(e:Expr)(t:TT):Prop where
  go:PWb X e t
instance {X:Cx}{e:Expr}{t:TT}:CoeFun (PW X e t) λ _=>PWb X e t:=⟨PW.go⟩
theorem PW.pt {X:Cx}{e:Expr}{t:TT}(h:PW X e t):PT X e t:=⟨h _⟩
noncomputable abbrev PAb (X:Cx)(es:List Expr)(t:TA):Prop:=
  ∀(pos:Pos)(pins:List (Addr×Obj))(s:Shared)(σ:St)(H:Hp)(Q:List V->Hp->Prop),Inv X pins σ H s->t σ H Q->wpAny (model X.prog X.w) X.A (spliced (backTo pos (starEach es X.env))) (AP X pins σ Q) X.xe s
structure PA (X:Cx)(es:List Expr)(t:TA):Prop where
  go:PAb X es t
instance {X:Cx}{es:List Expr}{t:TA}:CoeFun (PA X es t) λ _=>PAb X es t:=⟨PA.go⟩
noncomputable abbrev PSb (X:Cx)(st:Stmt)(t:TS):Prop:=
  ∀(pins:List (Addr×Obj))(s:Shared)(σ:St)(H:Hp)(D:Ends),Inv X pins σ H s->t D σ H->wpAny (model X.prog X.w) X.A (exec st X.env) (SP X pins D) X.xe s
structure PS (X:Cx)(st:Stmt)(t:TS):Prop where
  go:PSb X st t
instance {X:Cx}{st:Stmt}{t:TS}:CoeFun (PS X st t) λ _=>PSb X st t:=⟨PS.go⟩
noncomputable abbrev PSsb (X:Cx)(st:List Stmt)(t:TS):Prop:=
  ∀(pins:List (Addr×Obj))(s:Shared)(σ:St)(H:Hp)(D:Ends),Inv X pins σ H s->t D σ H->wpAny (model X.prog X.w) X.A (execs st X.env) (SP X pins D) X.xe s
structure PSs (X:Cx)(st:List Stmt)(t:TS):Prop where
  go:PSsb X st t
instance {X:Cx}{st:List Stmt}{t:TS}:CoeFun (PSs X st t) λ _=>PSsb X st t:=⟨PSs.go⟩
theorem thn {α:Type}{t:Sem α}{Q Q':α->Shared->Prop}{M:Model}{A:Around}{E:Value->Shared->Prop}{s:Shared}(h:wpAny M A t Q E s)(hQ:∀ a s,Q a s->Q' a s):wpAny M A t Q' E s:=wpAny_mono h hQ λ _ _ x=>x
open PySem PySem.Spec PyProof.Rows
section
variable {X:Cx}
noncomputable def tVar (i:Nat):TE:=λ σ H Q=>∃ v,σ[i]? = some (some v)/\Q v H
noncomputable def tC (v:V):TE:=λ _ H Q=>Q v H
theorem pe_var {i:Nat}{x:Str}{pos:Pos}(hN:X.N[i]? = some x)(hv:Vis X.env.scope x)(hd:(x == ("__debug__":Str))=false:=by decide)(hcd:(x == ("__classdict__":Str))=false:=by decide):PE X (.Name x pos) (tVar i):=by
  refine⟨?_⟩;intro pins s σ H Q I h;obtain⟨v,e,h⟩:=h;obtain⟨m,hn,hl⟩:=I.loc;obtain⟨u,r,l⟩:=hl i x v hN e hv;have fin:EP X pins σ Q u s:=⟨v,H,I,r,h⟩;rcases l with ⟨hk,hm⟩|⟨hk,c,hc,hcell⟩
  . exact wpAny_Name (wpAny_loadName_local I.ok.kind hk hn hm fin) hd
  . rcases hk with hk|hk
    . exact wpAny_Name (wpAny_loadName_cell I.ok.kind hk hc hcell fin) hd
    . exact wpAny_Name (wpAny_loadName_free I.ok.kind hk hc hcell fin hcd) hd
theorem Zf {i j pos}:PE X (.Constant (.int i) j pos) (tC (.int i)):=⟨λ _ _ _ H _ I h=>wpAny_Constant_int ⟨.int i,H,I.tok _,⟨_,rfl⟩,h⟩⟩
theorem Xd {b j pos}:PE X (.Constant (.bool b) j pos) (tC (.bl b)):=⟨λ _ _ _ H _ I h=>Constant_bool ⟨.bl b,H,I,rfl,h⟩⟩
theorem Zn {x j pos}:PE X (.Constant (.str x) j pos) (tC (.str x)):=⟨λ _ _ _ H _ I h=>Calls.Constant_str ⟨.str x,H,I.tok _,⟨_,rfl⟩,h⟩⟩
noncomputable def Gl (X:Cx)(x:Str):Prop:=X.env.kindOf x=some .globalImplicit
theorem X4 {E:Value->Shared->Prop}{pins:List (Addr×Obj)}{s:Shared}{σ:St}{H:Hp}{x:Str}{u:Value}{pos:Pos}{Q:Value->Shared->Prop}(I:Inv X pins σ H s)(hg:Gl X x)(hm:X.mg x=some u)(h:Q u s)(hd:(x == ("__debug__":Str))=false:=by decide):wpAny (model X.prog X.w) X.A (eval (.Name x pos) X.env) Q E s:=
 Calls.Name_function_global I.ok.kind hg (Calls.loadGlobal_global (by rw[I.ok.glob];exact I.mod.glob.keeps I.bk) hm h) hd
theorem ZcL {E:Value->Shared->Prop}{pins:List (Addr×Obj)}{s:Shared}{σ:St}{H:Hp}{x:Str}{u:Value}{pos:Pos}{Q:Value->Shared->Prop}(I:Inv X pins σ H s)(hg:Gl X x)(hm:X.mg x=none)(hv:bootBuiltins x=some u)(h:Q u s)(hn:x≠"__name__":=by decide)(hd:(x == ("__debug__":Str))=false:=by decide):wpAny (model X.prog X.w) X.A (eval (.Name x pos) X.env) Q E s:=by
 obtain⟨mb,h1,h2⟩:=I.mod.blt;exact Calls.Name_function_global I.ok.kind hg (Calls.loadGlobal_builtin (by rw[I.ok.glob];exact I.mod.glob.keeps I.bk) hm (by rw[I.ok.blt];exact h1.keeps I.bk) ((h2 x hn).trans hv) h) hd
theorem YI {x:Str}{v:V}{u:Value}{pos:Pos}(hg:Gl X x)(hm:X.mg x=some u)(r:Zw v u)(hd:(x == ("__debug__":Str))=false:=by decide):PE X (.Name x pos) (tC v):=
 ⟨λ _ _ _ H _ I h=>X4 I hg hm ⟨v,H,I,r,h⟩ hd⟩
theorem J4 {x:Str}{v:V}{u:Value}{pos:Pos}(hg:Gl X x)(hm:X.mg x=none)(hv:bootBuiltins x=some u)(r:Zw v u)(hn:x≠"__name__":=by decide)(hd:(x == ("__debug__":Str))=false:=by decide):PE X (.Name x pos) (tC v):=
 ⟨λ _ _ _ H _ I h=>ZcL I hg hm hv ⟨v,H,I,r,h⟩ hn hd⟩
variable {a b:Expr}{ta tb:TE}{pos:Pos}
noncomputable abbrev PCb (X:Cx)(op:CmpOp)(a b:Expr)(t:TE):Prop:=
  ∀(pins:List (Addr×Obj))(s:Shared)(σ:St)(H:Hp)(Q:VK),Inv X pins σ H s->t σ H Q ->
    wpAny (model X.prog X.w) X.A (eval a X.env) (λ v s₁=>wpAny (model X.prog X.w) X.A (eval b X.env) (λ u s₂=>wpAny (model X.prog X.w) X.A (compareOp op v u) (EP X pins σ Q) X.xe s₂) X.xe s₁) X.xe s
structure PC (X:Cx)(op:CmpOp)(a b:Expr)(t:TE):Prop where
  go:PCb X op a b t
instance {X:Cx}{op:CmpOp}{a b:Expr}{t:TE}:CoeFun (PC X op a b t) λ _=>PCb X op a b t:=⟨PC.go⟩
noncomputable def tB (t:TE):TT:=λ σ H Q=>t σ H λ x H1=>∃ c,x = .bl c/\Q c H1
theorem Zfa {op:CmpOp}{t:TE}(h:PC X op a b t)(h1:behindInMarks op b=false:=by first|exact nobehind _ (by decide) (by decide)|rfl):PE X (.Compare a [op] [b] pos) t:=⟨λ pins s σ H Q I hw=>wpAny_Compare1 (h pins s σ H Q I hw) h1⟩
theorem X1 {op:CmpOp}{t:TE}(h:PC X op a b t)(h1:behindInMarks op b=false:=by first|exact nobehind _ (by decide) (by decide)|rfl):PT X (.Compare a [op] [b] pos) (tB t):=by
 refine⟨?_⟩;intro pins s σ H Q I hw;refine wpAny_isTrue_Compare1 (thn (h pins s σ H _ I hw) λ v s1 h1=>thn h1 λ u s2 h2=>thn h2 λ c s3 zz9=>?_) h1;obtain⟨x,H1,I1,r1,q1⟩:=zz9;obtain⟨d,rfl,q⟩:=q1;cases r1;exact wpAny_truthy_bool ⟨H1,I1,q⟩
theorem Yl {e:Expr}{t:TE}(h:PE X e t)(he:∀ whole,isTrue e X.env whole=(do let v <- whole;standAt e.pos;holding [v] (truthy v)):=by intro _;rfl):PT X e (tB t):=by
 refine⟨?_⟩;intro pins s σ H Q I hw;refine isTrue_plain (thn (h pins s σ H _ I hw) λ v s1 ⟨x,H1,I1,r1,q1⟩=>?_) (he _);obtain⟨d,rfl,q⟩:=q1;cases r1;exact wpAny_truthy_bool ⟨H1,I1,q⟩
variable {tA tB':TT}{Zbd:List Expr}
noncomputable def tAnd (t u:TT):TT:=λ σ H Q=>t σ H λ c H1=>if c=true then u σ H1 Q else Q false H1
noncomputable def tOr (t u:TT):TT:=λ σ H Q=>t σ H λ c H1=>if c=true then Q true H1 else u σ H1 Q
noncomputable def tNot (t:TT):TT:=λ σ H Q=>t σ H λ c H1=>Q (!c) H1
theorem ZbX (ha:PT X a tA):PW X (.BoolOp .And [a] pos) tA:=by
  refine⟨?_⟩;intro wh pins s σ H Q I h;refine isTrue_and (thn (ha pins s σ H Q I h) λ c s1 e=>?_);cases c with
  |true=>exact isTrue_and_nil e
  |false=>exact e
theorem YU (ha:PT X a tA):PW X (.BoolOp .Or [a] pos) tA:=by
  refine⟨?_⟩;intro wh pins s σ H Q I h;refine isTrue_or (thn (ha pins s σ H Q I h) λ c s1 e=>?_);cases c with
  |false=>exact isTrue_or_nil e
  |true=>exact e
theorem Zct (ha:PT X a tA)(hb:PW X (.BoolOp .And (b::Zbd) pos) tB'):PW X (.BoolOp .And (a::b::Zbd) pos) (tAnd tA tB'):=by
  refine⟨?_⟩;intro wh pins s σ H Q I h;refine isTrue_and (thn (ha pins s σ H _ I h) λ c s1 zz9=>?_);obtain⟨H1,I1,q1⟩:=zz9;cases c with
  |true=>exact hb wh pins s1 σ H1 Q I1 q1
  |false=>exact⟨H1,I1,q1⟩
theorem XS (ha:PT X a tA)(hb:PW X (.BoolOp .Or (b::Zbd) pos) tB'):PW X (.BoolOp .Or (a::b::Zbd) pos) (tOr tA tB'):=by
  refine⟨?_⟩;intro wh pins s σ H Q I h;refine isTrue_or (thn (ha pins s σ H _ I h) λ c s1 zz9=>?_);obtain⟨H1,I1,q1⟩:=zz9;cases c with
  |true=>exact⟨H1,I1,q1⟩
  |false=>exact hb wh pins s1 σ H1 Q I1 q1
theorem YC (ha:PT X a tA):PT X (.UnaryOp .Not a pos) (tNot tA):=by
 refine⟨?_⟩;intro pins s σ H Q I h;exact isTrue_not (ha pins s σ H (λ c H1=>Q (!c) H1) I h)
noncomputable def tAndV (ta tb:TE):TE:=λ σ H Q=>ta σ H λ x H1=>∃ c,x = .bl c/\if c=true then tb σ H1 Q else Q (.bl false) H1
noncomputable def tNotV (ta:TE):TE:=λ σ H Q=>ta σ H λ x H1=>∃ c,x = .bl c/\Q (.bl (!c)) H1
theorem Zcu {op}{t:TE}(h:PE X a t):PE X (.BoolOp op [a] pos) t:=⟨λ pins s σ H Q I hw=>BoolOp_one (h pins s σ H Q I hw)⟩
theorem ZaB (ha:PE X a ta)(hb:PE X (.BoolOp .And (b::Zbd) pos) tb):PE X (.BoolOp .And (a::b::Zbd) pos) (tAndV ta tb):=by
  refine⟨?_⟩;intro pins s σ H Q I h;refine BoolOp_and (thn (ha pins s σ H _ I h) λ v s1 zz9=>?_);obtain⟨x,H1,I1,r1,q1⟩:=zz9;obtain⟨c,rfl,q1⟩:=q1;cases r1;refine wpAny_truthy_bool ?_;cases c with
  |true=>exact hb pins s1 σ H1 Q I1 q1
  |false=>exact⟨.bl false,H1,I1,rfl,q1⟩
theorem pe_not (ha:PE X a ta):PE X (.UnaryOp .Not a pos) (tNotV ta):=by
 refine⟨?_⟩;intro pins s σ H Q I h;refine UnaryOp_ (thn (ha pins s σ H _ I h) λ v s1 zz9=>?_);obtain⟨x,H1,I1,r1,q1⟩:=zz9;obtain⟨c,rfl,q1⟩:=q1;cases r1;exact not_of (wpAny_truthy_bool ⟨.bl (!c),H1,I1,rfl,q1⟩)
noncomputable def tIf (t:TT)(ta tb:TE):TE:=λ σ H Q=>t σ H λ c H1=>if c=true then ta σ H1 Q else tb σ H1 Q
theorem Zhf {c:Expr}(hc:PT X c tA)(ha:PE X a ta)(hb:PE X b tb):PE X (.IfExp c a b pos) (tIf tA ta tb):=by
  refine⟨?_⟩;intro pins s σ H Q I h;refine wpAny_IfExp (thn (hc pins s σ H _ I h) λ d s1 zz9=>?_);obtain⟨H1,I1,q1⟩:=zz9;cases d with
  |true=>exact ha pins s1 σ H1 Q I1 q1
  |false=>exact hb pins s1 σ H1 Q I1 q1
end
open PySem PySem.Spec PyProof.Rows
noncomputable def SqL (K:Frag)(H:Hp)(a:Addr)(xs:List V):Prop:=
  Rd H a (.lst xs) \/
    ∃(o:Obj)(its:Array Value)(n:Nat),K.lookup a=some o/\o.cls = .type "list"/\o.dict=none/\o.data = .seq its n/\its.size<=sizeLine/\ZF xs its.toList
noncomputable def SqT (K:Frag)(H:Hp)(a:Addr)(xs:List V):Prop:=
  Rd H a (.tup xs) \/
    ∃(o:Obj)(its:Array Value)(n:Nat),K.lookup a=some o/\o.cls = .type "tuple"/\o.data = .seq its n/\its.size<=sizeLine/\ZF xs its.toList
noncomputable def absV:Value->Option V
  |.none=>some .non
  |.bool b=>some (.bl b)
  |.int i _=>some (.int i)
  |.str x _=>some (.str x)
  |.bytes b _=>some (.byt b)
  |.float b _=>some (.flt b)
  |.ref a=>some (.ref a)
  |.type n=>some (.ty n)
  |_=>none
theorem Zw.abs {x:V}{u:Value}(r:Zw x u):absV u=some x:=by
  cases x with
  |non=>cases r;rfl
  |bl _=>cases r;rfl
  |int _=>obtain⟨t,rfl⟩:=r;rfl
  |str _=>obtain⟨t,rfl⟩:=r;rfl
  |byt _=>obtain⟨t,rfl⟩:=r;rfl
  |flt _=>obtain⟨t,rfl⟩:=r;rfl
  |ref _=>cases r;rfl
  |ty _=>cases r;rfl
theorem Zw.inj {x y:V}{u:Value}(r:Zw x u)(q:Zw y u):x=y:=Option.some.inj (r.abs.symm.trans q.abs)
theorem ZF.inj:∀ {xs ys:List V} {us:List Value},ZF xs us->ZF ys us->xs=ys
  |_,_,_, .nil, .nil=>rfl
  |_,_,_, .cons r t, .cons r' t'=>by rw[r.inj r',ZF.inj t t']
section
variable {X:Cx}{pins:List (Addr×Obj)}{σ:St}{H:Hp}{s:Shared}{a:Addr}{xs ys:List V}
theorem SqL.of {K:Frag}(h:H a=some (.lst xs)):SqL K H a xs:=.inl (.inl h)
theorem SqT.of {K:Frag}(h:H a=some (.tup xs)):SqT K H a xs:=.inl (.inl h)
theorem Inv.list (I:Inv X pins σ H s)(h:SqL X.K H a xs):∃ its:List Value,ZF xs its/\PlainL s.heap a its.toArray/\xs.length<=sizeLine:=by
  rcases h with h|⟨o,its,n,hk,hc,hd,hs,hz,r⟩
  . obtain⟨z,its,n,r,e⟩:=h.ok I.hok;exact⟨its,r,⟨_,n,e,rfl,rfl,rfl⟩,z⟩
  . refine⟨its.toList,r,⟨o,n,I.kIn a o hk,hc,hd,by simpa using hs⟩,?_⟩;have e:=r.length;simp only[length_toList]at e;omega
theorem Inv.tuple (I:Inv X pins σ H s)(h:SqT X.K H a xs):∃ its:List Value,ZF xs its/\IsTup s.heap a its.toArray/\xs.length<=sizeLine:=by
  rcases h with h|⟨o,its,n,hk,hc,hs,hz,r⟩
  . obtain⟨z,its,r,p⟩:=h.ok I.hok;exact⟨its,r,p,z⟩
  . refine⟨its.toList,r,⟨o,I.kIn a o hk,hc,n,by simpa using hs⟩,?_⟩;have e:=r.length;simp only[length_toList]at e;omega
theorem Inv.list_inj (I:Inv X pins σ H s)(h:SqL X.K H a xs)(h':SqL X.K H a ys):xs=ys:=by
 obtain⟨its,r,⟨o,n,e,_,_,d⟩,_⟩:=I.list h;obtain⟨its',r',⟨o',n',e',_,_,d'⟩,_⟩:=I.list h';rw[e]at e';cases e';rw[d]at d';injection d' with d1 _;have:its=its':=by simpa using congrArg Array.toList d1
 subst this;exact r.inj r'
end
noncomputable abbrev Cx.wish (X:Cx)(E:Value->Shared->Prop):Cx:={ X with xe:=E }
noncomputable abbrev Cx.nox (X:Cx):Cx:=X.wish λ _ _=>False
theorem Cx.Ok.wish {X:Cx}(ok:X.Ok)(E:Value->Shared->Prop):(X.wish E).Ok:=
 ⟨ok.mod,ok.kind,ok.glob,ok.blt,ok.above,ok.inj,ok.has,ok.cab,ok.hd,ok.frames,ok.stk,ok.exf,ok.bs,ok.bsz,ok.noex,ok.exfs,ok.funs,ok.frf⟩
theorem Cx.Ok.unwish {X:Cx}{E:Value->Shared->Prop}(ok:(X.wish E).Ok):X.Ok:=
 ⟨ok.mod,ok.kind,ok.glob,ok.blt,ok.above,ok.inj,ok.has,ok.cab,ok.hd,ok.frames,ok.stk,ok.exf,ok.bs,ok.bsz,ok.noex,ok.exfs,ok.funs,ok.frf⟩
section
variable {X:Cx}{pins:List (Addr×Obj)}{σ:St}{H:Hp}{s:Shared}{E:Value->Shared->Prop}
theorem Inv.wish (I:Inv X pins σ H s)(E:Value->Shared->Prop):Inv (X.wish E) pins σ H s:=⟨I.ok.wish E,I.os,I.bare,I.base,I.loc,I.cell,I.free,I.freeC,I.pin,I.hok,I.len⟩
theorem Inv.unwish (I:Inv (X.wish E) pins σ H s):Inv X pins σ H s:=⟨I.ok.unwish,I.os,I.bare,I.base,I.loc,I.cell,I.free,I.freeC,I.pin,I.hok,I.len⟩
theorem SP.unwish {D:Ends}{f:Flow}{s':Shared}(h:SP (X.wish E) pins D f s'):SP X pins D f s':=by
  cases f with
  |next=>obtain⟨σ',H',I,q⟩:=h;exact⟨σ',H',I.unwish,q⟩
  |brk=>obtain⟨σ',H',I,q⟩:=h;exact⟨σ',H',I.unwish,q⟩
  |cont=>obtain⟨σ',H',I,q⟩:=h;exact⟨σ',H',I.unwish,q⟩
  |ret u=>obtain⟨v,σ',H',I,r,q⟩:=h;exact⟨v,σ',H',I.unwish,r,q⟩
theorem PSs.nox {st:List Stmt}{t:TS}(h:PSs X.nox st t):PSs X st t:=⟨λ pins s σ H D I hw=>
 wpAny_mono (h pins s σ H D (I.wish _) hw) (λ _ _ q=>q.unwish) λ _ _ z=>False.elim z⟩
end
section
variable {X:Cx}{st:Stmt}{Zbd:List Stmt}{t u:TS}{e:Expr}{te:TE}{pos:Pos}
noncomputable def Zfv:TS:=λ D σ H=>D.nx σ H
noncomputable def tSeq (t u:TS):TS:=λ D σ H=>t { D with nx:=u D } σ H
theorem Zp:PSs X [] Zfv:=⟨λ _ _ σ H _ I h=>wpAny_execs_nil ⟨σ,H,I,h⟩⟩
theorem Ze (h1:PS X st t)(h2:PSs X Zbd u):PSs X (st::Zbd) (tSeq t u):=by
  refine⟨?_⟩;intro pins s σ H D I h;refine wpAny_execs_cons (thn (h1 pins s σ H { D with nx:=u D } I h) λ f s1 q=>?_);cases f with
  |next=>
    obtain⟨σ',H',I',q⟩:=q;exact h2 pins s1 σ' H' D I' q
  |ret v=>exact q
  |brk=>exact q
  |cont=>exact q
theorem Zg (h1:PS X st t):PSs X [st] t:=by
  refine⟨?_⟩;intro pins s σ H D I h;refine wpAny_execs_cons (thn (h1 pins s σ H D I h) λ f s1 q=>?_);cases f with
  |next=>exact wpAny_execs_nil q
  |ret v=>exact q
  |brk=>exact q
  |cont=>exact q
theorem Inv.quiet {pins:List (Addr×Obj)}{σ:St}{H:Hp}{s:Shared}(I:Inv X pins σ H s):interactive X.env=false:=by simp[interactive,I.ok.kind]
noncomputable def tDrop (te:TE):TS:=λ D σ H=>te σ H λ _ H1=>D.nx σ H1
theorem ZE (he:PE X e te)(hs:swapsWith e none pos.line X.env=pure false:=by rfl):PS X (.Expr e pos) (tDrop te):=by
 refine⟨?_⟩;intro pins s σ H D I h;exact wpAny_Expr_any (thn (he pins s σ H _ I h) λ v s1 ⟨x,H1,I1,r1,q1⟩=>⟨σ,H1,I1,q1⟩) I.quiet hs
noncomputable def tRet (te:TE):TS:=λ D σ H=>te σ H D.rt
theorem Zj (he:PE X e te):PS X (.Return (some e) pos) (tRet te):=by
 refine⟨?_⟩;intro pins s σ H D I h;exact wpAny_Return_some (thn (he pins s σ H _ I h) λ v s1 ⟨x,H1,I1,r1,q1⟩=>⟨x,σ,H1,I1,r1,q1⟩)
noncomputable def tIfS (c:TT)(t u:TS):TS:=λ D σ H=>c σ H λ b H1=>if b=true then t D σ H1 else u D σ H1
theorem ZB {c:Expr}{a b:List Stmt}{tc:TT}(hc:PT X c tc)(ha:PSs X a t)(hb:PSs X b u):PS X (.If c a b pos) (tIfS tc t u):=by
  refine⟨?_⟩;intro pins s σ H D I h;refine wpAny_If (thn (hc pins s σ H _ I h) λ d s1 zz9=>?_);obtain⟨H1,I1,q1⟩:=zz9;cases d with
  |true=>exact ha pins s1 σ H1 D I1 q1
  |false=>exact hb pins s1 σ H1 D I1 q1
end
noncomputable abbrev TG:=V->St->Hp->(St->Hp->Prop)->Prop
noncomputable abbrev TGs:=List V->St->Hp->(St->Hp->Prop)->Prop
noncomputable abbrev PGb (X:Cx)(target:Expr)(t:TG):Prop:=
  ∀(pins:List (Addr×Obj))(s:Shared)(σ:St)(H:Hp)(v:V)(u:Value)(Q:St->Hp->Prop),Inv X pins σ H s->Zw v u->t v σ H Q ->
    wpAny (model X.prog X.w) X.A (assign target X.env u) (λ _ s'=>∃ σ' H',Inv X pins σ' H' s'/\Q σ' H') X.xe s
structure PG (X:Cx)(target:Expr)(t:TG):Prop where
  go:PGb X target t
instance {X:Cx}{target:Expr}{t:TG}:CoeFun (PG X target t) λ _=>PGb X target t:=⟨PG.go⟩
noncomputable abbrev PGsb (X:Cx)(ts:List Expr)(t:TGs):Prop:=
  ∀(pins:List (Addr×Obj))(s:Shared)(σ:St)(H:Hp)(vs:List V)(us:List Value)(Q:St->Hp->Prop),Inv X pins σ H s->ZF vs us->t vs σ H Q ->
    wpAny (model X.prog X.w) X.A (assignInOrder ((assignEach ts X.env).map (·.2)) us) (λ _ s'=>∃ σ' H',Inv X pins σ' H' s'/\Q σ' H') X.xe s
structure PGs (X:Cx)(ts:List Expr)(t:TGs):Prop where
  go:PGsb X ts t
instance {X:Cx}{ts:List Expr}{t:TGs}:CoeFun (PGs X ts t) λ _=>PGsb X ts t:=⟨PGs.go⟩
noncomputable abbrev TSet:=V->V->V->Hp->(Hp->Prop)->Prop
noncomputable abbrev PSetb (X:Cx)(t:TSet):Prop:=
  ∀(pins:List (Addr×Obj))(s:Shared)(σ:St)(H:Hp)(o i v:V)(ov iv u:Value)(Q:Hp->Prop),Inv X pins σ H s->Zw o ov->Zw i iv->Zw v u->t o i v H Q ->
    wpAny (model X.prog X.w) X.A (setItem ov iv u) (λ _ s'=>∃ H',Inv X pins σ H' s'/\Q H') X.xe s
structure PSet (X:Cx)(t:TSet):Prop where
  go:PSetb X t
instance {X:Cx}{t:TSet}:CoeFun (PSet X t) λ _=>PSetb X t:=⟨PSet.go⟩
noncomputable abbrev TIp:=V->V->Hp->VK->Prop
noncomputable abbrev PIpb (X:Cx)(op:Operator)(t:TIp):Prop:=
  ∀(pins:List (Addr×Obj))(s:Shared)(σ:St)(H:Hp)(x y:V)(v u:Value)(Q:VK),Inv X pins σ H s->Zw x v->Zw y u->t x y H Q ->
    wpAny (model X.prog X.w) X.A (inplaceOp op v u) (EP X pins σ Q) X.xe s
structure PIp (X:Cx)(op:Operator)(t:TIp):Prop where
  go:PIpb X op t
instance {X:Cx}{op:Operator}{t:TIp}:CoeFun (PIp X op t) λ _=>PIpb X op t:=⟨PIp.go⟩
section
variable {X:Cx}{pos:Pos}
noncomputable def ZfV (i:Nat):TG:=λ v σ H Q=>Q (σ.set i (some v)) H
theorem ZD {i:Nat}{x:Str}(hN:X.N.Nodup)(hi:X.N[i]? = some x)(hx:Loc X.env.scope x)(hf:X.fn x=true\/X.env.scope.names.lookup x=some .local:=by first|exact .inl rfl|exact .inr rfl|assumption):PG X (.Name x pos) (ZfV i):=by
 refine⟨?_⟩;intro pins s σ H v u Q I r h;exact wpAny_assign_Name (Jk I hN hi hx r (λ s' I'=>⟨_,H,I',h⟩) hf)
noncomputable def gNil:TGs:=λ vs σ H Q=>vs=[]/\Q σ H
noncomputable def gCons (t:TG)(u:TGs):TGs:=λ vs σ H Q=>∃ v r,vs=v::r/\t v σ H λ σ' H'=>u r σ' H' Q
theorem ZaZ:PGs X [] gNil:=by
 refine⟨?_⟩;intro pins s σ H vs us Q I r h;obtain⟨e,h⟩:=h;subst e;cases r;exact assignInOrder_nil ⟨σ,H,I,h⟩
theorem ZV {e:Expr}{es:List Expr}{t:TG}{u:TGs}(h1:PG X e t)(h2:PGs X es u)(hs:(assignEach (e::es) X.env).map (·.2)=assign e X.env::(assignEach es X.env).map (·.2):=by rfl):PGs X (e::es) (gCons t u):=by
  refine⟨?_⟩;intro pins s σ H vs us Q I r h;obtain⟨v,vr,e1,h⟩:=h;subst e1;cases r with
  |cons r rr=>
    rw[hs];refine assignInOrder_cons (thn (h1 pins s σ H _ _ _ I r h) λ _ s1 zz9=>?_);obtain⟨σ1,H1,I1,q1⟩:=zz9;exact h2 pins s1 σ1 H1 _ _ Q I1 rr q1
noncomputable def gTup (K:Frag)(n:Nat)(t:TGs):TG:=λ v σ H Q=>∃ a xs,v = .ref a/\SqT K H a xs/\xs.length=n/\t xs σ H Q
theorem ZdK {es:List Expr}{k:Nat}{t:TGs}{n:Nat}(hc:X.calm=true)(h:PGs X es t)(hn:(assignEach es X.env).length=n:=by rfl)(hst:(assignEach es X.env).findIdx? (·.1)=none:=by rfl):PG X (.Tuple es k pos) (gTup X.K n t):=by
 refine⟨?_⟩;intro pins s σ H v u Q I r hw;obtain⟨a,xs,e1,hq,hl,hw⟩:=hw;subst e1;cases r;obtain⟨its,rv,ht,hz⟩:=I.tuple hq;refine assign_Tuple_tuple (I.ok.hd hc) ht (by simp[hn,<- hl,rv.length]) hst λ h' hx=>?_;have I1:Inv X pins σ H { s with heap:=h' }:=I.kept (t':=s.toks) λ b o e=>hx b o (ne_of_lt (Heap.lt_size e)) e;exact h pins _ σ H xs _ Q I1 (by simpa using rv) hw
noncomputable def gSub (to ti:TE)(t:TSet):TG:=λ v σ H Q=>to σ H λ o H1=>ti σ H1 λ i H2=>t o i v H2 λ H3=>Q σ H3
theorem pg_sub {o i:Expr}{to ti:TE}{t:TSet}(ho:PE X o to)(hi:PE X i ti)(hs:PSet X t)(ha:∀ v,assign (.Subscript o i pos) X.env v=(do
      let ov <- holding [v] (eval o X.env)
      let iv <- holding [v,ov] (eval i X.env)
      standAt pos
      holding [v,ov,iv] (setItem ov iv v)
      release [v,ov,iv] []):=by intro _;rfl):PG X (.Subscript o i pos) (gSub to ti t):=by
  refine⟨?_⟩;intro pins s σ H v u Q I r h;rw[ha];refine wpAny_bind (wpAny_holding (thn (ho pins s σ H _ I h) λ ov s1 zz9=>?_));obtain⟨x,H1,I1,r1,q1⟩:=zz9;refine wpAny_bind (wpAny_holding (thn (hi pins s1 σ H1 _ I1 q1) λ iv s2 zz9=>?_));obtain⟨y,H2,I2,r2,q2⟩:=zz9;refine wpAny_bind (wpAny_standAt (wpAny_bind (wpAny_holding (thn (hs pins s2 σ H2 x y v ov iv u _ I2 r1 r2 r q2) λ _ s3 zz9=>?_))));obtain⟨H3,I3,q3⟩:=zz9;exact wpAny_release ⟨σ,H3,I3,q3⟩
noncomputable def ZeZ (te:TE)(g:TG):TS:=λ D σ H=>te σ H λ x H1=>g x σ H1 D.nx
theorem Ze8 {tg e:Expr}{te:TE}{g:TG}(he:PE X e te)(hg:PG X tg g)(hs:swapsWithSole [tg] e pos.line X.env=pure false:=by rfl)(hw:swappedStores [tg] e X.env=pure none:=by rfl)(h1:(assignEach [tg] X.env).map (·.2)=[assign tg X.env]:=by rfl):PS X (.Assign [tg] e pos) (ZeZ te g):=by
 refine⟨?_⟩;intro pins s σ H D I h;refine wpAny_Assign_stores (thn (he pins s σ H _ I h) λ v s1 zz9=>?_) hs hw;obtain⟨x,H1,I1,r1,q1⟩:=zz9;rw[h1];exact thn (hg pins s1 σ H1 x v _ I1 r1 q1) λ _ s2 q=>q
theorem Zu {i:Nat}{x:Str}{e:Expr}{te:TE}{pos':Pos}(hN:X.N.Nodup)(hi:X.N[i]? = some x)(hx:Loc X.env.scope x)(he:PE X e te)(hs:swapsWith e (some (.Name x pos')) pos.line X.env=pure false:=by rfl)(hf:X.fn x=true\/X.env.scope.names.lookup x=some .local:=by first|exact .inl rfl|exact .inr rfl|assumption) :
    PS X (.Assign [.Name x pos'] e pos) (ZeZ te (ZfV i)):=by
  refine⟨?_⟩;intro pins s σ H D I h;refine wpAny_Assign_Name (thn (he pins s σ H _ I h) λ v s1 zz9=>?_) hs;obtain⟨y,H1,I1,r1,q1⟩:=zz9;exact Jk I1 hN hi hx r1 (λ s2 I2=>⟨_,H1,I2,q1⟩) hf
noncomputable def tPar (i j:Nat)(ta:TA):TS:=λ D σ H=>ta σ H λ vs H1=>∃ v w,vs=[v,w]/\D.nx ((σ.set i (some v)).set j (some w)) H1
theorem Zhd {i j:Nat}{x y:Str}{a b:Expr}{ta:TA}{px py pt:Pos}{kt k2 pt2}(hc:X.calm=true)(hN:X.N.Nodup)(hi:X.N[i]? = some x)(hj:X.N[j]? = some y)(hij:i≠j)(hx:X.env.scope.names.lookup x=some .local)(hy:X.env.scope.names.lookup y=some .local)(ha:PA X [a,b] ta)(hw:swappedStores [.Tuple [.Name x px, .Name y py] kt pt] (.Tuple [a,b] k2 pt2) X.env=pure (some [x,y]))(hs:swapsWithSole [.Tuple [.Name x px, .Name y py] kt pt] (.Tuple [a,b] k2 pt2) pos.line X.env=pure false:=by rfl) :
    PS X (.Assign [.Tuple [.Name x px, .Name y py] kt pt] (.Tuple [a,b] k2 pt2) pos) (tPar i j ta):=by
  refine⟨?_⟩;intro pins s σ H D I h;rw[exec_Assign_arm];refine wpAny_bind (wpAny_standAt ?_);rw[hs];refine wpAny_bind (wpAny_pure ?_);rw[if_neg (by decide)];refine wpAny_bind (Tuple_ (thn (ha _ pins s σ H _ I h) λ us s1 zz9=>?_));obtain⟨vs,H1,I1,r1,q1⟩:=zz9;obtain⟨v,w,e1,q1⟩:=q1;subst e1;obtain⟨u1,u2,rfl,rv,rw'⟩:∃ u1 u2,us=[u1,u2]/\Zw v u1/\Zw w u2:=by
    cases r1 with
    |cons p q=>
      cases q with
      |cons p' q'=>
        cases q';exact⟨_,_,rfl,p,p'⟩
  refine wpAny_newObj_type ?_ (by show 2<=sizeLine;decide);have I2:Inv X pins σ H1 { s1 with heap:=s1.heap.push { cls:=.type "tuple",data:=.seq [u1,u2].toArray } }:=I1.kept (t':=s1.toks) λ b o e=>Heap.get?_push_of_some _ e;rw[hw];refine wpAny_bind (wpAny_pure ?_);show wpAny (model X.prog X.w) X.A (do rule "assign.swapped-stores";let items <- unpackItems (.ref s1.heap.objs.size) 2 none;assignInOrder [λ v=>bindName X.env y v,λ v=>bindName X.env x v] items.reverse;pure Flow.next) _ _ _;refine wpAny_bind (wpAny_rule (wpAny_bind (unpackItems_tuple (items := #[u1,u2]) (I.ok.hd hc) (IsTup.new s1.heap _) λ h' hx'=>?_)));have I3:=I2.kept (h':=h') (t':=s1.toks) λ b o e=>hx' b o (ne_of_lt (Heap.lt_size e)) e;show wpAny _ _ (assignInOrder [λ v=>bindName X.env y v,λ v=>bindName X.env x v] [u2,u1] >>= λ _=>pure Flow.next) _ _ _;refine wpAny_bind (assignInOrder_cons (wpAny_bindName (Jk I3 hN hj (.inl hy) rw' (λ s2 I4=>?_) (.inr hy))));refine assignInOrder_cons (wpAny_bindName (Jk I4 hN hi (.inl hx) rv (λ s3 I5=>assignInOrder_nil (wpAny_pure ?_)) (.inr hx)));rw[List.set_comm _ _ (Ne.symm hij)]at I5;exact⟨_,H1,I5,q1⟩
noncomputable abbrev PGetb (X:Cx)(t:V->V->Hp->VK->Prop):Prop:=
  ∀(pins:List (Addr×Obj))(s:Shared)(σ:St)(H:Hp)(o i:V)(ov iv:Value)(Q:VK),Inv X pins σ H s->Zw o ov->Zw i iv->t o i H Q ->
    wpAny (model X.prog X.w) X.A (getItem ov iv) (EP X pins σ Q) X.xe s
structure PGet (X:Cx)(t:V->V->Hp->VK->Prop):Prop where
  go:PGetb X t
instance {X:Cx}{t:V->V->Hp->VK->Prop}:CoeFun (PGet X t) λ _=>PGetb X t:=⟨PGet.go⟩
end
section
variable {X:Cx}{pos:Pos}
noncomputable def ZgR (c:TT)(tb:TS):TS:=λ D σ H=>∃ W:Nat->St->Hp->Prop,(∃ m,W m σ H)/\∀ m σ H,W m σ H ->
 c σ H λ b H1=>if b=true then ∃ N:St->Hp->Prop,(∀ σ' H',N σ' H'->∃ m',m'<m/\W m' σ' H')/\tb { D with nx:=N,ct:=N,bk:=D.nx } σ H1 else D.nx σ H1
theorem JK {c:Expr}{body:List Stmt}{tc:TT}{tb:TS}(hp:PassesOwn (model X.prog X.w) X.A X.env X.xe)(hc:PT X c tc)(hb:PSs X body tb):PS X (.While c body [] pos) (ZgR tc tb):=by
  refine⟨?_⟩;intro pins s σ H D I h;obtain⟨W,⟨m0,w0⟩,turn⟩:=h;refine wpAny_While (codeAny_whileLoop (λ n s'=>∃ σ' H',Inv X pins σ' H' s'/\W n σ' H') ?_ m0 ⟨σ,H,I,w0⟩);rintro n s1 ⟨σ1,H1,I1,w1⟩;refine wpAny_passesOwn hp (thn (hc pins s1 σ1 H1 _ I1 (turn n σ1 H1 w1)) λ b s2 zz9=>?_);obtain⟨H2,I2,q2⟩:=zz9;cases b with
  |true=>
    obtain⟨N,hN,q2⟩:=q2;rw[if_pos rfl];refine wpAny_passesOwn hp (thn (hb pins s2 σ1 H2 _ I2 q2) λ f s3 q3=>?_);cases f with
    |next=>
      obtain⟨σ3,H3,I3,n3⟩:=q3;obtain⟨m',hm,w3⟩:=hN σ3 H3 n3;exact⟨m',hm,σ3,H3,I3,w3⟩
    |cont=>
      obtain⟨σ3,H3,I3,n3⟩:=q3;obtain⟨m',hm,w3⟩:=hN σ3 H3 n3;exact⟨m',hm,σ3,H3,I3,w3⟩
    |brk=>exact q3
    |ret v=>exact q3
  |false=>
    rw[if_neg Bool.false_ne_true];exact wpAny_execs_nil ⟨σ1,H2,I2,q2⟩
end
structure It where
  go:Nat->Hp->Prop
  yld:Nat->Hp->V->Hp->Prop
  stop:Nat->Hp->Prop
noncomputable def Zag (X:Cx)(pins:List (Addr×Obj))(H:Hp)(b:Addr):Prop:=
 H b=none/\b≠X.env.locals/\b∉X.fs/\(b∈X.ex\/X.s₀.heap.objs.size<=b)/\(∀ x c,X.env.cells.lookup x=some c->c≠b)/\∀ p∈X.pn++pins,p.1≠b
theorem Inv.fpOk {X:Cx}{pins:List (Addr×Obj)}{σ:St}{H H':Hp}{s:Shared}{b:Addr}(I:Inv X pins σ H s)(hb:s.heap.objs.size<=b)(hn:H' b=none):Zag X pins H' b:=by
  refine⟨hn,Nat.ne_of_gt (lt_of_lt_of_le I.lt hb),I.nofs hb, .inr (le_trans I.sz hb),λ x c e z=>?_,λ p hp z=>?_⟩
  . obtain⟨v,q⟩:=I.cell x c e;exact absurd (lt_of_lt_of_le q.lt (by rw[z];exact hb)) (lt_irrefl _)
  . exact absurd (lt_of_lt_of_le (Heap.lt_size (I.pin p hp).1) (by rw[z];exact hb)) (lt_irrefl _)
structure Turn (P:Program)(w:World)(K:Frag)(tg:Expr)(J:It)(fp:List Addr)(it:Addr)(tn:Nat->Heap->Prop):Prop where
  mem:it∈fp
  obj:∀ i h,tn i h->∀ b∈fp,∃ o,h.get? b=some o/\∀ v,o.data ≠ .cell v
  keep:∀ i h h',tn i h->(∀ b∈fp,∀ o,h.get? b=some o->h'.get? b=some o)->tn i h'
  item:∀(X:Cx),X.prog=P->X.w=w->X.K=K->X.calm=true->∀(i:Nat)(pins:List (Addr×Obj))(s:Shared)(σ:St)(H:Hp)(E:Value->Shared->Prop),Inv X pins σ H s->(∀ b∈fp,Zag X pins H b)->tn i s.heap->J.go i H ->
    wpAny (model P w) X.A (pyNext (.ref it)) (λ r s1=>∃ u,r=some u /\
      wpAny (model P w) X.A (letOwnedTupleGo tg (.ref it) u) (λ _ s2=>∃ x H',Inv X pins σ H' s2/\Zw x u/\J.yld i H x H'/\tn (i+1) s2.heap/\∀ b∈fp,H' b=none) E s1) E s
  done:∀(X:Cx),X.prog=P->X.w=w->X.K=K->X.calm=true->∀(i:Nat)(pins:List (Addr×Obj))(s:Shared)(σ:St)(H:Hp)(E:Value->Shared->Prop),Inv X pins σ H s->(∀ b∈fp,Zag X pins H b)->tn i s.heap->J.stop i H ->
    wpAny (model P w) X.A (pyNext (.ref it)) (λ r s1=>r=none/\Inv X pins σ H s1) E s
  self:∀(A:Around)(i:Nat)(s:Shared)(Q:Value->Shared->Prop)(E:Value->Shared->Prop),tn i s.heap->Q (.ref it) s->wpAny (model P w) A (pyIter (.ref it)) Q E s
noncomputable abbrev TI:=St->Hp->(It->Hp->Prop)->Prop
noncomputable def PIE (X:Cx)(pins:List (Addr×Obj))(σ:St)(tg:Expr)(R:It->Hp->Prop)(itv:Value)(s2:Shared):Prop:=
 ∃(it:Addr)(fp:List Addr)(tn:Nat->Heap->Prop)(J:It)(H':Hp),itv = .ref it/\Inv X pins σ H' s2/\Turn X.prog X.w X.K tg J fp it tn/\tn 0 s2.heap/\(∀ b∈fp,Zag X pins H' b)/\R J H'
noncomputable abbrev PIb (X:Cx)(tg iter:Expr)(wi:TI):Prop:=
  ∀(pins:List (Addr×Obj))(s:Shared)(σ:St)(H:Hp)(R:It->Hp->Prop),Inv X pins σ H s->wi σ H R ->
    wpAny (model X.prog X.w) X.A (eval iter X.env) (λ v s1=>wpAny (model X.prog X.w) X.A (pyIter v) (PIE X pins σ tg R) X.xe s1) X.xe s
structure PI (X:Cx)(tg iter:Expr)(wi:TI):Prop where
  go:PIb X tg iter wi
instance {X:Cx}{tg iter:Expr}{wi:TI}:CoeFun (PI X tg iter wi) λ _=>PIb X tg iter wi:=⟨PI.go⟩
theorem ZfU {M:Model}{A:Around}{E:Value->Shared->Prop}{s:Shared}{tg:Expr}{it:Addr}{u:Value}{o:Obj}{n:String}{vs:Array Value}{Q:Unit->Shared->Prop}(ho:s.heap.get? it=some o)(hc:o.cls = .type n)(hd:o.data = .fields vs)(hn:["enumerate","zip","dict_itemiterator","dict_reverseitemiterator","odict_iterator","itertools.zip_longest","itertools.pairwise"].contains n=false)(hQ:Q () s):wpAny M A (letOwnedTupleGo tg (.ref it) u) Q E s:=by
  unfold letOwnedTupleGo;cases tg <;> first
    | exact wpAny_pure hQ
    | (cases u <;> first
        | exact wpAny_pure hQ
        | (refine wpAny_bind (wpAny_load ho ?_)
           rw[hc,hd];show wpAny M A (if (["enumerate","zip","dict_itemiterator","dict_reverseitemiterator","odict_iterator","itertools.zip_longest","itertools.pairwise"].contains n && vs[0]? == some (rawInt _))=true then _ else _) Q E s;rw[if_neg (by intro h;rw[hn,Bool.false_and]at h;cases h)];exact wpAny_pure hQ))
noncomputable def Itl (K:Frag)(a:Addr):It:=
 ⟨λ i H=>∃ xs x,SqL K H a xs/\xs[i]? = some x,λ i H x H'=>H'=H/\∀ xs,SqL K H a xs->xs[i]? = some x,λ i H=>∃ xs,SqL K H a xs/\xs.length<=i⟩
noncomputable def Itr (lo:Int)(n:Nat):It:=⟨λ i _=>i<n,λ i H x H'=>H'=H/\x = .int (lo+i),λ i _=>n<=i⟩
theorem Zgc {P:Program}{w:World}{K:Frag}{tg:Expr}(a it:Addr):Turn P w K tg (Itl K a) [it] it (λ i h=>h.IsListIter it a i) where
  mem:=by simp
  obj:=λ i h st b hb=>by
    have e:b=it:=by simpa using hb
    subst e;obtain⟨o,e,c,d⟩:=st;exact⟨o,e,λ v z=>by rw[d]at z;cases z⟩
  keep:=λ i h h' st k=>st.at λ o e=>k it (by simp) o e
  item:=by
    intro X hP hw hK hc i pins s σ H E I hf st hg;subst hP hw hK;obtain⟨xs,x,hq,hx⟩:=hg;obtain⟨its,rv,p,hz⟩:=I.list hq;obtain⟨u,hu,ru⟩:=rv.get hx;obtain⟨f0,f1,f2,f3,f4,f5⟩:=hf it (by simp);refine wpAny_pyNext_list_item st p.isList (x:=u) (by simpa using hu) λ h' st' sb=>?_;have I1:Inv X pins σ H { s with heap:=h' }:=I.turned (t':=s.toks) (λ b o hb e=>(sb.2 b hb).trans e) f0 f1 f3 f4 f5;obtain⟨o,e,c,d⟩:=id st';exact⟨u,rfl,ZfU (s:={ s with heap:=h' }) e c d (by decide) ⟨x,H,I1,ru,⟨rfl,λ ys hy=>by rw[I.list_inj hy hq];exact hx⟩,st',λ b hb=>(hf b hb).1⟩⟩
  done:=by
    intro X hP hw hK hc i pins s σ H E I hf st hg;subst hP hw hK;obtain⟨xs,hq,hx⟩:=hg;obtain⟨its,rv,p,hz⟩:=I.list hq;obtain⟨f0,f1,f2,f3,f4,f5⟩:=hf it (by simp);have hl:=rv.length;exact wpAny_pyNext_list_end (I.ok.hd hc) st p.isList (by simp;omega) λ h' eb=>⟨rfl,I.turned (t':=s.toks) (λ b o hb e=>eb b o hb e) f0 f1 f3 f4 f5⟩
  self:=λ _ _ _ _ _ st h=>wpAny_pyIter_listiter st h
theorem ZeX {P:Program}{w:World}{K:Frag}{tg:Expr}(it:Addr)(lo:Int)(n:Nat):Turn P w K tg (Itr lo n) [it] it (λ i h=>IsRangeIter h it (lo+(i:Nat) * 1) ((n:Int) - (i:Nat)) 1) where
  mem:=by simp
  obj:=λ i h st b hb=>by
    have e:b=it:=by simpa using hb
    subst e;exact⟨_,st,λ v z=>by
      have z':Data.fields _=Data.cell v:=z;cases z'⟩
  keep:=λ i h h' st k=>k it (by simp) _ st
  item:=by
    intro X hP hw hK hc i pins s σ H E I hf st hg;subst hP hw hK;obtain⟨f0,f1,f2,f3,f4,f5⟩:=hf it (by simp);have W:=Walks.range (prog:=X.prog) (w:=X.w) (I.ok.hd hc) it lo 1 n;refine W.item i s _ _ hg st λ v h' tk hv st' kk=>?_;obtain⟨t,rfl⟩:=hv;have I1:Inv X pins σ H { s with heap:=h',toks:=tk }:=I.turned (λ b o hb e=>kk b o (by simpa using hb) e) f0 f1 f3 f4 f5;refine⟨_,rfl,ZfU (s:={ s with heap:=h',toks:=tk }) (n:="range_iterator") st' rfl rfl (by decide) ⟨.int (lo+i),H,I1,⟨t,?_⟩,⟨rfl,rfl⟩,st',λ b hb=>(hf b hb).1⟩⟩;rw[Int.mul_one]
  done:=by
    intro X hP hw hK hc i pins s σ H E I hf st hg;subst hP hw hK;obtain⟨f0,f1,f2,f3,f4,f5⟩:=hf it (by simp);exact wpAny_pyNext_range_end (I.ok.hd hc) st (by have:n<=i:=hg;omega) λ h' eb=>⟨rfl,I.turned (t':=s.toks) (λ b o hb e=>eb b o hb e) f0 f1 f3 f4 f5⟩
  self:=λ _ _ _ _ _ st h=>wpAny_pyIter_rangeiter st h
open PySem PySem.Spec PyProof.Rows
section
variable {X:Cx}{tg:Expr}
noncomputable def iList (K:Frag)(tl:TE):TI:=λ σ H R=>tl σ H λ x H1=>∃ a,x = .ref a/\(∃ xs,SqL K H1 a xs)/\R (Itl K a) H1
theorem Yg {l:Expr}{tl:TE}(hl:PE X l tl):PI X tg l (iList X.K tl):=by
 refine⟨?_⟩;intro pins s σ H R I h;refine thn (hl pins s σ H _ I h) λ v s1 zz9=>?_;obtain⟨x,H1,I1,r1,q1⟩:=zz9;obtain⟨a,e,⟨xs,hq⟩,q⟩:=q1;subst e;cases r1;obtain⟨its,rv,p,hz⟩:=I1.list hq;refine wpAny_pyIter_list p.isList ?_;refine⟨s1.heap.objs.size,[s1.heap.objs.size],_,_,H1,rfl,I1.kept (t':=s1.toks) λ b o e=>Heap.get?_push_of_some _ e,Zgc a _,⟨_,Heap.get?_push_size _ rfl,rfl,rfl⟩,λ b hb=>?_,q⟩;have e:b=s1.heap.objs.size:=by simpa using hb
 subst e;exact I1.fpOk (le_refl _) (I1.hok.fresh (le_refl _))
theorem Zg7 {pins:List (Addr×Obj)}{σ:St}{H:Hp}{s:Shared}{R:It->Hp->Prop}{E:Value->Shared->Prop}{lo hi:Int}{t u v:Tok}{tk:Nat}(I:Inv X pins σ H s)(h1 : -(2 ^ 62)<=lo)(h2:lo<2 ^ 62)(h3 : -(2 ^ 62)<=hi)(h4:hi<2 ^ 62)(q:R (Itr lo (hi - lo).toNat) H):wpAny (model X.prog X.w) X.A (pyIter (.ref s.heap.objs.size)) (PIE X pins σ tg R) E { s with heap:=s.heap.push { cls:=.type "range",data:=.fields #[.int lo t, .int hi u, .int 1 v] },toks:=tk }:=by
  refine wpAny_pyIter_range (IsRange.new ..) (small_one h1 h2 h3 h4) ?_;have I1:Inv X pins σ H { s with heap:=s.heap.push { cls:=.type "range",data:=.fields #[.int lo t, .int hi u, .int 1 v] },toks:=tk }:=I.kept λ b o e=>Heap.get?_push_of_some _ e;refine⟨(s.heap.push { cls:=.type "range",data:=.fields #[.int lo t, .int hi u, .int 1 v] }).objs.size,[(s.heap.push { cls:=.type "range",data:=.fields #[.int lo t, .int hi u, .int 1 v] }).objs.size],_,_,H,rfl,
    I1.kept (t':=tk) λ b o e=>Heap.get?_push_of_some _ e,ZeX _ lo (hi - lo).toNat,?_,λ b hb=>?_,q⟩
  . have e1:lo+((0:Nat):Int) * 1=lo:=by simp
    have e2:(((hi - lo).toNat:Nat):Int) - ((0:Nat):Int)=Builtin.Range.rangeSize lo hi 1:=by rw[rangeSize_one];split <;> omega
    show IsRangeIter _ _ (lo+((0:Nat):Int) * 1) ((((hi - lo).toNat:Nat):Int) - ((0:Nat):Int)) 1;rw[e1,e2];exact Heap.get?_push_size _ rfl
  . have e:b=(s.heap.push { cls:=.type "range",data:=.fields #[.int lo t, .int hi u, .int 1 v] }).objs.size:=by simpa using hb
    subst e;exact I1.fpOk (le_refl _) (I1.hok.fresh (le_refl _))
noncomputable def iRng1 (ta:TA):TI:=λ σ H R=>ta σ H λ vs H1=>∃ j:Int,vs=[.int j] /\ -(2 ^ 62)<=j/\j<2 ^ 62/\R (Itr 0 j.toNat) H1
theorem XT {a:Expr}{ta:TA}{p pos:Pos}(hg:Gl X "range")(hm:X.mg "range"=none)(ha:PA X [a] ta)(hs:starEach [a] X.env=[(false,eval a X.env)]:=by rfl):PI X tg (.Call (.Name "range" p) [a] [] pos) (iRng1 ta):=by
  refine⟨?_⟩;intro pins s σ H R I h;refine Call_ (ZcL I hg hm boot_range (PyProof.Rows.callWith_type1 (thn (ha pos pins s σ H _ I h) λ us s1 zz9=>?_) hs rfl));obtain⟨vs,H1,I1,r1,q1⟩:=zz9;obtain⟨j,e,q1,q2,q⟩:=q1;subst e;cases r1 with
  |cons r rr=>
    cases rr;obtain⟨t,rfl⟩:=r;exact call_range_1 (Zg7 I1 (by omega) (by omega) q1 q2 (by simpa using q))
noncomputable def tFor (wi:TI)(g:TG)(tb:TS):TS:=λ D σ H=>wi σ H λ J H1=>∃ W:Nat->Nat->St->Hp->Prop,(∃ m,W 0 m σ H1)/\∀ i m σ H,W i m σ H ->
 (J.stop i H/\D.nx σ H)\/(J.go i H/\∃ N:St->Hp->Prop,(∀ σ' H',N σ' H'->∃ m',m'<m/\W (i+1) m' σ' H')/\∀ x H',J.yld i H x H'->g x σ H' λ σ2 H2=>tb { D with nx:=N,ct:=N,bk:=D.nx } σ2 H2)
noncomputable def Zbg (fp:List Addr)(h:Heap):List (Addr×Obj):=fp.filterMap λ b=>(h.get? b).map λ o=>(b,o)
theorem YE {fp:List Addr}{h:Heap}{b:Addr}{o:Obj}(hb:b∈fp)(e:h.get? b=some o):(b,o)∈Zbg fp h:=List.mem_filterMap.mpr ⟨b,hb,by rw[e];rfl⟩
theorem Zgt {fp:List Addr}{h:Heap}{p:Addr×Obj}(hp:p∈Zbg fp h):p.1∈fp/\h.get? p.1=some p.2:=by
  obtain⟨b,hb,e⟩:=List.mem_filterMap.mp hp;cases q:h.get? b with
  |none=>rw[q]at e;cases e
  |some o=>
    rw[q]at e;have e':(b,o)=p:=Option.some.inj e;subst e';exact⟨hb,q⟩
theorem Inv.pinned {pins:List (Addr×Obj)}{σ:St}{H:Hp}{s:Shared}{fp:List Addr}(I:Inv X pins σ H s)(hf:∀ b∈fp,Zag X pins H b)(ho:∀ b∈fp,∃ o,s.heap.get? b=some o/\∀ v,o.data ≠ .cell v):Inv X (pins++Zbg fp s.heap) σ H s:=
  I.pins_of λ p hp=>(List.mem_append.mp hp).elim (λ z=>I.pin p (mem_append_right _ z)) λ z=>by
    obtain⟨hb,e⟩:=Zgt z;obtain⟨f0,f1,f2,_⟩:=hf p.1 hb;obtain⟨o,e',d⟩:=ho p.1 hb;rw[e]at e';cases e';exact⟨e,f0,f1,f2,d⟩
theorem Inv.unpinned {pins pl:List (Addr×Obj)}{σ:St}{H:Hp}{s:Shared}(I:Inv X (pins++pl) σ H s):Inv X pins σ H s:=I.pins_of λ p hp=>I.pin p (mem_append_right _ (mem_append_left _ hp))
theorem Ys {iter:Expr}{body:List Stmt}{wi:TI}{g:TG}{tb:TS}{pos:Pos}(hp:PassesOwn (model X.prog X.w) X.A X.env X.xe)(hc:X.calm=true)(hi:PI X tg iter wi)(hg:PG X tg g)(hb:PSs X body tb)(hs:∀ x,foldedSetIterable iter X.env x=pure x:=by intro _;rfl):PS X (.For tg iter body [] pos) (tFor wi g tb):=by
  refine⟨?_⟩;intro pins s σ H D I h;refine wpAny_For (thn (hi pins s σ H _ I h) λ v s1 h1=>thn h1 λ itv s2 h2=>?_) hs;obtain⟨it,fp,tn,J,H2,e,I2,T,st2,f2,W,⟨m0,w0⟩,turn⟩:=h2;subst e;have stat:∀ {H':Hp},(∀ b∈fp,H' b=none)->∀ b∈fp,Zag X pins H' b:=λ hn b hb=>⟨hn b hb,(f2 b hb).2⟩;refine codeAny_forLoop_any (λ n s'=>∃ i σ' H',Inv X pins σ' H' s'/\tn i s'.heap/\(∀ b∈fp,H' b=none)/\W i n σ' H') ?_ m0 ⟨0,σ,H2,I2,st2,λ b hb=>(f2 b hb).1,w0⟩;rintro n s3 ⟨i,σ3,H3,I3,st3,fr3,w3⟩;rcases turn i n σ3 H3 w3 with ⟨stop,qn⟩|⟨go,N,hN,step⟩
  . refine wpAny_passesOwn hp (thn (T.done X rfl rfl rfl hc i pins s3 σ3 H3 X.xe I3 (stat fr3) st3 stop) λ r s4 zz9=>?_);obtain⟨hr,I4⟩:=zz9;subst hr;exact wpAny_execs_nil ⟨σ3,H3,I4,qn⟩
  . refine wpAny_passesOwn hp (thn (T.item X rfl rfl rfl hc i pins s3 σ3 H3 X.xe I3 (stat fr3) st3 go) λ r s4 zz9=>?_);obtain⟨u,hr,h4⟩:=zz9;subst hr;refine wpAny_passesOwn hp (thn h4 λ _ s5 zz9=>?_);obtain⟨x,H5,I5,r5,y5,st5,fr5⟩:=zz9;have I5':=I5.pinned (stat fr5) (T.obj _ _ st5);refine wpAny_passesOwn hp (thn (hg _ s5 σ3 H5 x u _ I5' r5 (step x H5 y5)) λ _ s6 zz9=>?_);obtain⟨σ6,H6,I6,q6⟩:=zz9;refine wpAny_passesOwn hp (thn (hb _ s6 σ6 H6 _ I6 q6) λ f s7 q7=>?_);have again:∀ {σ7:St} {H7:Hp},Inv X (pins++Zbg fp s5.heap) σ7 H7 s7->N σ7 H7->∃ m,m<n/\∃ i σ' H',Inv X pins σ' H' s7/\tn i s7.heap/\(∀ b∈fp,H' b=none)/\W i m σ' H':=λ {σ7 H7} I7 n7=>by
      obtain⟨m',hm,w7⟩:=hN σ7 H7 n7;refine⟨m',hm,i+1,σ7,H7,I7.unpinned,T.keep _ _ _ st5 λ b hb o e=>(I7.pin (b,o) (mem_append_right _ (mem_append_right _ (YE hb e)))).1,λ b hb=>?_,w7⟩;obtain⟨o,e,d⟩:=T.obj _ _ st5 b hb;exact(I7.pin (b,o) (mem_append_right _ (mem_append_right _ (YE hb e)))).2.1
    cases f with
    |next=>obtain⟨σ7,H7,I7,n7⟩:=q7;exact again I7 n7
    |cont=>obtain⟨σ7,H7,I7,n7⟩:=q7;exact again I7 n7
    |brk=>obtain⟨σ7,H7,I7,q7⟩:=q7;exact⟨σ7,H7,I7.unpinned,q7⟩
    |ret v=>obtain⟨x7,σ7,H7,I7,r7,q7⟩:=q7;exact⟨x7,σ7,H7,I7.unpinned,r7,q7⟩
end
theorem JS {K:Frag}{a:Addr}{xs:List V}{g:TG}{tb:TS}{D:Ends}{σ:St}{H:Hp}(Pv:Nat->St->Hp->Prop)(h0:Pv 0 σ H)(hl:∀ i σ H,i<=xs.length->Pv i σ H->SqL K H a xs)(hs:∀ i x σ H,xs[i]? = some x->Pv i σ H->g x σ H λ σ2 H2=>tb { D with nx:=Pv (i+1),ct:=Pv (i+1),bk:=D.nx } σ2 H2)(hd:∀ σ H,Pv xs.length σ H->D.nx σ H) :
    ∃ W:Nat->Nat->St->Hp->Prop,(∃ m,W 0 m σ H)/\∀ i m σ H,W i m σ H ->
      ((Itl K a).stop i H/\D.nx σ H)\/((Itl K a).go i H/\∃ N:St->Hp->Prop,(∀ σ' H',N σ' H'->∃ m',m'<m/\W (i+1) m' σ' H')/\∀ x H',(Itl K a).yld i H x H'->g x σ H' λ σ2 H2=>tb { D with nx:=N,ct:=N,bk:=D.nx } σ2 H2):=by
  refine⟨λ i m σ H=>m=xs.length - i/\i<=xs.length/\Pv i σ H,⟨xs.length,by simp,zero_le _,h0⟩,?_⟩;rintro i m σ H ⟨rfl,hi,p⟩;have q:=hl i σ H hi p
  by_cases hlt:i<xs.length
  . refine .inr ⟨⟨xs,xs[i],q,by simp[hlt]⟩,Pv (i+1),λ σ' H' p'=>⟨xs.length - (i+1),by omega,rfl,hlt,p'⟩,λ x H' y=>?_⟩;obtain⟨e,y⟩:=y;subst e;exact hs i x σ _ (y xs q) p
  . have e:i=xs.length:=by omega
    subst e;exact .inl ⟨⟨xs,q,le_refl _⟩,hd σ H p⟩
theorem J7 {lo:Int}{n:Nat}{g:TG}{tb:TS}{D:Ends}{σ:St}{H:Hp}(Pv:Nat->St->Hp->Prop)(h0:Pv 0 σ H)(hs:∀ i σ H,i<n->Pv i σ H->g (.int (lo+i)) σ H λ σ2 H2=>tb { D with nx:=Pv (i+1),ct:=Pv (i+1),bk:=D.nx } σ2 H2)(hd:∀ σ H,Pv n σ H->D.nx σ H) :
    ∃ W:Nat->Nat->St->Hp->Prop,(∃ m,W 0 m σ H)/\∀ i m σ H,W i m σ H ->
      ((Itr lo n).stop i H/\D.nx σ H)\/((Itr lo n).go i H/\∃ N:St->Hp->Prop,(∀ σ' H',N σ' H'->∃ m',m'<m/\W (i+1) m' σ' H')/\∀ x H',(Itr lo n).yld i H x H'->g x σ H' λ σ2 H2=>tb { D with nx:=N,ct:=N,bk:=D.nx } σ2 H2):=by
  refine⟨λ i m σ H=>m=n - i/\i<=n/\Pv i σ H,⟨n,by simp,zero_le _,h0⟩,?_⟩;rintro i m σ H ⟨rfl,hi,p⟩
  by_cases hlt:i<n
  . refine .inr ⟨hlt,Pv (i+1),λ σ' H' p'=>⟨n - (i+1),by omega,rfl,hlt,p'⟩,λ x H' y=>?_⟩;obtain⟨e,y⟩:=y;subst e y;exact hs i σ _ hlt p
  . have e:i=n:=by omega
    subst e;exact .inl ⟨le_refl _,hd σ H p⟩
theorem ZaG {c:TT}{tb:TS}{D:Ends}{σ:St}{H:Hp}(Pv:St->Hp->Prop)(μ:St->Hp->Nat)(h0:Pv σ H)(hs:∀ σ H,Pv σ H->c σ H λ b H1=>if b=true then tb { D with nx:=λ σ' H'=>Pv σ' H'/\μ σ' H'<μ σ H,ct:=λ σ' H'=>Pv σ' H'/\μ σ' H'<μ σ H,bk:=D.nx } σ H1 else D.nx σ H1)(mono:∀ σ H Q Q',(∀ b H1,Q b H1->Q' b H1)->c σ H Q->c σ H Q'):ZgR c tb D σ H:=by
  refine⟨λ m σ H=>m=μ σ H/\Pv σ H,⟨_,rfl,h0⟩,?_⟩;rintro m σ H ⟨rfl,p⟩;refine mono σ H _ _ (λ b H1 q=>?_) (hs σ H p);cases b with
  |true=>exact⟨_,λ σ' H' ⟨p',l⟩=>⟨_,l,rfl,p'⟩,q⟩
  |false=>exact q
open PySem PySem.Spec PyProof.Rows
noncomputable abbrev R2:=V->V->Hp->VK->Prop
noncomputable def OpR (X:Cx)(f:Value->Value->Sem Value)(r:R2):Prop:=
  ∀(pins:List (Addr×Obj))(s:Shared)(σ:St)(H:Hp)(x y:V)(v u:Value)(Q:VK),Inv X pins σ H s->Zw x v->Zw y u->r x y H Q ->
    wpAny (model X.prog X.w) X.A (f v u) (EP X pins σ Q) X.xe s
noncomputable def Xk (X:Cx)(f:Value)(r:List V->Hp->VK->Prop):Prop:=
  ∀(pins:List (Addr×Obj))(s:Shared)(σ:St)(H:Hp)(xs:List V)(us:List Value)(Q:VK),Inv X pins σ H s->ZF xs us->r xs H Q ->
    wpAny (model X.prog X.w) X.A (call f us) (EP X pins σ Q) X.xe s
noncomputable def TruR (X:Cx)(r:V->Hp->(Bool->Hp->Prop)->Prop):Prop:=
  ∀(pins:List (Addr×Obj))(s:Shared)(σ:St)(H:Hp)(x:V)(v:Value)(Q:Bool->Hp->Prop),Inv X pins σ H s->Zw x v->r x H Q ->
    wpAny (model X.prog X.w) X.A (truthy v) (TP X pins σ Q) X.xe s
noncomputable def tOp (r:R2)(ta tb:TE):TE:=λ σ H Q=>ta σ H λ x H1=>tb σ H1 λ y H2=>r x y H2 Q
noncomputable def rI (C:Int->Int->Prop)(g:Int->Int->V):R2:=λ x y H Q=>∃ i j,x = .int i/\y = .int j/\C i j/\Q (g i j) H
noncomputable def rI0 (g:Int->Int->V):R2:=λ x y H Q=>∃ i j,x = .int i/\y = .int j/\Q (g i j) H
section
variable {X:Cx}{a b c:Expr}{ta tb tc:TE}{pos:Pos}
theorem binT (ha:PE X a ta)(hb:PE X b tb){pins:List (Addr×Obj)}{s:Shared}{σ:St}{H:Hp}{R:V->V->Hp->Prop}(I:Inv X pins σ H s)(h:ta σ H λ x H1=>tb σ H1 λ y H2=>R x y H2){Q:Value->Shared->Prop}{f:Value->Value->Sem Value}(hf:∀ v u s2 x y H2,Inv X pins σ H2 s2->Zw x v->Zw y u->R x y H2->wpAny (model X.prog X.w) X.A (f v u) Q X.xe s2) :
    wpAny (model X.prog X.w) X.A (eval a X.env) (λ v s₁=>wpAny (model X.prog X.w) X.A (eval b X.env) (λ u s₂=>wpAny (model X.prog X.w) X.A (f v u) Q X.xe s₂) X.xe s₁) X.xe s:=by
  refine thn (ha pins s σ H _ I h) λ v s1 zz9=>?_;obtain⟨x,H1,I1,r1,q1⟩:=zz9;refine thn (hb pins s1 σ H1 _ I1 q1) λ u s2 zz9=>?_;obtain⟨y,H2,I2,r2,q2⟩:=zz9;exact hf v u s2 x y H2 I2 r1 r2 q2
theorem Zl {op:Operator}{r:R2}(ho:OpR X (binaryOp op) r)(ha:PE X a ta)(hb:PE X b tb):PE X (.BinOp a op b pos) (tOp r ta tb):=by
 refine⟨?_⟩;intro pins s σ H Q I h;exact wpAny_BinOp (binT ha hb I h λ v u s2 x y H2 I2 rx ry q=>ho pins s2 σ H2 x y v u Q I2 rx ry q)
theorem opI {f:Value->Value->Sem Value}{C:Int->Int->Prop}{g:Int->Int->Int}(rule:∀(i j:Int)(t u:Tok)(s:Shared)(Q:Value->Shared->Prop)(E:Value->Shared->Prop),C i j->Q (.int (g i j) s.toks) { s with toks:=s.toks+1 }->wpAny (model X.prog X.w) X.A (f (.int i t) (.int j u)) Q E s) :
    OpR X f (rI C λ i j => .int (g i j)):=by
  intro pins s σ H x y v u Q I rx ry h;obtain⟨i,j,rfl,rfl,hc,q⟩:=h;obtain⟨t,rfl⟩:=rx;obtain⟨t',rfl⟩:=ry;exact rule i j t t' s _ _ hc ⟨.int (g i j),H,I.tok _,⟨_,rfl⟩,q⟩
theorem opI0 {f:Value->Value->Sem Value}{g:Int->Int->Int}(rule:∀(i j:Int)(t u:Tok)(s:Shared)(Q:Value->Shared->Prop)(E:Value->Shared->Prop),Q (.int (g i j) s.toks) { s with toks:=s.toks+1 }->wpAny (model X.prog X.w) X.A (f (.int i t) (.int j u)) Q E s) :
    OpR X f (rI0 λ i j => .int (g i j)):=by
  intro pins s σ H x y v u Q I rx ry h;obtain⟨i,j,rfl,rfl,q⟩:=h;obtain⟨t,rfl⟩:=rx;obtain⟨t',rfl⟩:=ry;exact rule i j t t' s _ _ ⟨.int (g i j),H,I.tok _,⟨_,rfl⟩,q⟩
theorem opB0 {f:Value->Value->Sem Value}{g:Int->Int->Bool}(rule:∀(i j:Int)(t u:Tok)(s:Shared)(Q:Value->Shared->Prop)(E:Value->Shared->Prop),Q (.bool (g i j)) s->wpAny (model X.prog X.w) X.A (f (.int i t) (.int j u)) Q E s) :
    OpR X f (rI0 λ i j => .bl (g i j)):=by
  intro pins s σ H x y v u Q I rx ry h;obtain⟨i,j,rfl,rfl,q⟩:=h;obtain⟨t,rfl⟩:=rx;obtain⟨t',rfl⟩:=ry;exact rule i j t t' s _ _ ⟨.bl (g i j),H,I,rfl,q⟩
noncomputable def CDiv (i j:Int):Prop:=0<j/\j<1073741824
noncomputable def CPow (i j:Int):Prop:=0<=j/\j<=1000000/\i.natAbs<2 ^ 64
noncomputable def CMul (i j:Int):Prop:=(-(2 ^ 64)<i/\i<2 ^ 64)\/(-(2 ^ 64)<j/\j<2 ^ 64)
theorem CMul.ok {i j:Int}(h:CMul i j):IntMulOk i j:=by
  rcases h with ⟨h1,h2⟩|⟨h1,h2⟩
  . exact .of_left (intBits_le_64 h1 h2)
  . exact .of_right (intBits_le_64 h1 h2)
theorem Z7:OpR X (binaryOp .Add) (rI0 λ i j => .int (i+j)):=opI0 λ _ _ _ _ _ _ _ q=>add_int q
theorem Zcv:OpR X (binaryOp .Sub) (rI0 λ i j => .int (i - j)):=opI0 λ _ _ _ _ _ _ _ q=>sub_int q
theorem ZaD:OpR X (binaryOp .Mult) (rI CMul λ i j => .int (i * j)):=opI λ _ _ _ _ _ _ _ hc q=>mul_int q hc.ok
theorem Yv:OpR X (binaryOp .FloorDiv) (rI CDiv λ i j => .int (i / j)):=opI λ i j _ _ _ _ _ hc q=>by
 have h1:(0:Int)<j:=hc.1;have h2:j<1073741824:=hc.2;exact floordiv_int (by omega) (by rw[Int.fdiv_eq_ediv_of_nonneg i (by omega)];exact q) (.inl (PyProof.noPylong_small (by omega)))
theorem Z6:OpR X (binaryOp .Mod) (rI (λ _ j=>0<j) λ i j => .int (i % j)):=opI λ i j _ _ _ _ _ hc q=>by
 have h1:(0:Int)<j:=hc;exact mod_int' (by omega) (by rw[Int.fmod_eq_emod_of_nonneg i (by omega)];exact q)
theorem op_pow:OpR X (binaryOp .Pow) (rI CPow λ i j => .int (i ^ j.toNat)):=opI λ _ _ _ _ _ _ _ hc q=>pow_int_small hc.1 hc.2.1 hc.2.2 q
end
noncomputable def scal:V->V->Bool
  |.non, .non=>true|.non, .int _=>true|.int _, .non=>true|.non, .bl _=>true|.bl _, .non=>true|.non, .str _=>true|.str _, .non=>true
  |.int _, .int _=>true|.bl _, .bl _=>true|.str _, .str _=>true|.byt _, .byt _=>true
  |.int _, .str _=>true|.str _, .int _=>true|.bl _, .str _=>true|.str _, .bl _=>true
  |_,_=>false
noncomputable def rEq:R2:=λ x y H Q=>scal x y=true/\Q (.bl (decide (x=y))) H
noncomputable def rNe:R2:=λ x y H Q=>scal x y=true/\Q (.bl (!decide (x=y))) H
theorem Zf1 {i j:Int}:decide (V.int i=V.int j)=(i == j):=by
 rw[Bool.eq_iff_iff];simp
theorem ZhS {i j:Bool}:decide (V.bl i=V.bl j)=(i == j):=by
 rw[Bool.eq_iff_iff];simp
theorem Zf0 {i j:Str}:decide (V.str i=V.str j)=(i == j):=by
 rw[Bool.eq_iff_iff];simp
theorem Zf2 {i j:Array UInt8}:decide (V.byt i=V.byt j)=(i.toList == j.toList):=by
 rw[Bool.eq_iff_iff];cases i;cases j;simp
section
variable {X:Cx}{a b c:Expr}{ta tb tc:TE}{pos:Pos}
theorem ZC {pins:List (Addr×Obj)}{σ:St}{H:Hp}{s:Shared}{Q:VK}{k k':Bool}(I:Inv X pins σ H s)(q:Q (.bl k) H)(e:k=k'):EP X pins σ Q (.bool k') s:=by
 subst e;exact⟨.bl k,H,I,rfl,q⟩
theorem YK:OpR X (compareOp .Eq) rEq:=by
  intro pins s σ H x y v u Q I rx ry h;obtain⟨hs,q⟩:=h;cases x with
  |non=>
    cases rx;cases y with
    |non=>cases ry;exact PySem.EqNone.eq_none_none (ZC I q (by simp))
    |bl j=>cases ry;exact PySem.EqNone.eq_none_bool (ZC I q (by simp))
    |int j=>obtain⟨t',rfl⟩:=ry;exact PySem.EqNone.eq_none_int (ZC I q (by simp))
    |str j=>obtain⟨t',rfl⟩:=ry;exact PySem.EqNone.eq_none_str (ZC I q (by simp))
    |_=>exact absurd (show false=true from hs) Bool.false_ne_true
  |bl i=>
    cases rx;cases y with
    |non=>cases ry;exact PySem.EqNone.eq_bool_none (ZC I q (by simp))
    |bl j=>cases ry;exact eq_bool (ZC I q ZhS)
    |str j=>obtain⟨t',rfl⟩:=ry;exact PySem.EqMixed.eq_bool_str (ZC I q (by simp))
    |_=>exact absurd (show false=true from hs) Bool.false_ne_true
  |int i=>
    obtain⟨t,rfl⟩:=rx;cases y with
    |non=>cases ry;exact PySem.EqNone.eq_int_none (ZC I q (by simp))
    |int j=>obtain⟨t',rfl⟩:=ry;exact eq_int (ZC I q Zf1)
    |str j=>obtain⟨t',rfl⟩:=ry;exact PySem.EqMixed.eq_int_str (ZC I q (by simp))
    |_=>exact absurd (show false=true from hs) Bool.false_ne_true
  |str i=>
    obtain⟨t,rfl⟩:=rx;cases y with
    |non=>cases ry;exact PySem.EqNone.eq_str_none (ZC I q (by simp))
    |bl j=>cases ry;exact PySem.EqMixed.eq_str_bool (ZC I q (by simp))
    |int j=>obtain⟨t',rfl⟩:=ry;exact PySem.EqMixed.eq_str_int (ZC I q (by simp))
    |str j=>obtain⟨t',rfl⟩:=ry;exact eq_str (ZC I q Zf0)
    |_=>exact absurd (show false=true from hs) Bool.false_ne_true
  |byt i=>
    obtain⟨t,rfl⟩:=rx;cases y with
    |byt j=>obtain⟨t',rfl⟩:=ry;exact PySem.W.eq_bytes (ZC I q Zf2)
    |_=>exact absurd (show false=true from hs) Bool.false_ne_true
  |_=>cases y <;> exact absurd (show false=true from hs) Bool.false_ne_true
theorem ZfH:OpR X (compareOp .NotEq) rNe:=by
  intro pins s σ H x y v u Q I rx ry h;obtain⟨hs,q⟩:=h;cases x with
  |non=>
    cases rx;cases y with
    |non=>cases ry;exact PySem.EqNone.ne_none_none (ZC I q (by simp))
    |bl j=>cases ry;exact PySem.EqNone.ne_none_bool (ZC I q (by simp))
    |int j=>obtain⟨t',rfl⟩:=ry;exact PySem.EqNone.ne_none_int (ZC I q (by simp))
    |str j=>obtain⟨t',rfl⟩:=ry;exact PySem.EqNone.ne_none_str (ZC I q (by simp))
    |_=>exact absurd (show false=true from hs) Bool.false_ne_true
  |bl i=>
    cases rx;cases y with
    |non=>cases ry;exact PySem.EqNone.ne_bool_none (ZC I q (by simp))
    |bl j=>cases ry;exact ne_bool (ZC I q (congrArg not ZhS))
    |str j=>obtain⟨t',rfl⟩:=ry;exact PySem.EqMixed.ne_bool_str (ZC I q (by simp))
    |_=>exact absurd (show false=true from hs) Bool.false_ne_true
  |int i=>
    obtain⟨t,rfl⟩:=rx;cases y with
    |non=>cases ry;exact PySem.EqNone.ne_int_none (ZC I q (by simp))
    |int j=>obtain⟨t',rfl⟩:=ry;exact ne_int (ZC I q (congrArg not Zf1))
    |str j=>obtain⟨t',rfl⟩:=ry;exact PySem.EqMixed.ne_int_str (ZC I q (by simp))
    |_=>exact absurd (show false=true from hs) Bool.false_ne_true
  |str i=>
    obtain⟨t,rfl⟩:=rx;cases y with
    |non=>cases ry;exact PySem.EqNone.ne_str_none (ZC I q (by simp))
    |bl j=>cases ry;exact PySem.EqMixed.ne_str_bool (ZC I q (by simp))
    |int j=>obtain⟨t',rfl⟩:=ry;exact PySem.EqMixed.ne_str_int (ZC I q (by simp))
    |str j=>obtain⟨t',rfl⟩:=ry;exact ne_str (ZC I q (congrArg not Zf0))
    |_=>exact absurd (show false=true from hs) Bool.false_ne_true
  |byt i=>
    obtain⟨t,rfl⟩:=rx;cases y with
    |byt j=>obtain⟨t',rfl⟩:=ry;exact PySem.W.ne_bytes (ZC I q (congrArg not Zf2))
    |_=>exact absurd (show false=true from hs) Bool.false_ne_true
  |_=>cases y <;> exact absurd (show false=true from hs) Bool.false_ne_true
theorem Za0:OpR X (compareOp .Lt) (rI0 λ i j => .bl (decide (i<j))):=opB0 λ _ _ _ _ _ _ _ q=>lt_int q
theorem ZfI:OpR X (compareOp .LtE) (rI0 λ i j => .bl (decide (i<=j))):=opB0 λ _ _ _ _ _ _ _ q=>le_int q
theorem JP:OpR X (compareOp .Gt) (rI0 λ i j => .bl (decide (j<i))):=opB0 λ _ _ _ _ _ _ _ q=>gt_int q
theorem op_ge:OpR X (compareOp .GtE) (rI0 λ i j => .bl (decide (j<=i))):=opB0 λ _ _ _ _ _ _ _ q=>ge_int q
theorem Zgl:OpR X (compareOp .Lt) (λ x y H Q=>∃ i j,x = .str i/\y = .str j/\Q (.bl (decide (i.cps.toList<j.cps.toList))) H):=by
 intro pins s σ H x y v u Q I rx ry h;obtain⟨i,j,rfl,rfl,q⟩:=h;obtain⟨t,rfl⟩:=rx;obtain⟨t',rfl⟩:=ry;exact lt_str (ZC I q rfl)
theorem Zgn:OpR X (compareOp .In) (λ x y H Q=>∃ i j,x = .str i/\y = .str j/\Q (.bl (!(Builtin.Str.occurrences j i 0 j.length 1).isEmpty)) H):=by
 intro pins s σ H x y v u Q I rx ry h;obtain⟨i,j,rfl,rfl,q⟩:=h;obtain⟨t,rfl⟩:=rx;obtain⟨t',rfl⟩:=ry;exact in_str (ZC I q rfl)
theorem Zt (b:Expr){op:CmpOp}(h:op ≠ .In:=by decide)(h2:op ≠ .NotIn:=by decide):behindInMarks op b=false:=by
 have e1:(op == CmpOp.In)=false:=by cases op <;> first|rfl|exact absurd rfl h
 have e2:(op == CmpOp.NotIn)=false:=by cases op <;> first|rfl|exact absurd rfl h2
 cases b <;> simp[behindInMarks,e1,e2]
theorem ZdL {op:CmpOp}{r:R2}(ho:OpR X (compareOp op) r)(ha:PE X a ta)(hb:PE X b tb)(hm:behindInMarks op b=false):PE X (.Compare a [op] [b] pos) (tOp r ta tb):=by
 refine⟨?_⟩;intro pins s σ H Q I h;exact wpAny_Compare1 (binT ha hb I h λ v u s2 x y H2 I2 rx ry q=>ho pins s2 σ H2 x y v u Q I2 rx ry q) hm
noncomputable def tTest (t:TE):TT:=λ σ H Q=>t σ H λ x H'=>∃ k,x = .bl k/\Q k H'
theorem Zm {op:CmpOp}{r:R2}(ho:OpR X (compareOp op) r)(ha:PE X a ta)(hb:PE X b tb)(hm:behindInMarks op b=false):PT X (.Compare a [op] [b] pos) (tTest (tOp r ta tb)):=by
  refine⟨?_⟩;intro pins s σ H Q I h;refine wpAny_isTrue_Compare1 (thn (ha pins s σ H _ I h) λ v s1 ⟨x,H1,I1,r1,q1⟩=>thn (hb pins s1 σ H1 _ I1 q1) λ u s2 ⟨y,H2,I2,r2,q2⟩=>
    thn (ho pins s2 σ H2 x y v u _ I2 r1 r2 q2) λ c s3 ⟨z,H3,I3,r3,k,e,q3⟩=>?_) hm
  subst e;cases r3;exact wpAny_truthy_bool ⟨H3,I3,q3⟩
noncomputable def tChain (r r':R2)(ta tb tc:TE):TE:=λ σ H Q=>ta σ H λ x H1=>tb σ H1 λ y H2=>r x y H2 λ z H3=>∃ k,z = .bl k /\
 (if k=true then tc σ H3 λ w' H4=>r' y w' H4 Q else Q (.bl false) H3)
theorem Zes {op op':CmpOp}{r r':R2}(ho:OpR X (compareOp op) r)(ho':OpR X (compareOp op') r')(ha:PE X a ta)(hb:PE X b tb)(hc:PE X c tc)(hm:lastMarks [op,op'] [b,c]=false:=by with_unfolding_all rfl):PE X (.Compare a [op,op'] [b,c] pos) (tChain r r' ta tb tc):=by
  refine⟨?_⟩;intro pins s σ H Q I h;refine Compare_chain (thn (ha pins s σ H _ I h) λ v s1 ⟨x,H1,I1,r1,q1⟩=>chain_link (thn (hb pins s1 σ H1 _ I1 q1) λ u s2 ⟨y,H2,I2,r2,q2⟩=>
    thn (ho pins s2 σ H2 x y v u _ I2 r1 r2 q2) λ d s3 ⟨z,H3,I3,r3,k,e,q3⟩=>?_)) hm
  subst e;cases r3;refine wpAny_truthy_bool ?_;cases k with
  |false=>exact ite_ff ⟨.bl false,H3,I3,rfl,q3⟩
  |true=>exact ite_tt (chain_last (thn (hc pins s3 σ H3 _ I3 q3) λ w' s4 ⟨z',H4,I4,r4,q4⟩=>ho' pins s4 σ H4 y z' u w' Q I4 r2 r4 q4))
noncomputable def TruV (K:Frag)(x:V)(H:Hp)(k:Bool):Prop:=
  match x with
  |.non=>k=false
  |.bl b=>k=b
  |.int i=>k=(i != 0)
  |.str y=>y.length<=sizeLine/\k=((y.length:Int) != 0)
  |.byt y=>y.size<=sizeLine/\k=((y.size:Int) != 0)
  |.ref p=>(∃ xs,SqL K H p xs/\k = !xs.isEmpty)\/(∃ xs,SqT K H p xs/\k = !xs.isEmpty)\/∃ kvs,H p=some (.dK kvs)/\k = !kvs.isEmpty
  |_=>False
theorem Zfl {κ:Type}{kvs:List (κ×V)}{vs:List (κ×Value)}(r:KV kvs vs):(!vs.isEmpty) = !kvs.isEmpty:=by
 cases r <;> rfl
theorem ZcO {xs:List V}{its:List Value}(r:ZF xs its):(!its.toArray.isEmpty) = !xs.isEmpty:=by
 cases r <;> simp
theorem Zbj:(sizeLine:Nat)<2 ^ 63:=by rw[sizeLine_eq];decide
theorem tru_ok:TruR X (λ x H Q=>∃ k,TruV X.K x H k/\Q k H):=by
  intro pins s σ H x v Q I rx h;obtain⟨k,e,q⟩:=h;have hl:=Zbj;have hs:sizeLine=16777216:=sizeLine_eq;cases x with
  |non=>
    cases rx;have e':k=false:=e;subst e';exact truthy_none ⟨H,I,q⟩
  |bl b=>
    cases rx;have e':k=b:=e;subst e';exact wpAny_truthy_bool ⟨H,I,q⟩
  |int i=>
    obtain⟨t,rfl⟩:=rx;have e':k=(i != 0):=e;subst e';exact PySem.P.truthy_int ⟨H,I,q⟩
  |str y=>
    obtain⟨t,rfl⟩:=rx;obtain⟨hy,e'⟩:y.length<=sizeLine/\k=((y.length:Int) != 0):=e;subst e';exact PySem.P.truthy_str (by omega) ⟨H,I.tok _,q⟩
  |byt y=>
    obtain⟨t,rfl⟩:=rx;obtain⟨hy,e'⟩:y.size<=sizeLine/\k=((y.size:Int) != 0):=e;subst e';exact PySem.W.truthy_bytes (by omega) ⟨H,I.tok _,q⟩
  |ref p=>
    cases rx;have e':(∃ xs,SqL X.K H p xs/\k = !xs.isEmpty)\/(∃ xs,SqT X.K H p xs/\k = !xs.isEmpty)\/∃ kvs,H p=some (.dK kvs)/\k = !kvs.isEmpty:=e;rcases e' with ⟨xs,hx,e'⟩|⟨xs,hx,e'⟩|⟨kvs,hx,e'⟩
    . subst e';obtain⟨its,r,pl,hz⟩:=I.list hx;have hlen:=r.length;exact wpAny_truthy_list pl.isList (by simp only[size_toArray];omega) ⟨H,I.tok _,by rw[ZcO r];exact q⟩
    . subst e';obtain⟨its,r,pl,hz⟩:=I.tuple hx;have hlen:=r.length;exact truthy_tuple pl (by simp only[size_toArray];omega) ⟨H,I.tok _,by rw[ZcO r];exact q⟩
    . subst e';obtain⟨hz,hS,vs,r,m⟩:kvs.length<=sizeLine/\(p == sysModules)=false/\∃ vs,KV kvs vs/\s.heap.DictOf (ZM X.prog X.w) p vs:=I.hok p _ hx;have hlen:kvs.length=vs.length:=Paired.length r;exact wpAny_truthy_dict hS m (by omega) ⟨H,I.tok _,by rw[Zfl r];exact q⟩
  |_=>exact(show False from e).elim
theorem ZaX (ha:PE X a ta)(he:∀ whole,isTrue a X.env whole=(do let v <- whole;standAt a.pos;holding [v] (truthy v))) :
    PT X a (λ σ H Q=>ta σ H λ x H'=>∃ k,TruV X.K x H' k/\Q k H'):=by
  refine⟨?_⟩;intro pins s σ H Q I h;exact isTrue_plain (thn (ha pins s σ H _ I h) λ v s1 ⟨x,H1,I1,r1,q1⟩=>tru_ok pins s1 σ H1 x v Q I1 r1 q1) (he _)
theorem ZL:OpR X (binaryOp .Add) (λ x y H Q=>∃ i j,x = .str i/\y = .str j/\i.length+j.length<=sizeLine/\Q (.str (i++j)) H):=by
 intro pins s σ H x y v u Q I rx ry h;obtain⟨i,j,rfl,rfl,hz,q⟩:=h;obtain⟨t,rfl⟩:=rx;obtain⟨t',rfl⟩:=ry;exact add_str (λ t' tk=>⟨.str (i++j),H,I.tok _,⟨_,rfl⟩,q⟩) hz
theorem X9 {x:V}{us:List Value}(r:ZF [x] us):∃ u,us=[u]/\Zw x u:=by
  cases r with
  |cons r1 r2=>cases r2;exact⟨_,rfl,r1⟩
theorem vals2 {x y:V}{us:List Value}(r:ZF [x,y] us):∃ u w',us=[u,w']/\Zw x u/\Zw y w':=by
  cases r with
  |cons r1 r2=>
    cases r2 with
    |cons r3 r4=>cases r4;exact⟨_,_,rfl,r1,r3⟩
theorem Zdo (hc:X.calm=true):Xk X (.builtin "max") (λ xs H Q=>∃ i j,xs=[.int i, .int j]/\Q (.int (if j>i then j else i)) H):=by
  intro pins s σ H xs us Q I r h;obtain⟨i,j,rfl,q⟩:=h;obtain⟨u,w',rfl,⟨t,rfl⟩,⟨t',rfl⟩⟩:=vals2 r;refine max_two_ints (I.ok.hd hc) λ h' tk k=>⟨_,H,I.kept k,?_,q⟩
  by_cases hj:j>i
  . rw[if_pos hj,if_pos hj];exact⟨_,rfl⟩
  . rw[if_neg hj,if_neg hj];exact⟨_,rfl⟩
theorem ZgI (hc:X.calm=true):Xk X (.builtin "min") (λ xs H Q=>∃ i j,xs=[.int i, .int j]/\Q (.int (if j<i then j else i)) H):=by
  intro pins s σ H xs us Q I r h;obtain⟨i,j,rfl,q⟩:=h;obtain⟨u,w',rfl,⟨t,rfl⟩,⟨t',rfl⟩⟩:=vals2 r;refine min_two_ints (I.ok.hd hc) λ h' tk k=>⟨_,H,I.kept k,?_,q⟩
  by_cases hj:j<i
  . rw[if_pos hj,if_pos hj];exact⟨_,rfl⟩
  . rw[if_neg hj,if_neg hj];exact⟨_,rfl⟩
theorem X6:Xk X (.type "str") (λ xs H Q=>∃ i,xs=[.int i]/\i.natAbs.log2<1920/\Q (.str (toString i)) H):=by
 intro pins s σ H xs us Q I r h;obtain⟨i,rfl,hz,q⟩:=h;obtain⟨u,rfl,t,rfl⟩:=X9 r;exact PySem.P.str_of_int hz ⟨.str _,H,I.tok _,⟨_,rfl⟩,q⟩
noncomputable def LenV (K:Frag)(x:V)(H:Hp)(n:Nat):Prop:=
  match x with
  |.str y=>y.length<=sizeLine/\n=y.length
  |.byt y=>y.size<=sizeLine/\n=y.size
  |.ref p=>(∃ xs,SqL K H p xs/\n=xs.length)\/∃ xs,SqT K H p xs/\n=xs.length
  |_=>False
theorem Zy:Xk X (.builtin "len") (λ xs H Q=>∃ x n,xs=[x]/\LenV X.K x H n/\Q (.int n) H):=by
  intro pins s σ H xs us Q I r h;obtain⟨x,n,rfl,e,q⟩:=h;obtain⟨u,rfl,rx⟩:=X9 r;have hl:=Zbj;have hs:sizeLine=16777216:=sizeLine_eq;cases x with
  |str y=>
    obtain⟨t,rfl⟩:=rx;obtain⟨hy,e'⟩:y.length<=sizeLine/\n=y.length:=e;subst e';exact len_str (by omega) ⟨.int _,H,I.tok _,⟨_,rfl⟩,q⟩
  |byt y=>
    obtain⟨t,rfl⟩:=rx;obtain⟨hy,e'⟩:y.size<=sizeLine/\n=y.size:=e;subst e';exact PySem.W.len_bytes (by omega) ⟨.int _,H,I.tok _,⟨_,rfl⟩,q⟩
  |ref p=>
    cases rx;have e':(∃ xs,SqL X.K H p xs/\n=xs.length)\/∃ xs,SqT X.K H p xs/\n=xs.length:=e;rcases e' with ⟨xs,hx,e'⟩|⟨xs,hx,e'⟩
    . subst e';obtain⟨its,r',pl,hz⟩:=I.list hx;have hlen:=r'.length;exact Calls.call_len_list pl.isList (by simp only[size_toArray];omega) ⟨.int xs.length,H,I.tok _,⟨_,by simp only[size_toArray];rw[hlen]⟩,q⟩
    . subst e';obtain⟨its,r',pl,hz⟩:=I.tuple hx;have hlen:=r'.length;exact len_tuple pl (by simp only[size_toArray];omega) ⟨.int xs.length,H,I.tok _,⟨_,by simp only[size_toArray];rw[hlen]⟩,q⟩
  |_=>exact(show False from e).elim
end
open PySem PySem.Spec PyProof.Rows
structure ObjM (h:Heap)(x dx C:Addr)(mA:Str->Option Value):Prop where
  obj:h.get? x=some (instObj C dx)
  ns:h.Ns1 dx mA
  ne:dx≠x
theorem Zgw {h:Heap}{dx:Addr}{mA:Str->Option Value}(n:h.Ns1 dx mA):∃ od,h.get? dx=some od/\∀ name,lookIn name od=some (mA name):=by
  obtain⟨o,es,ep,ho,hd,hk,_,hm⟩:=n;refine⟨o,ho,λ name=>?_⟩;have e:=hm name;unfold nsFind findBy at e;rw[<- Array.find?_toList]at e;unfold lookIn;rw[hd];dsimp only;split
  . rename_i y q;rw[q]at e;exact congrArg some e
  . rename_i q;rw[q]at e;have a:es.toList.any (·.refKey)=false:=by
      rw[List.any_eq_false];intro y hy;obtain⟨z,t,hkey⟩:=hk y (Array.mem_toList_iff.mp hy);simp[DictEntry.refKey,hkey]
    have a':¬ es.toList.any (·.refKey)=true:=by rw[a];exact Bool.false_ne_true
    rw[if_neg a'];exact congrArg some e
theorem ObjM.look {h:Heap}{x dx C:Addr}{mA:Str->Option Value}(I:ObjM h x dx C mA):∃ od,PySem.W.InstAt h x (instObj C dx) C (some od)/\∀ name,lookIn name od=some (mA name):=
 let ⟨od,ho,hl⟩:=Zgw I.ns
 ⟨od,⟨I.obj,rfl,rfl,ho⟩,hl⟩
section
variable {prog:Program}{w:World}{A:Around}{E:Value->Shared->Prop}{s:Shared}{K:Frag}{x dx C f:Addr}{mA:Str->Option Value}{name:Str}{v:Value}
theorem ZiG {expr:Bool}{Q:Value->Shared->Prop}(X:K.In s.heap)(I:ObjM s.heap x dx C mA)(hg:plainGet K C name=true)(hh:hasDictIn K C=true)(ha:findIn K (.ref C) name=some none)(hv:mA name=some v)(hv':PySem.W.handedIn v=true)(h:Q v { s with toks:=s.toks+1 }) :
    wpAny (model prog w) A (getAttr (.ref x) name expr) Q E s:=by
  obtain⟨od,J,hl⟩:=I.look;exact PySem.W.get_value X J (PySem.W.plainGet_of hg).1 (PySem.W.findObj_own hh ha rfl (by rw[hl,hv])) hv' h
theorem ZhK {pl:Sem Bool}{Q:Value×List Value->Shared->Prop}(X:K.In s.heap)(I:ObjM s.heap x dx C mA)(hg:plainGet K C name=true)(hf:findIn K (.ref C) name=some (some (.ref f)))(ht:isFn K (.ref f)=true)(hv:mA name=none)(h:Q (.ref f,[.ref x]) s) :
    wpAny (model prog w) A (getMethod (.ref x) name pl) Q E s:=by
  obtain⟨od,J,hl⟩:=I.look;exact PySem.W.method_fn X J (PySem.W.plainGet_of hg).1 (PySem.W.plainGet_of hg).2 hf (beq_iff_eq.mp ht) (by show(lookIn name od).map (·.isSome)=some false;rw[hl,hv];rfl) h
theorem Zib {ns:List Str}{Q:Unit->Shared->Prop}(X:K.In s.heap)(I:ObjM s.heap x dx C mA)(hs:findIn K (.ref C) "__setattr__"=some (some (.builtin "object.__setattr__")))(hp:plainOver K C=true)(ht:PySem.W.takerIn K C name=some none)(hh:hasDictIn K C=true)(hw:PySem.Within mA ns)(hsz:ns.length<=sizeLine)(h:∀ h',ObjM h' x dx C (λ y=>if y=name then some v else mA y)->Heap.SameBut dx s.heap h'->Q () { s with heap:=h',toks:=s.toks+2 }) :
    wpAny (model prog w) A (setAttr (.ref x) name v) Q E s:=by
  obtain⟨od,J,hl⟩:=I.look;refine PySem.W.set_plain X J hs (PySem.W.osa_open (s:={ s with toks:=s.toks+1 }) (r:=none) X J hp ht λ b=>?_);obtain⟨cd,hc,hd'⟩:=PySem.W.any_some hh;have hx:s.heap.get? x=some ⟨.ref C,some dx, .plain,#[]⟩:=I.obj;refine wpAny_bind (wpAny_pure (wpAny_bind (wpAny_bind (wpAny_loadPart hx (wpAny_bind (PySem.W.Looks.here (s:={ s with toks:=s.toks+1 }) (PySem.W.looks_clsIn X hc) ?_))))));rw[hd'];refine wpAny_pure (a:=some dx) (wpAny_bind (wpAny_pure (wpAny_bind ?_)));refine wpAny_nsSet1 (s:={ s with toks:=s.toks+1 }) I.ns λ h' hn2 hs2=>?_;obtain⟨oD,esD,epD,hoD,hdD,hcD⟩:=hn2.count (PySem.Within.cons name v hw);refine wpAny_bind (wpAny_lookBehind hoD (by rw[hdD];exact pastItsLine_dict (le_trans hcD (by rw[length_cons];omega))) ?_);exact wpAny_pure (h _ ⟨(hs2.2 _ (Ne.symm I.ne)).trans I.obj,hn2,I.ne⟩ hs2)
theorem Zhw {R:Result->Shared->Prop}{vs:List Value}{kw:List (Str×Value)}(X:K.In s.heap)(hm:makesIn K C=true)(hi:findIn K (.ref C) "__init__"=some (some (.ref f)))(hf:PySem.W.typeIn K (.ref f)=some (.type "function"))(h:codeAny (model prog w) (A.under (.builtin "type.__call__" ⟨.ref C::vs,kw⟩)) (.call (.ref f) ⟨.ref (s.heap.objs.size+1)::vs,kw⟩) (PySem.W.InitBack (s.heap.objs.size+1) R)
      { s with heap:=(s.heap.push emptyDict).push (instObj C s.heap.objs.size) }) :
    codeAny (model prog w) A (.call (.ref C) ⟨vs,kw⟩) R s:=by
  obtain⟨hh,g,d,t,os⟩:=s;exact PySem.W.make_core (PySem.W.makes_of X hm) (PySem.W.looks_findIn X hi) (λ self=>PySem.W.bind_fn X self hf) (.inl rfl) h
end
noncomputable def JJ (f:Str)(v:V):List (Str×V)->List (Str×V)
  |[]=>[(f,v)]
  |(g,x)::r=>if g=f then (g,v)::r else (g,x)::JJ f v r
theorem Zbv (f g:Str)(v:V):∀ fs:List (Str×V),(JJ f v fs).lookup g=if g=f then some v else fs.lookup g
  | []=>by
    show List.lookup g [(f,v)]=_
    by_cases h:g=f
    . have hb:(g == f)=true:=beq_iff_eq.mpr h;simp only[List.lookup,hb,if_pos h]
    . have hb:(g == f)=false:=beq_eq_false_iff_ne.mpr h;simp only[List.lookup,hb,if_neg h]
  | (k,x)::r=>by
    have ih:=Zbv f g v r;rw[show JJ f v ((k,x)::r)=(if k=f then (k,v)::r else (k,x)::JJ f v r) from rfl]
    by_cases hk:k=f
    . rw[if_pos hk]
      by_cases h:g=k
      . have hb:(g == k)=true:=beq_iff_eq.mpr h;simp only[List.lookup,hb,if_pos (h.trans hk)]
      . have hb:(g == k)=false:=beq_eq_false_iff_ne.mpr h;simp only[List.lookup,hb,if_neg (λ e:g=f=>h (e.trans hk.symm))]
    . rw[if_neg hk]
      by_cases h:g=k
      . have hb:(g == k)=true:=beq_iff_eq.mpr h;simp only[List.lookup,hb,if_neg (λ e:g=f=>hk (h.symm.trans e))]
      . have hb:(g == k)=false:=beq_eq_false_iff_ne.mpr h;simp only[List.lookup,hb];exact ih
theorem Zbk (f:Str)(v:V):∀ fs:List (Str×V),f∈(JJ f v fs).map (·.1)/\∀ g,g∈fs.map (·.1)->g∈(JJ f v fs).map (·.1)
  |[]=>⟨by simp[JJ],λ g h=>by simp at h⟩
  | (k,x)::r=>by
    obtain⟨i1,i2⟩:=Zbk f v r;rw[show JJ f v ((k,x)::r)=(if k=f then (k,v)::r else (k,x)::JJ f v r) from rfl]
    by_cases hk:k=f
    . rw[if_pos hk];subst hk;exact⟨by simp,λ g h=>by simpa using h⟩
    . rw[if_neg hk];refine⟨?_,λ g h=>?_⟩
      . rw[map_cons];exact mem_cons_of_mem _ i1
      . rw[map_cons]at h ⊢;rcases List.mem_cons.mp h with e|e
        . exact List.mem_cons.mpr (.inl e)
        . exact mem_cons_of_mem _ (i2 g e)
theorem Zbw (f:Str)(v:V):∀ fs:List (Str×V),(JJ f v fs).length<=fs.length+1
  |[]=>by simp[JJ]
  | (k,x)::r=>by
    have ih:=Zbw f v r;rw[show JJ f v ((k,x)::r)=(if k=f then (k,v)::r else (k,x)::JJ f v r) from rfl]
    by_cases hk:k=f
    . rw[if_pos hk,length_cons,length_cons];omega
    . rw[if_neg hk,length_cons,length_cons];omega
theorem Ji.some_of {v:V}{o:Option Value}(r:Ji (some v) o):∃ u,o=some u/\Zw v u:=by
  cases o with
  |none=>exact(show False from r).elim
  |some u=>exact⟨u,rfl,r⟩
theorem Ji.none_of {o:Option Value}(r:Ji none o):o=none:=by
  cases o with
  |none=>rfl
  |some u=>exact(show False from r).elim
theorem ZgE {v:V}{u:Value}(r:Zw v u):PySem.W.handedIn u=true:=by
  cases v with
  |non=>cases (show u=Value.none from r);rfl
  |bl b=>cases (show u=Value.bool b from r);rfl
  |int i=>obtain⟨t,e⟩:=(show ∃ t,u=Value.int i t from r);cases e;rfl
  |str x=>obtain⟨t,e⟩:=(show ∃ t,u=Value.str x t from r);cases e;rfl
  |byt b=>obtain⟨t,e⟩:=(show ∃ t,u=Value.bytes b t from r);cases e;rfl
  |flt b=>obtain⟨t,e⟩:=(show ∃ t,u=Value.float b t from r);cases e;rfl
  |ref a=>cases (show u=Value.ref a from r);rfl
  |ty n=>cases (show u=Value.type n from r);rfl
section
variable {P:Program}{w:World}{H H':Hp}{h h':Heap}{a C dx:Addr}{fs fs':List (Str×V)}
theorem ZbY (hok:HOk P w H h)(e:H a=some (.ins C dx fs)):∃ mA,ObjM h a dx C mA/\(∀ f,Ji (fs.lookup f) (mA f))/\PySem.Within mA (fs.map (·.1))/\fs.length<=1000/\H dx=some (.own a):=by
 obtain⟨d,z,ne,ob,mA,n,r,q⟩:=(show ZR P w H h a (.ins C dx fs) from hok a _ e);exact⟨mA,⟨ob,n,ne⟩,r,q,z,d⟩
end
structure Cls (K:Frag)(C:Addr):Prop where
  pg:plainGet K C Str.empty=true
  hd:hasDictIn K C=true
  po:plainOver K C=true
  sa:findIn K (.ref C) "__setattr__"=some (some (.builtin "object.__setattr__"))
theorem Cls.get {K:Frag}{C:Addr}(c:Cls K C)(f:Str):plainGet K C f=true:=c.pg
noncomputable def YG (K:Frag)(C:Addr)(f:Str):Prop:=findIn K (.ref C) f=some none
theorem YG.taker {K:Frag}{C:Addr}{f:Str}(n:YG K C f):PySem.W.takerIn K C f=some none:=by
 unfold PySem.W.takerIn;rw[show findIn K (.ref C) f=some none from n];rfl
structure Meth (K:Frag)(C:Addr)(m:Str)(f:Addr):Prop where
  at_:findIn K (.ref C) m=some (some (.ref f))
  fn:isFn K (.ref f)=true
  kp:keepIn K (.ref f)=true
section
variable {X:Cx}{pins:List (Addr×Obj)}{σ:St}{H:Hp}{s:Shared}{a C dx:Addr}{fs:List (Str×V)}{f:Str}{v:V}{A:Around}{E:Value->Shared->Prop}
theorem ZcP {b:Bool}{Q:Value->Shared->Prop}(I:Inv X pins σ H s)(e:H a=some (.ins C dx fs))(c:Cls X.K C)(n:YG X.K C f)(l:fs.lookup f=some v)(h:∀ u s',Inv X pins σ H s'->Zw v u->Q u s'):wpAny (model X.prog X.w) A (getAttr (.ref a) f b) Q E s:=by
 obtain⟨mA,O,r,_,_,_⟩:=ZbY I.hok e;obtain⟨u,hu,ru⟩:=Ji.some_of (v:=v) (o:=mA f) (by rw[<- l];exact r f);exact ZiG I.kIn O (c.get f) c.hd n hu (ZgE ru) (h u _ (I.tok _) ru)
theorem Zfp {m:Str}{g:Addr}{pl:Sem Bool}{Q:Value×List Value->Shared->Prop}(I:Inv X pins σ H s)(e:H a=some (.ins C dx fs))(c:Cls X.K C)(k:Meth X.K C m g)(l:fs.lookup m=none)(h:Q (.ref g,[.ref a]) s):wpAny (model X.prog X.w) A (getMethod (.ref a) m pl) Q E s:=by
 obtain⟨mA,O,r,_,_,_⟩:=ZbY I.hok e;have hn:mA m=none:=Ji.none_of (by rw[<- l];exact r m);exact ZhK I.kIn O (c.get m) k.at_ k.fn hn h
theorem Zca {y:V}{u:Value}{Q:Unit->Shared->Prop}(I:Inv X pins σ H s)(e:H a=some (.ins C dx fs))(c:Cls X.K C)(n:YG X.K C f)(hl:fs.length<1000)(ry:Zw y u)(h:∀ s',Inv X pins σ (upd H a (.ins C dx (JJ f y fs))) s'->Q () s'):wpAny (model X.prog X.w) A (setAttr (.ref a) f u) Q E s:=by
  obtain⟨mA,O,r,wi,_,ho⟩:=ZbY I.hok e;have hz:(fs.map (·.1)).length<=sizeLine:=by rw[length_map,sizeLine_eq];omega
  refine Zib I.kIn O c.sa c.po n.taker c.hd wi hz λ h' O' sb=>h _ ?_;have hd:∃ o,h'.get? dx=some o:=let ⟨o,_,_,e',_⟩:=O'.ns;⟨o,e'⟩;refine I.write (x:=a) (e:=dx) (by rw[e];exact True.intro) (.inr ho) (λ b q hb z=>(sb.2 b hb).trans z) hd ?_;refine⟨by rw[Zc O.ne];exact ho,?_,O.ne,O'.obj,_,O'.ns,λ g=>?_,λ g hg=>?_⟩
  . have:=Zbw f y fs;omega
  . show Ji ((JJ f y fs).lookup g) (if g=f then some u else mA g);rw[Zbv]
    by_cases q:g=f
    . rw[if_pos q,if_pos q];exact ry
    . rw[if_neg q,if_neg q];exact r g
  . by_cases q:g=f
    . rw[q];exact(Zbk f y fs).1
    . refine(Zbk f y fs).2 g (wi g λ z=>hg ?_);show(if g=f then some u else mA g)=none;rw[if_neg q];exact z
theorem Inv.made (I:Inv X pins σ H s):Inv X pins σ (upd (upd H s.heap.objs.size (.own (s.heap.objs.size+1))) (s.heap.objs.size+1) (.ins C s.heap.objs.size []))
    { s with heap:=(s.heap.push emptyDict).push (instObj C s.heap.objs.size) }:=by
  have e1:(s.heap.push emptyDict).get? s.heap.objs.size=some emptyDict:=Heap.get?_push_size s.heap rfl;have e2:((s.heap.push emptyDict).push (instObj C s.heap.objs.size)).get? (s.heap.objs.size+1)=some (instObj C s.heap.objs.size):=by
    have:=Heap.get?_push_size (s.heap.push emptyDict) (o:=instObj C s.heap.objs.size) rfl
    rwa [Heap.size_push]at this
  have e3:(s.heap.push emptyDict).Ns s.heap.objs.size (λ _=>none):=⟨emptyDict,#[],_,e1,rfl,(λ e he=>absurd he (by simp)),λ _=>rfl⟩;have I1:=I.laid (a:=s.heap.objs.size) (o:=.own (s.heap.objs.size+1)) (h':=s.heap.push emptyDict) (t':=s.toks) (λ b u q=>Heap.get?_push_of_some _ q) (le_refl _) ⟨_,e1⟩;refine I1.laid (a:=s.heap.objs.size+1) (o:=.ins C s.heap.objs.size []) (t':=s.toks) (λ b u q=>Heap.get?_push_of_some _ q) (Nat.le_of_eq (Heap.size_push _ _)) ?_;have ne:s.heap.objs.size≠s.heap.objs.size+1:=ne_of_lt (Nat.lt_succ_self _);refine⟨by rw[Zc ne,Zb],zero_le _,ne,e2,λ _=>none,(Heap.Ns1.of_empty e3).at λ o q=>Heap.get?_push_of_some _ q,λ _=>True.intro,λ y hy=>absurd rfl hy⟩
theorem ZiN {prog:Program}{w:World}{env:Env}{e:Expr}{f:Str}{pos:Pos}{s:Shared}{Q:Value->Shared->Prop}(hb:attributeBase e f env (eval e env)=eval e env)(h:wpAny (model prog w) A (eval e env) (λ o s₁=>wpAny (model prog w) A (getAttr o f true) Q E s₁) E s):wpAny (model prog w) A (eval (.Attribute e f pos) env) Q E s:=
 Attribute_any_ h (by rw[arm_eval_Attribute,hb])
end
noncomputable def tFld (K:Frag)(ta:TE)(f:Str):TE:=λ σ H Q=>ta σ H λ x H1=>∃ a C dx fs v,x = .ref a/\H1 a=some (.ins C dx fs)/\Cls K C/\YG K C f/\fs.lookup f=some v/\Q v H1
noncomputable def sFld (K:Frag)(ta tv:TE)(f:Str):TS:=λ D σ H=>tv σ H λ y H1=>ta σ H1 λ x H2=>∃ a C dx fs,x = .ref a/\H2 a=some (.ins C dx fs)/\Cls K C/\YG K C f/\fs.length<1000 /\
 D.nx σ (upd H2 a (.ins C dx (JJ f y fs)))
noncomputable def InOp (X:Cx)(op:Operator)(rd:V->V->Hp->VK->Prop):Prop:=
 ∀(pins:List (Addr×Obj))(s:Shared)(σ:St)(H:Hp)(x y:V)(u v:Value)(Q:VK),Inv X pins σ H s->Zw x u->Zw y v->rd x y H Q->wpAny (model X.prog X.w) X.A (inplaceOp op u v) (EP X pins σ Q) X.xe s
noncomputable def Zid (K:Frag)(ta tv:TE)(rd:V->V->Hp->VK->Prop)(f:Str):TS:=λ D σ H=>ta σ H λ x H1=>∃ a C dx fs v,x = .ref a/\H1 a=some (.ins C dx fs)/\Cls K C/\YG K C f/\fs.lookup f=some v /\
 tv σ H1 λ y H2=>rd v y H2 λ z H3=>∃ dx' fs',H3 a=some (.ins C dx' fs')/\fs'.length<1000/\D.nx σ (upd H3 a (.ins C dx' (JJ f z fs')))
section
variable {X:Cx}{o e value:Expr}{f:Str}{pos pos' tpos:Pos}{ta tv:TE}
theorem ZI (he:PE X e ta)(hb:attributeBase e f X.env (eval e X.env)=eval e X.env):PE X (.Attribute e f pos) (tFld X.K ta f):=by
 refine⟨?_⟩;intro pins s σ H Q I h;refine ZiN hb (thn (he pins s σ H _ I h) λ u s1 zz9=>?_);obtain⟨x,H1,I1,rx,a,C,dx,fs,v,ex,ea,c,n,l,q⟩:=zz9;subst ex;obtain rfl:u=Value.ref a:=rx;exact ZcP I1 ea c n l λ u' s2 I2 ru=>⟨v,H1,I2,ru,q⟩
theorem Zbe (ha:PE X o ta)(hv:PE X value tv)(hs:swapsWith value (some (.Attribute o f pos')) pos.line X.env=pure false):PS X (.Assign [.Attribute o f pos'] value pos) (sFld X.K ta tv f):=by
 refine⟨?_⟩;intro pins s σ H D I h;refine plainObj_wpAny_Assign_Attribute (thn (hv pins s σ H _ I h) λ u s1 ⟨y,H1,I1,ry,q⟩=>thn (ha pins s1 σ H1 _ I1 q) λ ov s2 zz9=>?_) hs;obtain⟨x,H2,I2,rx,a,C,dx,fs,ex,ea,c,n,l,q2⟩:=zz9;subst ex;obtain rfl:ov=Value.ref a:=rx;exact Zca I2 ea c n l ry λ s3 I3=>⟨σ,_,I3,q2⟩
theorem Zgj {op:Operator}{rd:V->V->Hp->VK->Prop}(ha:PE X o ta)(hv:PE X value tv)(hop:InOp X op rd):PS X (.AugAssign (.Attribute o f tpos) op value pos) (Zid X.K ta tv rd f):=by
 refine⟨?_⟩;intro pins s σ H D I h;refine wpAny_AugAssign_AttributeAny (thn (ha pins s σ H _ I h) λ ov s1 zz9=>?_);obtain⟨x,H1,I1,rx,a,C,dx,fs,v,ex,ea,c,n,l,q⟩:=zz9;subst ex;obtain rfl:ov=Value.ref a:=rx;refine ZcP I1 ea c n l λ u s2 I2 ru=>thn (hv pins s2 σ H1 _ I2 q) λ w3 s3 ⟨y,H2,I3,ry,q3⟩=>thn (hop pins s3 σ H2 v y u w3 _ I3 ru ry q3) λ w4 s4 zz9=>?_;obtain⟨z,H3,I4,rz,dx',fs',ea',l',q4⟩:=zz9;exact Zca I4 ea' c n l' rz λ s5 I5=>⟨σ,_,I5,q4⟩
noncomputable def rAdd:V->V->Hp->VK->Prop:=λ x y H Q=>∃ i j,x = .int i/\y = .int j/\Q (.int (i+j)) H
theorem in_add:InOp X .Add rAdd:=by
 rintro pins s σ H x y u v Q I rx ry ⟨i,j,rfl,rfl,q⟩;obtain⟨t,rfl⟩:=(show ∃ t,u=Value.int i t from rx);obtain⟨t',rfl⟩:=(show ∃ t',v=Value.int j t' from ry);exact PyProof.Rows.iadd_int ⟨.int (i+j),H,I.tok _,⟨_,rfl⟩,q⟩
end
section
variable {X:Cx}{pins:List (Addr×Obj)}{σ:St}{H:Hp}{s:Shared}{A:Around}{E:Value->Shared->Prop}{Q:Value->Shared->Prop}{c:Value}{b:Bool}
inductive TyOf (K:Frag)(H:Hp):V->Value->Prop where
  | non:TyOf K H .non (.type "NoneType")
  | bl (x:Bool):TyOf K H (.bl x) (.type "bool")
  | int (i:Int):TyOf K H (.int i) (.type "int")
  | str (x:Str):TyOf K H (.str x) (.type "str")
  | flt (x:UInt64):TyOf K H (.flt x) (.type "float")
  | lst {a:Addr} {xs:List V} (e:H a=some (.lst xs)):TyOf K H (.ref a) (.type "list")
  | frz {a:Addr} {o:Obj} {xs:List V} (e:H a=some (.frz o (.lst xs))):TyOf K H (.ref a) (.type "list")
  | tup {a:Addr} {xs:List V} (e:H a=some (.tup xs)):TyOf K H (.ref a) (.type "tuple")
  | dK {a:Addr} {kvs:List (Key×V)} (e:H a=some (.dK kvs)):TyOf K H (.ref a) (.type "dict")
  | dT {a:Addr} {kvs:List (List Key×V)} (e:H a=some (.dT kvs)):TyOf K H (.ref a) (.type "dict")
  | ins {a C dx:Addr} {fs:List (Str×V)} (e:H a=some (.ins C dx fs)) (cl:Cls K C) (ha:findIn K (.ref C) "__class__"=some (some (.builtin "object.__class__")))
      (hn:PySem.W.specialIn K (.builtin "object.__class__") "__get__"=some (some (.builtin "getset_descriptor.__get__"))) (htk:PySem.W.takesIn K (.builtin "object.__class__")=some true)
      (hm:PySem.W.mroIn K C (.type "object")=some true):TyOf K H (.ref a) (.ref C)
theorem ZgB {x:V}{u t:Value}(I:Inv X pins σ H s)(rx:Zw x u)(ty:TyOf X.K H x t)(e:PySem.W.kitOne X.K t c=some b)(h:∀ tk,Q (.bool b) { s with toks:=tk }) :
    wpAny (model X.prog X.w) A (call (.builtin "isinstance") [u,c]) Q E s:=by
  cases ty with
  |non=>cases (show u=Value.none from rx);exact PySem.W.kia_one PySem.W.kitx_none I.kIn True.intro e (λ z=>nomatch z) h
  |bl y=>cases (show u=Value.bool y from rx);exact PySem.W.kia_one PySem.W.kitx_bool I.kIn True.intro e (λ z=>nomatch z) h
  |int i=>obtain⟨t,q⟩:=(show ∃ t,u=Value.int i t from rx);cases q;exact PySem.W.kia_one PySem.W.kitx_int I.kIn True.intro e (λ z=>nomatch z) h
  |str y=>obtain⟨t,q⟩:=(show ∃ t,u=Value.str y t from rx);cases q;exact PySem.W.kia_one PySem.W.kitx_str I.kIn True.intro e (λ z=>nomatch z) h
  |flt y=>obtain⟨t,q⟩:=(show ∃ t,u=Value.float y t from rx);cases q;exact PySem.W.kia_one PySem.W.kitx_float I.kIn True.intro e (λ z=>nomatch z) h
  |@lst a xs ea=>
    cases (show u=Value.ref a from rx);obtain⟨_,_,n,_,h1⟩:=(show ZR X.prog X.w H s.heap a (.lst xs) from I.hok a _ ea);exact PySem.W.kia_one PySem.W.kitx_list I.kIn ⟨_,h1,rfl⟩ e (λ z=>nomatch z) h
  |@frz a ob xs ea=>
    cases (show u=Value.ref a from rx);obtain⟨_,_,_,n,_,h1⟩:=(show ZR X.prog X.w H s.heap a (.frz ob (.lst xs)) from I.hok a _ ea);exact PySem.W.kia_one PySem.W.kitx_list I.kIn ⟨_,h1,rfl⟩ e (λ z=>nomatch z) h
  |@tup a xs ea=>
    cases (show u=Value.ref a from rx);obtain⟨_,_,_,p⟩:=(show ZR X.prog X.w H s.heap a (.tup xs) from I.hok a _ ea);obtain⟨o,h1,h2,_⟩:=p;exact PySem.W.kia_one PySem.W.kitx_tuple I.kIn ⟨o,h1,h2⟩ e (λ z=>nomatch z) h
  |@dK a kvs ea=>
    cases (show u=Value.ref a from rx);obtain⟨_,_,vs,_,p⟩:=(show ZR X.prog X.w H s.heap a (.dK kvs) from I.hok a _ ea);obtain⟨o,es,ep,h1,h2,_⟩:=p;exact PySem.W.kia_one PySem.W.kitx_dict I.kIn ⟨o,h1,h2.1⟩ e (λ z=>nomatch z) h
  |@dT a kvs ea=>
    cases (show u=Value.ref a from rx);obtain⟨_,_,xs,_,o,es,ep,h1,h2,_⟩:=(show ZR X.prog X.w H s.heap a (.dT kvs) from I.hok a _ ea);exact PySem.W.kia_one PySem.W.kitx_dict I.kIn ⟨o,h1,h2.1⟩ e (λ z=>nomatch z) h
  |@ins a C dx fs ea cl ha hn htk hm=>
    cases (show u=Value.ref a from rx);obtain⟨mA,O,_⟩:=ZbY I.hok ea;obtain⟨od,J,_⟩:=O.look;exact PySem.W.kia_one (PySem.W.kitx_own (cl.get _) cl.hd ha hn htk hm) I.kIn J e (λ z=>nomatch z) h
end
open PySem PySem.Spec PyProof.Rows
structure Room (k:Nat)(A:Around):Prop where
  hd:A.handled=none
  dp:A.depth+3 * k+5<recursionLimit
  un:A.units+16 * k+200<cLine
theorem Room.mono {j k:Nat}{A:Around}(r:Room k A)(h:j<=k):Room j A:=⟨r.hd,by have:=r.dp;omega,by have:=r.un;omega⟩
theorem Room.deeper {k:Nat}{A:Around}(r:Room (k+1) A)(env:Env):Room k (A.deeper env):=
 ⟨r.hd,by have:=r.dp;show A.depth+1+3 * k+5<_;omega,by have:=r.un;show A.units+3+16 * k+200<_;omega⟩
theorem Zfi {A:Around}{C:Addr}{us:List Value}{kw:List (Str×Value)}:(A.under (.builtin "type.__call__" ⟨.ref C::us,kw⟩)).depth=A.depth+1:=by
 first|rfl|simp[Around.under,Code.weight,Code.isCreation,Code.isGuard,Code.isCaller,Code.frames,Code.isFrame,guardIds]
theorem Zfh {A:Around}{C:Addr}{us:List Value}{kw:List (Str×Value)}:(A.under (.builtin "type.__call__" ⟨.ref C::us,kw⟩)).units=A.units+1:=by
 first|rfl|simp[Around.under,Code.cUnits,Code.frames,Code.isFrame]
theorem Room.make {k:Nat}{A:Around}(r:Room (k+1) A)(C:Addr)(us:List Value)(kw:List (Str×Value)):Room k (A.under (.builtin "type.__call__" ⟨.ref C::us,kw⟩)):=
 ⟨r.hd,by have:=r.dp;rw[Zfi];omega,by have:=r.un;rw[Zfh];omega⟩
theorem Room.depth {k:Nat}{A:Around}(r:Room k A):A.depth<recursionLimit:=by have:=r.dp;omega
theorem Room.units {k:Nat}{A:Around}(r:Room k A):A.units+64<cLine:=by have:=r.un;omega
noncomputable def tNil:TA:=λ _ H Q=>Q [] H
noncomputable def tCons (ta:TE)(tr:TA):TA:=λ σ H Q=>ta σ H λ x H1=>tr σ H1 λ xs H2=>Q (x::xs) H2
section
variable {X:Cx}{e:Expr}{es:List Expr}{te:TE}{t:TA}{pos:Pos}
theorem Zd:PA X [] tNil:=⟨λ _ _ _ _ H Q I h=>Calls.spliced_nil ⟨[],H,I, .nil,h⟩⟩
theorem Za (ha:PE X e te)(hr:PA X es t)(hs:starEach (e::es) X.env=(false,eval e X.env)::starEach es X.env:=by rfl):PA X (e::es) (tCons te t):=by
 refine⟨?_⟩;intro pos pins s σ H Q I h;rw[hs];show wpAny _ _ (spliced ((false,eval e X.env)::backTo pos (starEach es X.env))) _ _ s;refine Calls.spliced_cons (thn (ha pins s σ H _ I h) λ u s1 zz9=>?_);obtain⟨x,H1,I1,r1,q1⟩:=zz9;exact thn (hr pos pins s1 σ H1 _ I1 q1) λ us s2 ⟨xs,H2,I2,r2,q2⟩=>⟨x::xs,H2,I2, .cons r1 r2,q2⟩
noncomputable def tTup (t:TA):TE:=λ σ H Q=>t σ H λ xs H1=>xs.length<=sizeLine/\∀ p,H1 p=none->Q (.ref p) (upd H1 p (.tup xs))
noncomputable def tLst (t:TA):TE:=λ σ H Q=>t σ H λ xs H1=>xs.length<=sizeLine/\∀ p,H1 p=none->Q (.ref p) (upd H1 p (.lst xs))
theorem ZW {x1}(h:PA X es t):PE X (.Tuple es x1 pos) (tTup t):=by
 refine⟨?_⟩;intro pins s σ H Q I hq;refine wpAny_Tuple_spliced (thn (h pos pins s σ H _ I hq) λ us s1 ⟨xs,H1,I1,r,z,q⟩=>⟨by rw[<- r.length];exact z,?_⟩);have hf:H1 s1.heap.objs.size=none:=I1.hok.fresh (le_refl _);refine⟨.ref s1.heap.objs.size,upd H1 s1.heap.objs.size (.tup xs),I1.laid (t':=s1.toks) (λ b u e=>Heap.get?_push_of_some _ e) (le_refl _) ?_,rfl,q _ hf⟩;exact⟨z,us,r,⟨_,Heap.get?_push_size _ rfl,rfl,_,rfl⟩⟩
theorem Yt (h:PA X es t):PE X (.List es pos) (tLst t):=by
 refine⟨?_⟩;intro pins s σ H Q I hq;refine wpAny_List_spliced (thn (h pos pins s σ H _ I hq) λ us s1 ⟨xs,H1,I1,r,z,q⟩=>⟨by rw[<- r.length];exact z,?_⟩);have hf:H1 s1.heap.objs.size=none:=I1.hok.fresh (le_refl _);refine⟨.ref s1.heap.objs.size,upd H1 s1.heap.objs.size (.lst xs),I1.laid (t':=s1.toks) (λ b u e=>Heap.get?_push_of_some _ e) (le_refl _) ?_,rfl,q _ hf⟩;exact⟨z,us,0,r,Heap.get?_push_size _ rfl⟩
end
noncomputable abbrev Sp:=List V->Hp->VK->XK->Prop
noncomputable abbrev CXT:=List Env->Hp->Shared->XK->Value->Shared->Prop
structure Env0 (P:Program)(w:World)(K:Frag)(mg:Str->Option Value)(base:Heap)(A:Around)(outer:List Env)(s:Shared)(H:Hp):Prop where
  frames:A.frames=some outer
  mod:Mod K mg base
  bs:∀ b o,base.get? b=some o->s.heap.get? b=some o/\H b=none
  bsz:base.objs.size<=s.heap.objs.size
  funs:s.heap.FunFrames base outer
  frf:∀ b∈frs outer,H b=none
  hok:HOk P w H s.heap
  bare:AllBare s.gens
noncomputable def CE (outer:List Env)(P:Program)(w:World)(H:Hp)(s:Shared)(Q:VK)(u:Value)(s':Shared):Prop:=
 ∃ v H',s'.os=s.os/\AllBare s'.gens/\Un (frs outer) [] H H' s.heap s'.heap/\HOk P w H' s'.heap/\Zw v u/\Q v H'
noncomputable def CR (CX:CXT)(outer:List Env)(P:Program)(w:World)(H:Hp)(s:Shared)(Q:VK)(E:XK)(r:Result)(s':Shared):Prop:=
  match r with
  |.ok (.ret u)=>CE outer P w H s Q u s'
  |.ok _=>False
  |.error e=>CX outer H s E e s'
structure FnOk (P:Program)(w:World)(K:Frag)(mg:Str->Option Value)(base:Heap)(CX:CXT)(k:Nat)(f:Addr)(fd:FuncData)(ps:List Str)(sp:Sp):Prop where
  len:∀ vs H Q E,sp vs H Q E->vs.length=ps.length
  run:∀(A:Around)(outer:List Env)(s:Shared)(H:Hp)(args:Args)(us:List Value)(vs:List V)(Q:VK)(E:XK),Room k A->Env0 P w K mg base A outer s H->BindsTo s fd args (ps.zip us)->ZF vs us->sp vs H Q E ->
    codeAny (model P w) A (.call (.ref f) args) (CR CX outer P w H s Q E) s
theorem FnOk.mono {P:Program}{w:World}{K:Frag}{mg:Str->Option Value}{base:Heap}{CX:CXT}{j k:Nat}{f:Addr}{fd:FuncData}{ps:List Str}{sp:Sp}(F:FnOk P w K mg base CX j f fd ps sp)(h:j<=k) :
    FnOk P w K mg base CX k f fd ps sp:=⟨F.len,λ A outer s H args us vs Q E hr=>F.run A outer s H args us vs Q E (hr.mono h)⟩
theorem Env0.make {P:Program}{w:World}{K:Frag}{mg:Str->Option Value}{base:Heap}{A:Around}{outer:List Env}{s:Shared}{H:Hp}(e:Env0 P w K mg base A outer s H)(C:Addr)(us:List Value)(kw:List (Str×Value)) :
    Env0 P w K mg base (A.under (.builtin "type.__call__" ⟨.ref C::us,kw⟩)) outer s H:=⟨by first|exact e.frames|(simpa [Around.under,Code.envs,Code.isFrame,pushEnvs] using e.frames),e.mod,e.bs,e.bsz,e.funs,e.frf,e.hok,e.bare⟩
section
variable {X:Cx}{pins:List (Addr×Obj)}{σ:St}{H:Hp}{s s':Shared}
theorem Inv.env0 (I:Inv X pins σ H s):Env0 X.prog X.w X.K X.mg X.base X.A X.stack s H:=
 ⟨I.ok.frames,I.ok.mod,I.bs,le_trans I.ok.bsz I.sz,I.stack,I.stkFree,I.hok,I.bare⟩
theorem Inv.after {Q:VK}{u:Value}(I:Inv X pins σ H s)(h:CE X.stack X.prog X.w H s Q u s'):EP X pins σ Q u s':=by
 obtain⟨v,H',os,bare,un,hok,r,q⟩:=h;obtain⟨hh,g,d,t,os'⟩:=s';obtain rfl:os'=s.os:=os;exact⟨v,H',I.call (h':=hh) (g':=g) (d':=d) (t':=t) (ch:=[]) un hok bare (λ b z=>absurd z (by simp)),r,q⟩
end
noncomputable def ZgU (sp:Sp)(dvs:List V)(E:XK)(t:TA):TE:=λ σ H Q=>t σ H λ vs H1=>sp (vs++dvs) H1 Q E
noncomputable def ZgT (C:Addr)(m:Str)(sp:Sp)(dvs:List V)(E:XK)(ta:TE)(t:TA):TE:=λ σ H Q=>ta σ H λ x H1=>∃ a dx fs,x = .ref a/\H1 a=some (.ins C dx fs)/\fs.lookup m=none /\
 t σ H1 λ vs H2=>sp (x::(vs++dvs)) H2 Q E
noncomputable def Zfw (C:Addr)(sp:Sp)(dvs:List V)(E:XK)(t:TA):TE:=λ σ H Q=>t σ H λ vs H1=>∀ x dx,H1 x=none->H1 dx=none->dx≠x ->
 sp (.ref x::(vs++dvs)) (upd (upd H1 dx (.own x)) x (.ins C dx [])) (λ v H2=>v = .non/\Q (.ref x) H2) E
noncomputable def Xt (K:Frag)(fd:FuncData)(ps:List Str)(ds:List Value):Prop:=
 ∀(s:Shared)(us:List Value),K.In s.heap->(us++ds).length=ps.length->BindsTo s fd ⟨us,[]⟩ (ps.zip (us++ds))
theorem Xt.all {K:Frag}{fd:FuncData}{ps:List Str}(h:∀ us:List Value,us.length=ps.length->bindArgs fd ⟨us,[]⟩=pure (ps.zip us)):Xt K fd ps []:=λ s us _ hl=>by
 rw[append_nil]at hl ⊢;exact .of_eq (h us hl)
noncomputable def YF (CX:CXT)(X:Cx)(E:XK):Prop:=∀(pins:List (Addr×Obj))(σ:St)(H:Hp)(s:Shared)(e:Value)(s':Shared),Inv X pins σ H s->CX X.stack H s E e s'->X.xe e s'
section
variable {X:Cx}{CX:CXT}{k:Nat}{f C:Addr}{fd:FuncData}{ps:List Str}{sp:Sp}{dvs:List V}{ds:List Value}{E:XK}{x m:Str}{p pos apos:Pos}{e o:Expr}{es:List Expr}{ta:TE}{t:TA}
theorem Zg4 {pins:List (Addr×Obj)}{σ:St}{H:Hp}{s:Shared}{Q:VK}{us:List Value}{vs:List V}(F:FnOk X.prog X.w X.K X.mg X.base CX k f fd ps sp)(hr:Room k X.A)(hb:Xt X.K fd ps ds)(hd:ZF dvs ds)(hx:YF CX X E)(I:Inv X pins σ H s)(r:ZF vs us)(h:sp (vs++dvs) H Q E):wpAny (model X.prog X.w) X.A (call (.ref f) us) (EP X pins σ Q) X.xe s:=by
  have r2:ZF (vs++dvs) (us++ds):=r.append hd;have hl:(us++ds).length=ps.length:=by rw[<- r2.length];exact F.len _ _ _ _ h
  refine wpAny_call (codeAny_mono (F.run X.A X.stack s H ⟨us,[]⟩ (us++ds) (vs++dvs) Q E hr I.env0 (hb s us I.kIn hl) r2 h) λ r s' hq=>?_);cases r with
  |error e=>exact hx pins σ H s e s' I hq
  |ok fl=>
    cases fl with
    |ret u=>exact I.after hq
    |next=>exact False.elim hq
    |brk=>exact False.elim hq
    |cont=>exact False.elim hq
theorem ZfF (F:FnOk X.prog X.w X.K X.mg X.base CX k f fd ps sp)(hr:Room k X.A)(hg:Gl X x)(hm:X.mg x=some (.ref f))(hk:keepIn X.K (.ref f)=true)(hb:Xt X.K fd ps ds)(hd:ZF dvs ds)(hx:YF CX X E)(ha:PA X (e::es) t)(hdb:(x == ("__debug__":Str))=false:=by decide)(he:starEach (e::es) X.env=(false,eval e X.env)::starEach es X.env:=by rfl)(hpl:(backTo pos (starEach es X.env)).any (·.1)=false:=by rfl) :
    PE X (.Call (.Name x p) (e::es) [] pos) (ZgU sp dvs E t):=by
  refine⟨?_⟩;intro pins s σ H Q I h;refine wpAny_Call_Name_kw (X4 I hg hm ?_ hdb);refine PySem.W.callWith_K (h₀:=X.base) I.ok.mod.kin hk (thn (ha pos pins s σ H _ I h) λ us s1 ⟨vs,H1,I1,r,q⟩=>⟨I1.kIn,?_⟩) he hpl;exact Zg4 F hr hb hd hx I1 r q
theorem Ziq {pl:Sem Bool}(he:PE X o ta)(c:Cls X.K C)(hm:Meth X.K C m f)(F:FnOk X.prog X.w X.K X.mg X.base CX k f fd ps sp)(hr:Room k X.A)(hb:Xt X.K fd ps ds)(hd:ZF dvs ds)(hx:YF CX X E)(ha:PA X (e::es) t)(hst:starEach (e::es) X.env=(false,eval e X.env)::starEach es X.env:=by rfl)(hpl:(backTo pos (starEach es X.env)).any (·.1)=false:=by rfl)(ht:eval (.Call (.Attribute o m apos) (e::es) [] pos) X.env=(do
      let ov <- eval o X.env
      standAt apos.atName
      let (f,first) <- holding [ov] (getMethod ov m pl)
      callWith pos f first (backTo pos (starEach (e::es) X.env)) (backToKw pos (keywordEach [] X.env))):=by rfl) :
    PE X (.Call (.Attribute o m apos) (e::es) [] pos) (ZgT C m sp dvs E ta t):=by
  refine⟨?_⟩;intro pins s σ H Q I h;refine PySem.W.methodCall_KW (pl:=pl) (thn (he pins s σ H _ I h) λ u s1 zz9=>?_) ht;obtain⟨x,H1,I1,rx,a,dx,fs,ex,ea,l,q⟩:=zz9;subst ex;obtain rfl:u=Value.ref a:=rx;refine Zfp I1 ea c hm l ?_;refine PySem.W.callWith_K (first:=[.ref a]) (h₀:=X.base) I.ok.mod.kin hm.kp (thn (ha pos pins s1 σ H1 _ I1 q) λ us s2 ⟨vs,H2,I2,r,q2⟩=>⟨I2.kIn,?_⟩) hst hpl;exact Zg4 (us:=.ref a::us) (vs:=.ref a::vs) F hr hb hd hx I2 (.cons rfl r) q2
structure Mk (K:Frag)(C f:Addr):Prop where
  makes:makesIn K C=true
  init:findIn K (.ref C) "__init__"=some (some (.ref f))
  fn:isFn K (.ref f)=true
  kp:keepIn K (.ref C)=true
theorem Zeo {pins:List (Addr×Obj)}{σ:St}{H:Hp}{s:Shared}{Q:VK}{us:List Value}{vs:List V}(M:Mk X.K C f)(F:FnOk X.prog X.w X.K X.mg X.base CX k f fd ps sp)(hr:Room (k+1) X.A)(hb:Xt X.K fd ps ds)(hd:ZF dvs ds)(hx:YF CX X E)(I:Inv X pins σ H s)(r:ZF vs us)(h:∀ x dx,H x=none->H dx=none->dx≠x->sp (.ref x::(vs++dvs)) (upd (upd H dx (.own x)) x (.ins C dx [])) (λ v H2=>v = .non/\Q (.ref x) H2) E) :
    wpAny (model X.prog X.w) X.A (call (.ref C) us) (EP X pins σ Q) X.xe s:=by
  have hq:=h (s.heap.objs.size+1) s.heap.objs.size (I.hok.fresh (le_succ _)) (I.hok.fresh (le_refl _)) (ne_of_lt (Nat.lt_succ_self _));have I2:=Inv.made (C:=C) I;have r2:ZF (V.ref (s.heap.objs.size+1)::(vs++dvs)) (Value.ref (s.heap.objs.size+1)::(us++ds)):=.cons rfl (r.append hd);have hl:(Value.ref (s.heap.objs.size+1)::us++ds).length=ps.length:=by
    have e:=r2.length;rw[F.len _ _ _ _ hq]at e;exact e.symm
  refine wpAny_call (Zhw (f:=f) I.kIn M.makes M.init (beq_iff_eq.mp M.fn) (codeAny_mono (F.run _ X.stack _ _ ⟨Value.ref (s.heap.objs.size+1)::us,[]⟩ (Value.ref (s.heap.objs.size+1)::(us++ds)) _ _ E (hr.make C us [])
    (I2.env0.make C us []) (hb _ (Value.ref (s.heap.objs.size+1)::us) I2.kIn hl) r2 hq) λ r s' hq'=>?_))
  cases r with
  |error e=>exact hx pins σ _ _ e s' I2 hq'
  |ok fl=>
    cases fl with
    |ret u=>
      obtain⟨v,H',I3,rv,ev,q3⟩:=I2.after hq';subst ev;exact⟨rv,⟨V.ref (s.heap.objs.size+1),H',I3,rfl,q3⟩⟩
    |next=>exact False.elim hq'
    |brk=>exact False.elim hq'
    |cont=>exact False.elim hq'
theorem Zir (M:Mk X.K C f)(F:FnOk X.prog X.w X.K X.mg X.base CX k f fd ps sp)(hr:Room (k+1) X.A)(hg:Gl X x)(hm:X.mg x=some (.ref C))(hb:Xt X.K fd ps ds)(hd:ZF dvs ds)(hx:YF CX X E)(ha:PA X (e::es) t)(hdb:(x == ("__debug__":Str))=false:=by decide)(he:starEach (e::es) X.env=(false,eval e X.env)::starEach es X.env:=by rfl)(hpl:(backTo pos (starEach es X.env)).any (·.1)=false:=by rfl) :
    PE X (.Call (.Name x p) (e::es) [] pos) (Zfw C sp dvs E t):=by
  refine⟨?_⟩;intro pins s σ H Q I h;refine wpAny_Call_Name_kw (X4 I hg hm ?_ hdb);refine PySem.W.callWith_K (h₀:=X.base) I.ok.mod.kin M.kp (thn (ha pos pins s σ H _ I h) λ us s1 ⟨vs,H1,I1,r,q⟩=>⟨I1.kIn,?_⟩) he hpl;exact Zeo M F hr hb hd hx I1 r q
theorem Zhe (M:Mk X.K C f)(F:FnOk X.prog X.w X.K X.mg X.base CX k f fd ps sp)(hr:Room (k+1) X.A)(hg:Gl X x)(hm:X.mg x=some (.ref C))(hb:Xt X.K fd ps ds)(hd:ZF dvs ds)(hx:YF CX X E)(hdb:(x == ("__debug__":Str))=false:=by decide):PE X (.Call (.Name x p) [] [] pos) (Zfw C sp dvs E tNil):=by
 refine⟨?_⟩;intro pins s σ H Q I h;refine wpAny_Call_Name_kw (X4 I hg hm ?_ hdb);exact PySem.W.callWith_K0 I.kIn M.kp (Zeo (us:=[]) M F hr hb hd hx I .nil h)
end
noncomputable abbrev PKb (X:Cx)(kws:List Keyword)(t:TA):Prop:=
  ∀(pos:Pos)(pins:List (Addr×Obj))(s:Shared)(σ:St)(H:Hp)(Q:List V->Hp->Prop),Inv X pins σ H s->t σ H Q->wpAny (model X.prog X.w) X.A (evalAll ((backToKw pos (keywordEach kws X.env)).map (·.2))) (AP X pins σ Q) X.xe s
structure PK (X:Cx)(kws:List Keyword)(t:TA):Prop where
  go:PKb X kws t
instance {X:Cx}{kws:List Keyword}{t:TA}:CoeFun (PK X kws t) λ _=>PKb X kws t:=⟨PK.go⟩
section
variable {X:Cx}{CX:CXT}{k:Nat}{f C:Addr}{fd:FuncData}{ps ks:List Str}{sp:Sp}{E:XK}{x m:Str}{p pos apos kpos:Pos}{e o:Expr}{es:List Expr}{kws:List Keyword}{te ta:TE}{t tk:TA}{nm:Option Str}
variable {g:List Value->List Value->List Value}{gV:List V->List V->List V}
end
structure FnScope (N P:List Str)(sc:Scope):Prop where
  kind:sc.kind = .function
  co:sc.isCoroutine=false
  gen:sc.isGenerator=false
  nd:N.Nodup
  pre:N.take P.length=P
  par:∀ x∈P,sc.names.lookup x=some .local\/sc.names.lookup x=some .cell
  nofree:∀ y∈sc.names,y.2 ≠ .free
theorem Zdp {kindOf:Str->Option NameKind}{x:Str}:∀ {binds:List (Str×Value)} {m:Str->Option Value},(∀ v,(x,v)∉binds)->bindL kindOf binds m x=m x
  |[],_,_=>rfl
  | (n,v)::r,m,h=>by
    unfold bindL;rw[Zdp λ w hw=>h w (mem_cons_of_mem _ hw)];split
    . have:x≠n:=by rintro rfl;exact h v mem_cons_self
      simp[this]
    . rfl
theorem Zdr {kindOf:Str->Option NameKind}{x:Str}:∀ {binds:List (Str×Value)} {m:Str->Option Value},(∀ v,(x,v)∉binds)->bindC kindOf binds m x=m x
  |[],_,_=>rfl
  | (n,v)::r,m,h=>by
    unfold bindC;rw[Zdr λ w hw=>h w (mem_cons_of_mem _ hw)];split
    . rfl
    . have:x≠n:=by rintro rfl;exact h v mem_cons_self
      simp[this]
theorem Zdq {kindOf:Str->Option NameKind}{x:Str}{v:Value}:∀ {P:List Str} {vs:List Value} {i:Nat} {m:Str->Option Value},P.Nodup->P[i]? = some x->vs[i]? = some v->kindOf x=some .local ->
    bindL kindOf (P.zip vs) m x=some v
  |[],_,_,_,_,h,_,_=>by simp at h
  |_::_,[],_,_,_,_,h,_=>by simp at h
  | p::P,w::vs,0,m,nd,h1,h2,hk=>by
    simp at h1 h2;subst h1;subst h2;show bindL kindOf ((p,w)::P.zip vs) m p=_;unfold bindL;rw[Zdp λ v hv=>(List.nodup_cons.mp nd).1 (List.of_mem_zip hv).1,if_pos hk];simp
  | p::P,w::vs,i+1,m,nd,h1,h2,hk=>by
    show bindL kindOf ((p,w)::P.zip vs) m x=_;unfold bindL;exact Zdq (i:=i) (List.nodup_cons.mp nd).2 (by simpa using h1) (by simpa using h2) hk
theorem Zds {kindOf:Str->Option NameKind}{x:Str}{v:Value}:∀ {P:List Str} {vs:List Value} {i:Nat} {m:Str->Option Value},P.Nodup->P[i]? = some x->vs[i]? = some v->kindOf x≠some .local ->
    bindC kindOf (P.zip vs) m x=some v
  |[],_,_,_,_,h,_,_=>by simp at h
  |_::_,[],_,_,_,_,h,_=>by simp at h
  | p::P,w::vs,0,m,nd,h1,h2,hk=>by
    simp at h1 h2;subst h1;subst h2;show bindC kindOf ((p,w)::P.zip vs) m p=_;unfold bindC;rw[Zdr λ v hv=>(List.nodup_cons.mp nd).1 (List.of_mem_zip hv).1,if_neg hk];simp
  | p::P,w::vs,i+1,m,nd,h1,h2,hk=>by
    show bindC kindOf ((p,w)::P.zip vs) m x=_;unfold bindC;exact Zds (i:=i) (List.nodup_cons.mp nd).2 (by simpa using h1) (by simpa using h2) hk
noncomputable def ZaH (N:List Str)(vs:List V):St:=vs.map some++List.replicate (N.length - vs.length) none
noncomputable def YW (CX:CXT)(P:Program)(w:World)(K:Frag)(mg:Str->Option Value)(base:Heap)(N:List Str)(qual:Str)(scope:Scope)(f:Addr)(cd:Value)(A:Around)(outer:List Env)(s:Shared)(H:Hp)(E:XK):Cx where
 prog:=P
 w:=w
 K:=K
 mg:=mg
 base:=base
 A:=A.deeper (envOfC qual scope s.heap.objs.size f cd)
 N:=N
 s₀:=s
 H₀:=H
 env:=envOfC qual scope s.heap.objs.size f cd
 outer:=outer
 stack:=envOfC qual scope s.heap.objs.size f cd::outer
 ex:=[]
 calm:=true
 fn:=λ _=>true
 pn:=[]
 xe:=λ e s'=>wpAny (model P w) (A.deeper (envOfC qual scope s.heap.objs.size f cd)) (leaving (envOfC qual scope s.heap.objs.size f cd) e) (λ _ s''=>CX outer H s E e s'') (λ e' s''=>CX outer H s E e' s'') s'
theorem ZeP {sc:Scope}{n:Nat}{x:Str}(h:sc.names.lookup x=some .cell):∃ c,(cellsFrom n sc.names []).lookup x=some c:=by
 have q:=PySem.W.cellsFrom_some sc.names n [] (.inl h);exact Option.isSome_iff_exists.mp q
theorem ZgC {CX:CXT}{P:Program}{w:World}{K:Frag}{mg:Str->Option Value}{base:Heap}{N ps:List Str}{qual:Str}{scope:Scope}{f:Addr}{cd:Value}{A:Around}{outer:List Env}{s s1:Shared}{H:Hp}{E:XK}{us:List Value}{vs:List V}(S:FnScope N ps scope)(hd:A.handled=none)(e0:Env0 P w K mg base A outer s H)(hl:vs.length=ps.length)(r:ZF vs us)(x:InCallC s s.heap.objs.size (bindL (envOfC qual scope s.heap.objs.size f cd).kindOf (ps.zip us) λ _=>none) (cellsFrom (s.heap.objs.size+1) scope.names []) (bindC (envOfC qual scope s.heap.objs.size f cd).kindOf (ps.zip us) λ _=>none) s1) :
    Inv (YW CX P w K mg base N qual scope f cd A outer s H E) [] (ZaH N vs) H s1:=by
  have hpl:ps.length<=N.length:=by have:=congrArg List.length S.pre;rw[length_take]at this;omega
  obtain⟨h1,tk,rfl,hk⟩:=x.done;have noA:∀ b:Addr,b∉(YW CX P w K mg base N qual scope f cd A outer s H E).ex:=λ b z=>absurd (show b∈([]:List Addr) from z) (by simp);refine⟨⟨e0.mod,S.kind,rfl,rfl,le_refl _,λ y z c h1 h2=>?_,λ y hy=>?_,λ y c _ h=>?_,λ _=>hd,Around.frames_deeper e0.frames, .inr ⟨rfl,rfl⟩,λ b z=>absurd z (noA b),e0.bs,e0.bsz,λ b _ _=>noA b,λ b z=>absurd z (noA b),e0.funs,e0.frf⟩,
    rfl,e0.bare,Un.kept hk,⟨_,x.toInCall.ns,λ i y v h1 h2 h3=>?_⟩,λ y c h=>⟨_,x.cell y c h⟩,e0.hok.fresh (le_refl _),λ y c h=>?_,λ p hp=>absurd (show p∈([]:List (Addr×Obj)) from hp) (by simp),e0.hok.kept hk,?_⟩
  . exact name_of_addr x.apart (PySem.mem_of_lookup h1) (PySem.mem_of_lookup h2)
  . have hy:scope.names.lookup y=some .cell\/scope.names.lookup y=some .free:=hy;rcases hy with hy|hy
    . exact ZeP hy
    . exact absurd rfl (S.nofree _ (PySem.mem_of_lookup hy))
  . exact le_of_lt (x.above y c (PySem.mem_of_lookup h))
  . have hi:i<vs.length:=by
      unfold ZaH at h2
      by_cases hi:i<vs.length
      . exact hi
      . rw[getElem?_append_right (by simpa using hi)]at h2;rw[List.getElem?_replicate]at h2;split at h2 <;> cases h2
    have ha:vs[i]? = some v:=by
      unfold ZaH at h2;rw[getElem?_append_left (by simpa using hi),getElem?_map]at h2;cases e:vs[i]? with
      |none=>rw[e]at h2;cases h2
      |some a=>rw[e]at h2;cases h2;rfl
    obtain⟨u,hu,rv⟩:=r.get ha;have hp:ps[i]? = some y:=by
      rw[<- S.pre,List.getElem?_take_of_lt (by omega)];exact h1
    have ndP:ps.Nodup:=by rw[<- S.pre];exact S.nd.sublist (List.take_sublist _ _)
    refine⟨u,rv,?_⟩;rcases S.par y (mem_of_getElem? hp) with k|k
    . exact .inl ⟨k,Zdq ndP hp hu k⟩
    . obtain⟨c,e⟩:=ZeP (n:=s.heap.objs.size+1) k;refine .inr ⟨.inl k,c,e,?_⟩;have q:=x.cell y c e;rw[Zds ndP hp hu (by show scope.names.lookup y≠_;rw[k];decide)]at q;exact q
  . exact e0.hok.fresh (le_of_lt (x.above y c (PySem.mem_of_lookup h)))
  . unfold ZaH;show _=N.length;rw[length_append,length_map,length_replicate];omega
theorem fn_of {CX:CXT}{P:Program}{w:World}{K:Frag}{mg:Str->Option Value}{base:Heap}{k:Nat}{f:Addr}{name qual:Str}{params:Arguments}{body:List Stmt}{scope:Scope}{dV kV doc pm cdv ct oc:Value}{an od:Option Addr}{osl:Array (Option Value)}{N ps:List Str}{sp:Sp}(lk:K.lookup f=some ⟨oc,od, .func (fnOf name qual params body scope dV kV doc pm an cdv ct),osl⟩)(hcd:codeIn K cdv qual=true)(S:FnScope N ps scope)(len:∀ vs H Q E,sp vs H Q E->vs.length=ps.length)(hbody:∀(A:Around)(outer:List Env)(s:Shared)(H:Hp)(vs:List V)(Q:VK)(E:XK),Room k (A.deeper (envOfC qual scope s.heap.objs.size f cdv))->sp vs H Q E ->
      ∃ t,PSs (YW CX P w K mg base N qual scope f cdv A outer s H E) body t/\t { nx:=λ _ H'=>Q .non H',rt:=Q } (ZaH N vs) H) :
    FnOk P w K mg base CX (k+1) f (fnOf name qual params body scope dV kV doc pm an cdv ct) ps sp:=by
  refine⟨len,λ A outer s H args us vs Q E hr e0 hb r hsp=>?_⟩;have hl:=len _ _ _ _ hsp;have KX:K.In s.heap:=e0.mod.kin.keeps λ b o e=>(e0.bs b o e).1;have lim:s.heap.NoLimit:=e0.mod.nolimit.keeps λ b o e=>(e0.bs b o e).1;have hkind:∀ y∈ps.zip us,scope.names.lookup y.1=some .local\/(scope.names.lookup y.1=some .cell/\((cellsFrom (s.heap.objs.size+1) scope.names []).lookup y.1).isSome=true):=λ⟨n,v⟩ hy=>by
    rcases S.par n (List.of_mem_zip hy).1 with q|q
    . exact .inl q
    . exact .inr ⟨q,PySem.W.cellsFrom_some _ _ _ (.inl q)⟩
  refine codeAny_call_function hr.depth (KX _ _ lk) rfl S.co S.gen rfl (PySem.W.codeRec_of KX hcd) (hb _ _ _ _ ?_);refine wpAny_newFunctionEnv_cells S.kind hkind λ env he s1 x=>?_;subst he;refine⟨lim.keeps x.toInCall.keep,codeAny_func ?_⟩;obtain⟨t,ht,hq⟩:=hbody A outer s H vs Q E (hr.deeper _) hsp;have I:Inv (YW CX P w K mg base N qual scope f cdv A outer s H E) [] (ZaH N vs) H s1:=ZgC S hr.hd e0 hl r x;refine wpAny_mono (ht [] s1 (ZaH N vs) H _ I hq) (λ fl s' hs=>?_) λ e s' hs=>hs;have fin:∀ {σ':St} {H':Hp} {v:V} {u:Value},Inv (YW CX P w K mg base N qual scope f cdv A outer s H E) [] σ' H' s'->Zw v u->Q v H'->CE outer P w H s Q u s':=
    λ {σ' H' v u} J rv q=>⟨v,H',J.os,J.bare,J.base,J.hok,rv,q⟩
  cases fl with
  |ret u=>
    obtain⟨v,σ',H',J,rv,q⟩:=hs;exact fin J rv q
  |next=>
    obtain⟨σ',H',J,q⟩:=hs;exact fin (v:=V.non) (u:=Value.none) J rfl q
  |brk=>
    obtain⟨_,_,_,q⟩:=hs;exact False.elim q
  |cont=>
    obtain⟨_,_,_,q⟩:=hs;exact False.elim q
open PySem PySem.Spec PyProof.Rows
section
variable {X:Cx}{x:Str}{p pos:Pos}{e:Expr}{es:List Expr}{t:TA}{id T:String}{r:List V->Hp->VK->Prop}
noncomputable def tCB (r:List V->Hp->VK->Prop)(t:TA):TE:=λ σ H Q=>t σ H λ vs H1=>r vs H1 Q
theorem Zr (hc:Xk X (.builtin id) r)(hg:Gl X x)(hm:X.mg x=none)(hv:bootBuiltins x=some (.builtin id))(ha:PA X (e::es) t)(hn:x≠"__name__":=by decide)(hdb:(x == ("__debug__":Str))=false:=by decide)(he:starEach (e::es) X.env=(false,eval e X.env)::starEach es X.env:=by rfl)(hpl:(backTo pos (starEach es X.env)).any (·.1)=false:=by rfl):PE X (.Call (.Name x p) (e::es) [] pos) (tCB r t):=by
 refine⟨?_⟩;intro pins s σ H Q I h;refine wpAny_Call_Name_kw (ZcL I hg hm hv ?_ hn hdb);exact PyProof.Rows.callWith_builtin1 (thn (ha pos pins s σ H _ I h) λ us s1 ⟨vs,H1,I1,r1,q1⟩=>hc pins s1 σ H1 vs us Q I1 r1 q1) he hpl
theorem YD (hc:Xk X (.type T) r)(hg:Gl X x)(hm:X.mg x=none)(hv:bootBuiltins x=some (.type T))(ha:PA X (e::es) t)(hn:x≠"__name__":=by decide)(hdb:(x == ("__debug__":Str))=false:=by decide)(he:starEach (e::es) X.env=(false,eval e X.env)::starEach es X.env:=by rfl)(hpl:(backTo pos (starEach es X.env)).any (·.1)=false:=by rfl):PE X (.Call (.Name x p) (e::es) [] pos) (tCB r t):=by
 refine⟨?_⟩;intro pins s σ H Q I h;refine wpAny_Call_Name_kw (ZcL I hg hm hv ?_ hn hdb);exact PyProof.Rows.callWith_type1 (thn (ha pos pins s σ H _ I h) λ us s1 ⟨vs,H1,I1,r1,q1⟩=>hc pins s1 σ H1 vs us Q I1 r1 q1) he hpl
end
open PySem PySem.Spec PyProof.Rows
section
variable {κ:Type}[DecidableEq κ]
noncomputable def Z4 (kvs:List (κ×V))(k:κ):Option V:=(kvs.find? λ kv=>decide (kv.1=k)).map (·.2)
noncomputable def X0 (kvs:List (κ×V))(k:κ)(v:V):List (κ×V):=
 if (kvs.any λ kv=>decide (kv.1=k))=true then kvs.map (λ kv=>if kv.1=k then (kv.1,v) else kv) else kvs++[(k,v)]
noncomputable def dropK (kvs:List (κ×V))(k:κ):List (κ×V):=kvs.filter λ kv=>decide (kv.1≠k)
theorem XL {p:κ×V}{r:List (κ×V)}{k:κ}(e:p.1=k):Z4 (p::r) k=some p.2:=by simp[Z4,find?_cons,e]
theorem XM {p:κ×V}{r:List (κ×V)}{k:κ}(e:¬ p.1=k):Z4 (p::r) k=Z4 r k:=by simp[Z4,find?_cons,e]
theorem Zb4 (k:κ):∀ kvs:List (κ×V),(kvs.any λ kv=>decide (kv.1=k))=(Z4 kvs k).isSome
  |[]=>rfl
  | p::r=>by
    rw[any_cons]
    by_cases e:p.1=k
    . simp only[XL e,decide_eq_true e,Bool.true_or,Option.isSome_some]
    . rw[XM e,decide_eq_false e,Bool.false_or];exact Zb4 k r
theorem JQ (kvs:List (κ×V))(k:κ)(v:V):(X0 kvs k v).length<=kvs.length+1:=by
  unfold X0;split
  . rw[length_map];omega
  . rw[length_append,length_cons,List.length_nil];omega
theorem Yq {kvs:List (κ×V)}{k:κ}(v:V)(h:Z4 kvs k=none):X0 kvs k v=kvs++[(k,v)]:=by
 unfold X0;rw[Zb4,h];exact if_neg (by decide)
theorem Ji.isSome_eq {o:Option V}{u:Option Value}(r:Ji o u):o.isSome=u.isSome:=by
  cases o with
  | none=>cases u with
    |none=>rfl
    |some _=>exact(show False from r).elim
  | some _=>cases u with
    |none=>exact(show False from r).elim
    |some _=>rfl
theorem Ji.getD {o:Option V}{u:Option Value}{d:V}{d':Value}(r:Ji o u)(rd:Zw d d'):Zw (o.getD d) (u.getD d'):=by
  cases o with
  | none=>cases u with
    |none=>exact rd
    |some _=>exact(show False from r).elim
  | some _=>cases u with
    |none=>exact(show False from r).elim
    |some _=>exact r
theorem KV.val {kvs:List (κ×V)}{vs:List (κ×Value)}(r:KV kvs vs)(k:κ):Ji (Z4 kvs k) (valueAt vs k):=by
  unfold KV at r
  induction r with
  |nil=>exact True.intro
  |@cons p q ps qs h t ih=>
    obtain⟨h1,h2⟩:=h
    by_cases e:p.1=k
    . have e':q.1=k:=h1.symm.trans e;have b:valueAt (q::qs) k=some q.2:=by simp[valueAt,find?_cons,e']
      rw[XL e,b];exact h2
    . have e':¬ q.1=k:=λ z=>e (h1.trans z);have b:valueAt (q::qs) k=valueAt qs k:=by simp[valueAt,find?_cons,e']
      rw[XM e,b];exact ih
theorem KV.any {kvs:List (κ×V)}{vs:List (κ×Value)}(r:KV kvs vs)(k:κ):(kvs.any λ kv=>decide (kv.1=k))=vs.any λ kv=>decide (kv.1=k):=by
  unfold KV at r
  induction r with
  |nil=>rfl
  |cons h t ih=>rw[any_cons,any_cons,ih,h.1]
theorem KV.repl {kvs:List (κ×V)}{vs:List (κ×Value)}(r:KV kvs vs)(k:κ){y:V}{u:Value}(ry:Zw y u) :
    KV (kvs.map λ kv=>if kv.1=k then (kv.1,y) else kv) (vs.map λ kv=>if kv.1=k then (kv.1,u) else kv):=by
  unfold KV at r ⊢
  induction r with
  |nil=>exact .nil
  |@cons p q ps qs h t ih=>
    rw[map_cons,map_cons];refine .cons ?_ ih;obtain⟨h1,h2⟩:=h
    by_cases e:p.1=k
    . rw[if_pos e,if_pos (h1.symm.trans e)];exact⟨h1,ry⟩
    . rw[if_neg e,if_neg (λ z=>e (h1.trans z))];exact⟨h1,h2⟩
theorem KV.put {kvs:List (κ×V)}{vs:List (κ×Value)}(r:KV kvs vs)(k:κ){y:V}{u:Value}(ry:Zw y u):KV (X0 kvs k y) (stored vs k u):=by
  unfold X0 stored;rw[r.any k]
  by_cases e:(vs.any λ kv=>decide (kv.1=k))=true
  . rw[if_pos e,if_pos e];exact r.repl k ry
  . rw[if_neg e,if_neg e];exact Paired.snoc r ⟨rfl,ry⟩
theorem KV.length {kvs:List (κ×V)}{vs:List (κ×Value)}(r:KV kvs vs):kvs.length=vs.length:=Paired.length r
end
theorem ZcM {P:Program}{w:World}{k:Key}{u:Value}(r:Zw (kV k) u):(ZM P w).is k u=true:=by
  cases k with
  |inl i=>obtain⟨t,e⟩:=(show ∃ t,u=Value.int i t from r);subst e;exact ZeE P w i t
  |inr x=>obtain⟨t,e⟩:=(show ∃ t,u=Value.str x t from r);subst e;exact ZeD P w x t
theorem Zdi {P:Program}{w:World}:∀ {ks:List Key} {us:List Value},ZF (ks.map kV) us->ItemsAre (ZM P w) ks us
  |[],_,r=>by rw[map_nil]at r;cases r;exact .nil
  | k::ks,_,r=>by
    rw[map_cons]at r;cases r with
    |cons h t=>exact .cons (ZcM h) (Zdi t)
noncomputable abbrev KT (H:Hp):List (List Key×V)->List (List Key×Addr×Value)->Prop:=Paired λ p q=>p.1=q.1/\H q.2.1=some (.tup (p.1.map kV))/\Zw p.2 q.2.2
theorem KT.val {H:Hp}{kvs:List (List Key×V)}{xs:List (List Key×Addr×Value)}(r:KT H kvs xs)(k:List Key):Ji (Z4 kvs k) ((atKey xs k).map (·.2)):=by
  induction r with
  |nil=>exact True.intro
  |@cons p q ps qs h t ih=>
    obtain⟨h1,_,h2⟩:=h
    by_cases e:p.1=k
    . have e':q.1=k:=h1.symm.trans e;have b:atKey (q::qs) k=some q.2:=by simp[atKey,find?_cons,e']
      rw[XL e,b];exact h2
    . have e':¬ q.1=k:=λ z=>e (h1.trans z);have b:atKey (q::qs) k=atKey qs k:=by simp[atKey,find?_cons,e']
      rw[XM e,b];exact ih
theorem KT.repl {H:Hp}{kvs:List (List Key×V)}{xs:List (List Key×Addr×Value)}(r:KT H kvs xs)(k:List Key){y:V}{u:Value}(ry:Zw y u) :
    KT H (kvs.map λ kv=>if kv.1=k then (kv.1,y) else kv) (xs.map (putAt k u)):=by
  induction r with
  |nil=>exact .nil
  |@cons p q ps qs h t ih=>
    rw[map_cons,map_cons];refine .cons ?_ ih;obtain⟨h1,h2,h3⟩:=h;unfold putAt
    by_cases e:p.1=k
    . rw[if_pos e,if_pos (h1.symm.trans e)];exact⟨h1,h2,ry⟩
    . rw[if_neg e,if_neg (λ z=>e (h1.trans z))];exact⟨h1,h2,h3⟩
theorem KT.put {H:Hp}{kvs:List (List Key×V)}{xs:List (List Key×Addr×Value)}(r:KT H kvs xs)(k:List Key){b:Addr}{y:V}{u:Value}(hb:H b=some (.tup (k.map kV)))(ry:Zw y u) :
    KT H (X0 kvs k y) (storedH xs k b u):=by
  have e:(kvs.any λ kv=>decide (kv.1=k))=(atKey xs k).isSome:=by
    rw[Zb4,(r.val k).isSome_eq,isSome_map]
  unfold X0 storedH;rw[e]
  by_cases q:(atKey xs k).isSome=true
  . rw[if_pos q,if_pos q];exact r.repl k ry
  . rw[if_neg q,if_neg q];exact Paired.snoc r ⟨rfl,hb,ry⟩
theorem KT.keeps {H H':Hp}{kvs:List (List Key×V)}{xs:List (List Key×Addr×Value)}(r:KT H kvs xs)(ht:∀ b ys,H b=some (.tup ys)->H' b=some (.tup ys)):KT H' kvs xs:=
 Paired.mapP r λ _ _ z=>⟨z.1,ht _ _ z.2.1,z.2.2⟩
section
variable {P:Program}{w:World}{H:Hp}{h:Heap}{a:Addr}
theorem rd_of {u:HO}(ok:HOk P w H h)(e:Rd H a u):ZR P w H h a u:=e.ok ok
theorem Za9 {kvs:List (Key×V)}(ok:HOk P w H h)(e:Rd H a (.dK kvs)):kvs.length<=sizeLine/\(a == sysModules)=false/\∃ vs,KV kvs vs/\h.DictOf (ZM P w) a vs:=
 show ZR P w H h a (.dK kvs) from rd_of ok e
theorem ZhQ {kvs:List (Key×V)}(ok:HOk P w H h)(e:H a=some (.dK kvs)):kvs.length<=sizeLine/\(a == sysModules)=false/\∃ vs,KV kvs vs/\h.DictOf (ZM P w) a vs:=Za9 ok (.inl e)
theorem Zbl {ks:List Key}(ok:HOk P w H h)(e:H a=some (.tup (ks.map kV))):(tupleKind (ZM P w)).is h ks a:=by
 obtain⟨_,its,r,o,h1,h2,n,h3⟩:=(show ZR P w H h a (.tup (ks.map kV)) from ok a _ e);exact⟨o,its.toArray,n,h1,h2,h3,by simpa using Zdi r⟩
theorem ZcQ {kvs:List (List Key×V)}(ok:HOk P w H h)(e:Rd H a (.dT kvs)):kvs.length<=sizeLine/\(a == sysModules)=false /\
    ∃ xs,KT H kvs xs/\h.DictOfH (tupleKind (ZM P w)) a xs:=by
  obtain⟨z,y,xs,r,o,es,ep,h1,h2,h3,h4,h5⟩:=(show ZR P w H h a (.dT kvs) from rd_of ok e);refine⟨z,y,xs,r,o,es,ep,h1,h2,h3,h4,λ x hx=>?_,h5⟩;have all:∀ {l:List (List Key×V)} {m:List (List Key×Addr×Value)},KT H l m->∀ x∈m,(tupleKind (ZM P w)).is h x.1 x.2.1:=by
    intro l m q
    induction q with
    |nil=>intro x hx;exact nomatch hx
    |@cons p q ps qs hq t ih=>
      intro x hx;rcases List.mem_cons.mp hx with e|hx
      . subst e;exact Zbl ok (by rw[<- hq.1];exact hq.2.1)
      . exact ih x hx
  exact all r x hx
theorem dt_of {kvs:List (List Key×V)}(ok:HOk P w H h)(e:H a=some (.dT kvs)):kvs.length<=sizeLine/\(a == sysModules)=false /\
    ∃ xs,KT H kvs xs/\h.DictOfH (tupleKind (ZM P w)) a xs:=ZcQ ok (.inl e)
end
noncomputable def Z3 (H:Hp)(a:Addr)(y:V)(r:Option V):Prop:=
 (∃ kvs k,Rd H a (.dK kvs)/\y=kV k/\r=Z4 kvs k)\/∃ kvs k b,Rd H a (.dT kvs)/\y = .ref b/\H b=some (.tup (k.map kV))/\r=Z4 kvs k
noncomputable def Zah (H:Hp)(a:Addr)(y v:V)(H':Hp):Prop:=
 (∃ kvs k,H a=some (.dK kvs)/\y=kV k/\kvs.length<sizeLine/\H'=upd H a (.dK (X0 kvs k v))) \/
 ∃ kvs k b,H a=some (.dT kvs)/\y = .ref b/\H b=some (.tup (k.map kV))/\kvs.length<sizeLine/\H'=upd H a (.dT (X0 kvs k v))
theorem Z3.k {H:Hp}{a:Addr}{kvs:List (Key×V)}{k:Key}(e:H a=some (.dK kvs)):Z3 H a (kV k) (Z4 kvs k):=.inl ⟨kvs,k, .inl e,rfl,rfl⟩
theorem Zah.k {H:Hp}{a:Addr}{kvs:List (Key×V)}{k:Key}{v:V}(e:H a=some (.dK kvs))(hl:kvs.length<sizeLine):Zah H a (kV k) v (upd H a (.dK (X0 kvs k v))):=.inl ⟨kvs,k,e,rfl,hl,rfl⟩
section
variable {X:Cx}{pins:List (Addr×Obj)}{σ:St}{H:Hp}{s:Shared}{a:Addr}{y v:V}{u r:Value}{o:Option V}{A:Around}{E:Value->Shared->Prop}
theorem Inv.big (I:Inv X pins σ H s):sysModules<s.heap.objs.size:=by
 have h:mainGlobals<s.heap.objs.size:=(I.mod.glob.keeps I.bk).lt;exact Nat.lt_trans (by decide) h
theorem ZgG {Q:Value->Shared->Prop}(hu:A.units+1<cLine)(I:Inv X pins σ H s)(g:Z3 H a y (some v))(ry:Zw y u)(h:∀ w' s',Inv X pins σ H s'->Zw v w'->Q w' s') :
    wpAny (model X.prog X.w) A (getItem (.ref a) u) Q E s:=by
  rcases g with ⟨kvs,k,e,ey,l⟩|⟨kvs,k,b,e,ey,eb,l⟩
  . subst ey;obtain⟨z,hd,vs,rel,dd⟩:=Za9 I.hok e;obtain⟨w',hw,rw'⟩:=Ji.some_of (v:=v) (o:=valueAt vs k) (by rw[l];exact rel.val k);exact wpAny_getItem_of (ZcM ry) dd.mapOf hw (h w' _ (I.tok _) rw')
  . subst ey;cases (show u=Value.ref b from ry);obtain⟨z,hd,xs,rel,dd⟩:=ZcQ I.hok e;obtain⟨w',hw,rw'⟩:=Ji.some_of (v:=v) (o:=(atKey xs k).map (·.2)) (by rw[l];exact rel.val k);obtain⟨p,hp,hp2⟩:=Option.map_eq_some_iff.mp hw;refine wpAny_getItem_heap (tupleKind_room_in1 hu) (Zbl I.hok eb) dd hp ?_;rw[hp2];exact h w' _ (I.tok _) rw'
theorem d_in {Q:Value->Shared->Prop}(hu:A.units+1<cLine)(I:Inv X pins σ H s)(g:Z3 H a y o)(ry:Zw y u)(h:∀ s',Inv X pins σ H s'->Q (.bool o.isSome) s') :
    wpAny (model X.prog X.w) A (compareOp .In u (.ref a)) Q E s:=by
  rcases g with ⟨kvs,k,e,ey,l⟩|⟨kvs,k,b,e,ey,eb,l⟩
  . subst ey;obtain⟨z,hd,vs,rel,dd⟩:=Za9 I.hok e;refine wpAny_in_of (ZcM ry) hd dd.mapOf ?_;rw[<- (rel.val k).isSome_eq,<- l];exact h _ (I.tok _)
  . subst ey;cases (show u=Value.ref b from ry);obtain⟨z,hd,xs,rel,dd⟩:=ZcQ I.hok e;refine wpAny_in_heap (tupleKind_room_in1 hu) (Zbl I.hok eb) hd dd ?_;have q:=(rel.val k).isSome_eq;rw[isSome_map]at q;rw[<- q,<- l];exact h _ (I.tok _)
theorem ZiM {Q:Value->Shared->Prop}(hu:A.units+1<cLine)(I:Inv X pins σ H s)(g:Z3 H a y o)(ry:Zw y u)(h:∀ s',Inv X pins σ H s'->Q (.bool (!o.isSome)) s') :
    wpAny (model X.prog X.w) A (compareOp .NotIn u (.ref a)) Q E s:=by
  rcases g with ⟨kvs,k,e,ey,l⟩|⟨kvs,k,b,e,ey,eb,l⟩
  . subst ey;obtain⟨z,hd,vs,rel,dd⟩:=Za9 I.hok e;refine wpAny_notIn_of (ZcM ry) hd dd.mapOf ?_;rw[<- (rel.val k).isSome_eq,<- l];exact h _ (I.tok _)
  . subst ey;cases (show u=Value.ref b from ry);obtain⟨z,hd,xs,rel,dd⟩:=ZcQ I.hok e;refine wpAny_notIn_heap (tupleKind_room_in1 hu) (Zbl I.hok eb) hd dd ?_;have q:=(rel.val k).isSome_eq;rw[isSome_map]at q;rw[<- q,<- l];exact h _ (I.tok _)
theorem Zd9 {h':Heap}{t':Nat}{ob:HO}(I:Inv X pins σ H s)(mu:Mut (H a))(hs:Heap.SameBut a s.heap h')(he:∃ q,h'.get? a=some q)(new:ZR X.prog X.w (upd H a ob) h' a ob) :
    Inv X pins σ (upd H a ob) { s with heap:=h',toks:=t' }:=
  I.write (x:=a) (e:=a) mu (.inl rfl) (λ b q hb z=>(hs.2 b hb).trans z) he new
theorem ZhR {P:Program}{w:World}{H':Hp}{h':Heap}{kvs:List (Key×V)}{vs:List (Key×Value)}(z:kvs.length<=sizeLine)(hd:(a == sysModules)=false)(rel:KV kvs vs)(dd:h'.DictOf (ZM P w) a vs) :
    ZR P w H' h' a (.dK kvs):=⟨z,hd,vs,rel,dd⟩
theorem ZgF {H':Hp}{Q:Unit->Shared->Prop}(hu:A.units+1<cLine)(I:Inv X pins σ H s)(g:Zah H a y v H')(ry:Zw y u)(rv:Zw v r)(h:∀ s',Inv X pins σ H' s'->Q () s') :
    wpAny (model X.prog X.w) A (setItem (.ref a) u r) Q E s:=by
  rcases g with ⟨kvs,k,e,ey,l,eH⟩|⟨kvs,k,b,e,ey,eb,l,eH⟩
  . subst ey eH;obtain⟨z,hd,vs,rel,dd⟩:=ZhQ I.hok e;have hz:vs.length<=sizeLine:=by rw[<- rel.length];exact z
    have hl:(X0 kvs k v).length<=sizeLine:=by have:=JQ kvs k v;omega
    refine wpAny_setItem_pairs (hsz:=hz) (ZcM ry) dd λ h' dd' hs=>h _ ?_;have he:∃ q,h'.get? a=some q:=let ⟨q,_,_,hq,_⟩:=dd';⟨q,hq⟩;exact Zd9 I (by rw[e];exact True.intro) hs he (ZhR hl hd (rel.put k rv) dd')
  . subst ey eH;cases (show u=Value.ref b from ry);obtain⟨z,hd,xs,rel,dd⟩:=dt_of I.hok e;have hz:xs.length<=sizeLine:=by rw[<- Paired.length rel];exact z
    have hl:(X0 kvs k v).length<=sizeLine:=by have:=JQ kvs k v;omega
    refine wpAny_setItem_heap (hsz:=hz) (tupleKind_room_in1 hu) (Zbl I.hok eb) dd λ h' dd' hs=>h _ ?_;obtain⟨q,es,ep,hq,h2,h3,h4,_,h5⟩:=dd';refine Zd9 I (by rw[e];exact True.intro) hs ⟨q,hq⟩ ⟨hl,hd,_,(rel.put k eb rv).keeps λ c ys ec=>?_,q,es,ep,hq,h2,h3,h4,h5⟩;rw[Zc (Za5 ec e (λ z=>nomatch z))];exact ec
end
section
variable {X:Cx}{pins:List (Addr×Obj)}{σ:St}{H:Hp}{s:Shared}{a:Addr}{kvs:List (Key×V)}{k:Key}{u:Value}{A:Around}{E:Value->Shared->Prop}
end
noncomputable def NoSl (i:Expr):Prop:=∀ ov iv,subscripted i false ov iv=operate [ov,iv] (getItem ov iv)
theorem Zh8 {prog:Program}{w:World}{A:Around}{E:Value->Shared->Prop}{s:Shared}{env:Env}{value slice:Expr}{pos:Pos}{T id:String}{Q:Value->Shared->Prop}(hl:typeLookup (.type T) "__getitem__"=pure (some (.builtin id)))(hs:NoSl slice)(h:wpAny (model prog w) A (eval value env) (λ o s₁=>wpAny (model prog w) A (eval slice env) (λ i s₂=>s₂.TypeIs o T/\wpAny (model prog w) A (getItem o i) Q E s₂) E s₁) E s) :
    wpAny (model prog w) A (eval (.Subscript value slice pos) env) Q E s:=by
  refine Subscript_ (wpAny_mono h (λ o s₁ h₁=>wpAny_mono h₁ (λ i s₂ h₂=>?_) λ _ _ x=>x) λ _ _ x=>x);obtain⟨hT,h₂⟩:=h₂;unfold subscriptTail;refine wpAny_bind ?_;rw[getitemInPython_of_ne hT.not_modules];refine wpAny_bind (wpAny_specialOf hT hl ?_);have fin:wpAny (model prog w) A (subscripted slice false o i) (λ r s₃=>wpAny (model prog w) A (letTemporaryGo value o r >>= λ _=>pure r) Q E s₃) E s₂:=by
    rw[hs o i];exact wpAny_operating (wpAny_mono h₂ (λ r s₃ h₃=>wpAny_bind (wpAny_letTemporaryGo (wpAny_pure h₃))) λ _ _ x=>x)
  first
    | exact wpAny_pure (wpAny_bind fin)
    | exact wpAny_bind (wpAny_pure (wpAny_bind fin))
    | exact wpAny_bind fin
theorem ZeK {X:Cx}{pins:List (Addr×Obj)}{σ:St}{H:Hp}{s:Shared}{a:Addr}{y:V}{o:Option V}(I:Inv X pins σ H s)(g:Z3 H a y o):s.TypeIs (.ref a) "dict":=by
  rcases g with ⟨kvs,k,e,_,_⟩|⟨kvs,k,b,e,_,_,_⟩
  . obtain⟨_,_,vs,_,dd⟩:=Za9 I.hok e;exact dd.typeIs
  . obtain⟨_,_,xs,_,dd⟩:=ZcQ I.hok e;exact dd.typeIs
noncomputable def tDGet (td ty:TE):TE:=λ σ H Q=>td σ H λ x H1=>ty σ H1 λ y H2=>∃ a v,x = .ref a/\Z3 H2 a y (some v)/\Q v H2
noncomputable def tDIn (ty td:TE):TE:=λ σ H Q=>ty σ H λ y H1=>td σ H1 λ x H2=>∃ a o,x = .ref a/\Z3 H2 a y o/\Q (.bl o.isSome) H2
noncomputable def Zh6 (ty td:TE):TE:=λ σ H Q=>ty σ H λ y H1=>td σ H1 λ x H2=>∃ a o,x = .ref a/\Z3 H2 a y o/\Q (.bl (!o.isSome)) H2
noncomputable def sDPut (td ty tv:TE):TS:=λ D σ H=>tv σ H λ v H1=>td σ H1 λ x H2=>ty σ H2 λ y H3=>∃ a H4,x = .ref a/\Zah H3 a y v H4/\D.nx σ H4
section
variable {X:Cx}{o i e value:Expr}{pos pos' tpos:Pos}{td ty tv:TE}
theorem Xq (hu:X.A.units+1<cLine)(ho:PE X o td)(hi:PE X i ty)(hs:NoSl i):PE X (.Subscript o i pos) (tDGet td ty):=by
 refine⟨?_⟩;intro pins s σ H Q I h;refine Zh8 PySem.F.slot_dict_getitem.lookup hs (thn (ho pins s σ H _ I h) λ u s1 ⟨x,H1,I1,rx,q1⟩=>thn (hi pins s1 σ H1 _ I1 q1) λ iv s2 zz9=>?_);obtain⟨y,H2,I2,ry,a,v,ex,g,q2⟩:=zz9;subst ex;obtain rfl:u=Value.ref a:=rx;exact⟨ZeK I2 g,ZgG hu I2 g ry λ w' s3 I3 rw'=>⟨v,H2,I3,rw',q2⟩⟩
theorem ZdN (hu:X.A.units+1<cLine)(hi:PE X i ty)(ho:PE X o td):PC X .In i o (tDIn ty td):=by
 refine⟨?_⟩;intro pins s σ H Q I h;refine thn (hi pins s σ H _ I h) λ iv s1 ⟨y,H1,I1,ry,q1⟩=>thn (ho pins s1 σ H1 _ I1 q1) λ u s2 zz9=>?_;obtain⟨x,H2,I2,rx,a,ov,ex,g,q2⟩:=zz9;subst ex;obtain rfl:u=Value.ref a:=rx;exact d_in hu I2 g ry λ s3 I3=>⟨.bl ov.isSome,H2,I3,rfl,q2⟩
theorem Yn (hu:X.A.units+1<cLine)(hi:PE X i ty)(ho:PE X o td):PC X .NotIn i o (Zh6 ty td):=by
 refine⟨?_⟩;intro pins s σ H Q I h;refine thn (hi pins s σ H _ I h) λ iv s1 ⟨y,H1,I1,ry,q1⟩=>thn (ho pins s1 σ H1 _ I1 q1) λ u s2 zz9=>?_;obtain⟨x,H2,I2,rx,a,ov,ex,g,q2⟩:=zz9;subst ex;obtain rfl:u=Value.ref a:=rx;exact ZiM hu I2 g ry λ s3 I3=>⟨.bl (!ov.isSome),H2,I3,rfl,q2⟩
theorem YH (hu:X.A.units+1<cLine)(ho:PE X o td)(hi:PE X i ty)(hv:PE X value tv)(hs:swapsWith value (some (.Subscript o i pos')) pos.line X.env=pure false) :
    PS X (.Assign [.Subscript o i pos'] value pos) (sDPut td ty tv):=by
  refine⟨?_⟩;intro pins s σ H D I h;refine wpAny_Assign_Subscript (thn (hv pins s σ H _ I h) λ r s1 ⟨v,H1,I1,rv,q1⟩=>thn (ho pins s1 σ H1 _ I1 q1) λ u s2 ⟨x,H2,I2,rx,q2⟩=>thn (hi pins s2 σ H2 _ I2 q2) λ iv s3 zz9=>?_) hs;obtain⟨y,H3,I3,ry,a,H4,ex,g,q3⟩:=zz9;subst ex;obtain rfl:u=Value.ref a:=rx;exact ZgF hu I3 g ry rv λ s4 I4=>⟨σ,H4,I4,q3⟩
end
theorem ZeH {P:Program}{w:World}{H:Hp}(h:Heap)(hb:sysModules<h.objs.size):ZR P w H (h.push { cls:=.type "dict",data:=.dict #[] }) h.objs.size (.dK []):=
 ⟨zero_le _,beq_eq_false_iff_ne.mpr (Ne.symm (ne_of_lt hb)),[], .nil,Heap.DictOf.new h⟩
noncomputable def tDNewK:TE:=λ _ H Q=>∀ p,H p=none->Q (.ref p) (upd H p (.dK []))
section
variable {X:Cx}{pos:Pos}
theorem Yu:PE X (.Dict [] [] pos) tDNewK:=⟨λ pins s σ H Q I h=>
 wpAny_Dict_empty ⟨.ref s.heap.objs.size,_,I.laid (a:=s.heap.objs.size) (o:=.dK []) (t':=s.toks) (λ _ _ q=>Heap.get?_push_of_some _ q) (le_refl _) (ZeH s.heap I.big),rfl,h _ (I.hok.fresh (le_refl _))⟩⟩
end
structure M2 (X:Cx)(o:Expr)(m:Str)(apos:Pos)(e f:Expr)(cpos:Pos):Prop where
  base:attributeBase o m X.env (eval o X.env)=eval o X.env
  few:((backTo cpos (starEach [e,f] X.env)).all (λ x => !x.1) && (backToKw cpos (keywordEach [] X.env)).all (λ x=>x.1.isSome)
    && decide (([e,f]:List Expr).length+([]:List Keyword).length+(if ([]:List Keyword).isEmpty then 0 else 1)<30))=true
  line:(apos.endLine == cpos.line)=true
  trees:backTo cpos (starEach [e,f] X.env)=[(false,eval e X.env),(false,eval f X.env)]
noncomputable def IsD (H:Hp)(a:Addr):Prop:=(∃ kvs,Rd H a (.dK kvs))\/∃ kvs,Rd H a (.dT kvs)
theorem isD_at {X:Cx}{pins:List (Addr×Obj)}{σ:St}{H:Hp}{s:Shared}{a:Addr}(I:Inv X pins σ H s)(d:IsD H a) :
    s.TypeIs (.ref a) "dict"/\(∀ b,Value.ref a = .ref b->∃ ob,s.heap.get? b=some ob/\ob.dict=none)/\(a == sysModules)=false:=by
  rcases d with ⟨kvs,e⟩|⟨kvs,e⟩
  . obtain⟨_,hd,vs,_,dd⟩:=Za9 I.hok e;refine⟨dd.typeIs,λ b q=>?_,hd⟩;cases q;obtain⟨ob,_,_,h1,h2,_⟩:=dd;exact⟨ob,h1,h2.2.1⟩
  . obtain⟨_,hd,xs,_,dd⟩:=ZcQ I.hok e;refine⟨dd.typeIs,λ b q=>?_,hd⟩;cases q;obtain⟨ob,_,_,h1,h2,_⟩:=dd;exact⟨ob,h1,h2.2.1⟩
section
variable {X:Cx}{pins:List (Addr×Obj)}{σ:St}{H:Hp}{s:Shared}{a:Addr}{y d:V}{u r:Value}{o:Option V}{A:Around}{E:Value->Shared->Prop}
theorem d_get2 {Q:Value->Shared->Prop}(hu:A.units+1<cLine)(I:Inv X pins σ H s)(g:Z3 H a y o)(ry:Zw y u)(rd:Zw d r)(h:∀ w' s',Inv X pins σ H s'->Zw (o.getD d) w'->Q w' s') :
    wpAny (model X.prog X.w) A (call (.builtin "dict.get") [.ref a,u,r]) Q E s:=by
  rcases g with ⟨kvs,k,e,ey,l⟩|⟨kvs,k,b,e,ey,eb,l⟩
  . subst ey;obtain⟨z,hd,vs,rel,dd⟩:=Za9 I.hok e;refine call_meetsIn slot_dict_get dd.typeIs PySem.F.entry_dict_get (PySem.F.args_dict_get_3 _ _ _) (meets_dict_get_default (ZM X.prog X.w) a (ZcM ry) hd r) ⟨_,dd.mapOf,h _ _ (I.tok _) ?_⟩;rw[l];exact(rel.val k).getD rd
  . subst ey;cases (show u=Value.ref b from ry);obtain⟨z,hd,xs,rel,dd⟩:=ZcQ I.hok e;refine call_meetsIn slot_dict_get dd.typeIs PySem.F.entry_dict_get (PySem.F.args_dict_get_3 _ _ _) (meetsH_dict_get_default (tupleKind (ZM X.prog X.w)) a b hd r) ⟨tupleKind_room_in1 hu,k,xs,Zbl I.hok eb,dd,h _ _ (I.tok _) ?_⟩;rw[l];exact(rel.val k).getD rd
end
noncomputable def tDGet2 (td ty tx:TE):TE:=λ σ H Q=>td σ H λ x H1=>∃ a,x = .ref a/\IsD H1 a/\ty σ H1 λ y H2=>tx σ H2 λ z H3=>∃ o,Z3 H3 a y o/\Q (o.getD z) H3
section
variable {X:Cx}{o e f:Expr}{apos cpos:Pos}{td ty tx:TE}
theorem Zer (hu:X.A.units+1<cLine)(ho:PE X o td)(he:PE X e ty)(hf:PE X f tx)(m:M2 X o "get" apos e f cpos):PE X (.Call (.Attribute o "get" apos) [e,f] [] cpos) (tDGet2 td ty tx):=by
  refine⟨?_⟩;intro pins s σ H Q I h;refine wpAny_Call_method m.base m.few m.line PySem.F.plainAttrs_dict slot_dict_get PySem.F.type_dict_get (thn (ho pins s σ H _ I h) λ u s1 zz9=>?_);obtain⟨x,H1,I1,rx,a,ex,d,q1⟩:=zz9;subst ex;obtain rfl:u=Value.ref a:=rx;obtain⟨t1,t2,_⟩:=isD_at I1 d;refine⟨t1,t2,?_⟩;rw[m.trees];refine Calls.callWith_builtin rfl (Calls.evalArgs_plain (Calls.spliced_cons (thn (he pins s1 σ H1 _ I1 q1) λ iv s2 ⟨y,H2,I2,ry,q2⟩=>
    Calls.spliced_cons (thn (hf pins s2 σ H2 _ I2 q2) λ fv s3 ⟨z,H3,I3,rz,ov,g,q3⟩=>Calls.spliced_nil ?_))))
  exact d_get2 hu I3 g ry rz λ w' s4 I4 rw'=>⟨_,H3,I4,rw',q3⟩
end
section
variable {X:Cx}{pins:List (Addr×Obj)}{σ:St}{H:Hp}{s:Shared}{a:Addr}{kvs:List (Key×V)}{A:Around}{E:Value->Shared->Prop}
end
section
variable {X:Cx}{pins:List (Addr×Obj)}{σ:St}{H:Hp}{s:Shared}{a:Addr}{y:V}{u:Value}{A:Around}{E:Value->Shared->Prop}
end
end L2
namespace HT
open PySem PyProof.Rows
section
open PySem.SeqAt
open PySem.AutoSeq1 (wpAny_loadPart')
open PySem.MeetsSeq PySem.MeetsSeq2 PySem.MeetsSeq3
end
section
variable {prog:Program}{w:World}{A:Around}{E:Value->Shared->Prop}{s:Shared}
end
end HT
namespace L2
open PySem PySem.Spec PyProof.Rows
noncomputable abbrev TO:=St->Hp->(Option Int->Hp->Prop)->Prop
noncomputable abbrev POb (X:Cx)(e:Option Expr)(t:TO):Prop:=
  ∀(pins:List (Addr×Obj))(s:Shared)(σ:St)(H:Hp)(Q:Option Int->Hp->Prop),Inv X pins σ H s->t σ H Q ->
    wpAny (model X.prog X.w) X.A (evalPart e X.env) (λ u s'=>∃ o H',Inv X pins σ H' s'/\IsPart u o/\Q o H') X.xe s
structure PO (X:Cx)(e:Option Expr)(t:TO):Prop where
  go:POb X e t
instance {X:Cx}{e:Option Expr}{t:TO}:CoeFun (PO X e t) λ _=>POb X e t:=⟨PO.go⟩
noncomputable def Zfu:TO:=λ _ H Q=>Q none H
noncomputable def tPart (t:TE):TO:=λ σ H Q=>t σ H λ x H1=>∃ i,x = .int i/\Q (some i) H1
section
variable {X:Cx}{e:Expr}{te:TE}{lo hi:Option Expr}{tl th:TO}{pos p2:Pos}
theorem ZfD:PO X none Zfu:=by
 refine⟨?_⟩;intro pins s σ H Q I h;rw[evalPart_none];exact wpAny_pure ⟨none,H,I, .none,h⟩
theorem ZfC (h:PE X e te):PO X (some e) (tPart te):=by
 refine⟨?_⟩;intro pins s σ H Q I hw;rw[evalPart_some];refine thn (h pins s σ H _ I hw) λ u s1 zz9=>?_;obtain⟨x,H1,I1,r1,q1⟩:=zz9;obtain⟨i,rfl,q⟩:=q1;obtain⟨t,rfl⟩:=r1;exact⟨some i,H1,I1, .int i t,q⟩
noncomputable def SlR (X:Cx)(r:V->Option Int->Option Int->Hp->VK->Prop):Prop:=
  ∀(pins:List (Addr×Obj))(s:Shared)(σ:St)(H:Hp)(x:V)(v vl vu:Value)(lo hi:Option Int)(sl:Addr)(Q:VK),Inv X pins σ H s->Zw x v->s.heap.IsSliceOf sl vl vu .none->IsPart vl lo->IsPart vu hi->r x lo hi H Q ->
    ∃ T id,typeLookup (.type T) "__getitem__"=pure (some (.builtin id))/\s.TypeIs v T/\wpAny (model X.prog X.w) X.A (getItem v (.ref sl)) (EP X pins σ Q) X.xe s
noncomputable def tSl (r:V->Option Int->Option Int->Hp->VK->Prop)(te:TE)(tl th:TO):TE:=λ σ H Q=>te σ H λ x H1=>tl σ H1 λ l H2=>th σ H2 λ u H3=>r x l u H3 Q
theorem Zeq {r:V->Option Int->Option Int->Hp->VK->Prop}(hr:SlR X r)(he:PE X e te)(hl:PO X lo tl)(hu:PO X hi th):PE X (.Subscript e (.Slice lo hi none p2) pos) (tSl r te tl th):=by
 refine⟨?_⟩;intro pins s σ H Q I h;refine Subscript_ (thn (he pins s σ H _ I h) λ v s1 zz9=>?_);obtain⟨x,H1,I1,r1,q1⟩:=zz9;refine wpAny_Slice (thn (hl pins s1 σ H1 _ I1 q1) λ vl s2 ⟨l,H2,I2,pl,q2⟩=>thn (hu pins s2 σ H2 _ I2 q2) λ vu s3 zz9=>?_);obtain⟨u,H3,I3,pu,q3⟩:=zz9;rw[evalPart_none];refine wpAny_pure ?_;have I4:Inv X pins σ H3 { s3 with heap:=s3.heap.push { cls:=.type "slice",data:=.fields #[vl,vu, .none] } }:=I3.kept (t':=s3.toks) λ b ob q=>Heap.get?_push_of_some _ q;obtain⟨T,id,hT,ht,hg⟩:=hr pins { s3 with heap:=s3.heap.push { cls:=.type "slice",data:=.fields #[vl,vu, .none] } } σ H3 x v vl vu l u s3.heap.objs.size Q I4 r1 (Heap.IsSliceOf.new ..) pl pu q3;show wpAny (model X.prog X.w) X.A (subscriptTail e (.Slice lo hi none p2) v (.ref s3.heap.objs.size)) (EP X pins σ Q) X.xe { s3 with heap:=s3.heap.push { cls:=.type "slice",data:=.fields #[vl,vu, .none] } };exact tail_any (ops:=[.ref s3.heap.objs.size,v]) ht hT hg (by with_unfolding_all rfl)
end
open PySem PySem.Spec PyProof.Rows
noncomputable def ixN (n:Nat)(i:Int):Option Nat:=if 0<=i then (if i<n then some i.toNat else none) else if -(n:Int)<=i then some (i+n).toNat else none
noncomputable def atI {α:Type}(xs:List α)(i:Int):Option α:=(ixN xs.length i).bind λ j=>xs[j]?
theorem ZfS {n:Nat}{i:Int}{j:Nat}(h:ixN n i=some j):seqIndex? i n=some j/\j<n /\ -(n:Int)<=i/\i<n:=by
  unfold ixN at h
  by_cases h0:0<=i
  . rw[if_pos h0]at h
    by_cases h1:i<n
    . rw[if_pos h1]at h;have e:i.toNat=j:=Option.some.inj h;exact⟨by rw[seqIndex_of h0 h1,e],by omega,by omega,h1⟩
    . rw[if_neg h1]at h;cases h
  . rw[if_neg h0]at h
    by_cases h1 : -(n:Int)<=i
    . rw[if_pos h1]at h;have e:(i+n).toNat=j:=Option.some.inj h;exact⟨by rw[seqIndex_neg (by omega) h1,e],by omega,h1,by omega⟩
    . rw[if_neg h1]at h;cases h
theorem Zef {α:Type}{xs:List α}{i:Int}{v:α}(h:atI xs i=some v):∃ j,seqIndex? i xs.length=some j/\xs[j]? = some v/\j<xs.length /\ -(xs.length:Int)<=i/\i<xs.length:=by
  unfold atI at h;cases e:ixN xs.length i with
  |none=>rw[e]at h;cases h
  |some j=>
    rw[e]at h;obtain⟨h1,h2,h3,h4⟩:=ZfS e;exact⟨j,h1,h,h2,h3,h4⟩
theorem X8 {α:Type}{xs:List α}{j:Nat}{v:α}(h:xs[j]? = some v):atI xs (j:Int)=some v:=by
  have hj:j<xs.length:=(List.getElem?_eq_some_iff.mp h).1;have e:ixN xs.length (j:Int)=some j:=by
    unfold ixN;rw[if_pos (by omega),if_pos (by omega)];simp
  unfold atI;rw[e];exact h
noncomputable def ZiS (b:Expr):Prop:=∀ o i,subscripted b false o i=operate [o,i] (getItem o i)
noncomputable def IxR (X:Cx)(r:R2):Prop:=
  ∀(value slice:Expr)(pins:List (Addr×Obj))(s:Shared)(σ:St)(H:Hp)(x y:V)(v u:Value)(Q:VK),Inv X pins σ H s->Zw x v->Zw y u->r x y H Q ->
    subscripted slice false v u=operate [v,u] (getItem v u)->wpAny (model X.prog X.w) X.A (subscriptTail value slice v u) (EP X pins σ Q) X.xe s
noncomputable def MtR (X:Cx)(id:String)(r:V->List V->Hp->VK->Prop):Prop:=
  ∀(pins:List (Addr×Obj))(s:Shared)(σ:St)(H:Hp)(x:V)(xs:List V)(v:Value)(us:List Value)(Q:VK),Inv X pins σ H s->Zw x v->ZF xs us->r x xs H Q ->
    wpAny (model X.prog X.w) X.A (call (.builtin id) (v::us)) (EP X pins σ Q) X.xe s
section
variable {X:Cx}{a b:Expr}{ta tb:TE}{pos:Pos}
theorem Zq {r:R2}(hr:IxR X r)(ha:PE X a ta)(hb:PE X b tb)(hs:ZiS b):PE X (.Subscript a b pos) (tOp r ta tb):=by
 refine⟨?_⟩;intro pins s σ H Q I h;exact Subscript_ (binT ha hb I h λ v u s2 x y H2 I2 rx ry q=>hr a b pins s2 σ H2 x y v u Q I2 rx ry q (hs _ _))
noncomputable def rIxL (K:Frag):R2:=λ x y H Q=>∃ p xs i v,x = .ref p/\y = .int i/\SqL K H p xs/\atI xs i=some v/\Q v H
noncomputable def rIxT (K:Frag):R2:=λ x y H Q=>∃ p xs i v,x = .ref p/\y = .int i/\SqT K H p xs/\atI xs i=some v/\Q v H
noncomputable def rIxS:R2:=λ x y H Q=>∃ z i c,x = .str z/\y = .int i/\z.length<=sizeLine/\atI z.cps.toList i=some c/\Q (.str ⟨#[c]⟩) H
theorem Ya:IxR X (rIxL X.K):=by
  intro value slice pins s σ H x y v u Q I rx ry h hs;obtain⟨p,xs,i,z,rfl,rfl,hq,he,q⟩:=h;cases rx;obtain⟨t,rfl⟩:=ry;obtain⟨its,r,pl,hz⟩:=I.list hq;obtain⟨j,h1,h2,h3,h4,h5⟩:=Zef he;obtain⟨w,ew,rw'⟩:=r.get h2;have hl:=r.length;have hn:=Zbj;have fin:EP X pins σ Q w s:=⟨z,H,I,rw',q⟩
  by_cases h0:0<=i
  . have hj:i.toNat=j:=by
      rw[seqIndex_of h0 h5]at h1;exact Option.some.inj h1
    exact item_listR pl.isList h0 (by omega) (by rw[hj];simpa using ew) fin hs
  . have hj:(i+(its.toArray.size:Int)).toNat=j:=by
      rw[seqIndex_neg (by omega) h4]at h1;rw[size_toArray,<- hl];exact Option.some.inj h1
    exact subscriptTail_builtinR (x:=w) pl.isList.typeIs slot_list_getitem.lookup
      (wpAny_getItem_list_neg (Q:=λ r s'=>r=w/\EP X pins σ Q r s') pl.isList (by omega) (by rw[size_toArray] <;> omega) (by omega) (by rw[hj];simpa using ew) ⟨rfl,fin⟩) hs
theorem Zo:IxR X (rIxT X.K):=by
  intro value slice pins s σ H x y v u Q I rx ry h hs;obtain⟨p,xs,i,z,rfl,rfl,hq,he,q⟩:=h;cases rx;obtain⟨t,rfl⟩:=ry;obtain⟨its,r,pl,hz⟩:=I.tuple hq;obtain⟨j,h1,h2,h3,h4,h5⟩:=Zef he;obtain⟨w,ew,rw'⟩:=r.get h2;have hl:=r.length;have hn:=Zbj;have fin:EP X pins σ Q w s:=⟨z,H,I,rw',q⟩;exact subscriptTail_builtinR (x:=w) pl.typeIs slot_tuple_getitem.lookup
    (getItem_tuple (j:=j) (Q:=λ r s'=>r=w/\EP X pins σ Q r s') pl (by omega) (by omega) (by rw[size_toArray,<- hl];exact h1) (by simpa using ew) ⟨rfl,fin⟩) hs
theorem ZhH:IxR X rIxS:=by
  intro value slice pins s σ H x y v u Q I rx ry h hs;obtain⟨z,i,c,rfl,rfl,hz,he,q⟩:=h;obtain⟨t,rfl⟩:=rx;obtain⟨t',rfl⟩:=ry;obtain⟨j,h1,h2,h3,h4,h5⟩:=Zef he;have hl:z.cps.toList.length=z.length:=by simp[Str.length]
  rw[hl]at h1 h4 h5;have hn:=Zbj;exact tail_any (typeIs_str s z t) slot_str_getitem.lookup (getItem_str (c:=c) (by
    have e1:decide (i < -(2 ^ 63:Int))=false:=decide_eq_false (by omega);have e2:decide (i>=2 ^ 63)=false:=decide_eq_false (by omega);rw[e1,e2,Bool.or_false]) (by rw[h1];simpa using h2) ⟨.str ⟨#[c]⟩,H,I.tok _,⟨_,rfl⟩,q⟩) hs
theorem Zff (its:List Value)(n j:Nat)(u:Value):Obj.mapSeq (·.setIfInBounds j u) { cls:=.type "list",data:=.seq its.toArray n } = { cls:=.type "list",data:=.seq (its.set j u).toArray n }:=by
 simp[Obj.mapSeq]
theorem Inv.lst {pins:List (Addr×Obj)}{σ:St}{H:Hp}{s:Shared}{p:Addr}{xs:List V}(I:Inv X pins σ H s)(h:H p=some (.lst xs)) :
    ∃(its:List Value)(n:Nat),ZF xs its/\s.heap.get? p=some { cls:=.type "list",data:=.seq its.toArray n }/\xs.length<=sizeLine:=by
  obtain⟨z,its,n,r,e⟩:=I.hok p _ h;exact⟨its,n,r,e,z⟩
theorem Inv.lstUpd {pins:List (Addr×Obj)}{σ:St}{H:Hp}{s:Shared}{p:Addr}{xs ys:List V}{its its':List Value}{n n':Nat}{f:Obj->Obj}(I:Inv X pins σ H s)(h:H p=some (.lst xs))(ho:s.heap.get? p=some { cls:=.type "list",data:=.seq its.toArray n })(hf:f { cls:=.type "list",data:=.seq its.toArray n } = { cls:=.type "list",data:=.seq its'.toArray n' })(r:ZF ys its')(hz:ys.length<=sizeLine)(t:Nat) :
    Inv X pins σ (upd H p (.lst ys)) { s with heap:=s.heap.update p f,toks:=t }:=by
  have e:(s.heap.update p f).get? p=some { cls:=.type "list",data:=.seq its'.toArray n' }:=by
    rw[Heap.get?_update_self f ho (by rw[hf] <;> rfl),hf]
  refine I.write (x:=p) (e:=p) (by rw[h];trivial) (.inl rfl) (λ b u hb q=>(Heap.get?_update_other _ _ (Ne.symm hb)).trans q) ⟨_,e⟩ ?_;exact⟨hz,its',n',r,e⟩
noncomputable def rSetL:V->V->V->Hp->(Hp->Prop)->Prop:=λ o i v H Q=>∃ p xs k j,o = .ref p/\i = .int k/\H p=some (.lst xs)/\ixN xs.length k=some j/\Q (upd H p (.lst (xs.set j v)))
theorem Zg0:PSet X rSetL:=by
  refine⟨?_⟩;intro pins s σ H o i v ov iv u Q I ro ri rv h;obtain⟨p,xs,k,j,rfl,rfl,hp,hj,q⟩:=h;cases ro;obtain⟨t,rfl⟩:=ri;obtain⟨its,n,r,ho,hz⟩:=I.lst hp;obtain⟨h1,h2,h3,h4⟩:=ZfS hj;have hl:=r.length;have hn:=Zbj;have I':Inv X pins σ (upd H p (.lst (xs.set j v))) { s with heap:=s.heap.update p (Obj.mapSeq (·.setIfInBounds j u)) }:=
    I.lstUpd hp ho (Zff its n j u) (r.set rv j) (by rw[List.length_set];exact hz) s.toks
  by_cases h0:0<=k
  . have hk:k.toNat=j:=by
      rw[seqIndex_of h0 h4]at h1;exact Option.some.inj h1
    exact PySem.W.ki_setAt ho h0 (by omega) (by rw[size_toArray,<- hl];exact h4) (by rw[hk];exact⟨_,I',q⟩)
  . have hk:(k+(its.toArray.size:Int)).toNat=j:=by
      rw[seqIndex_neg (by omega) h3]at h1;rw[size_toArray,<- hl];exact Option.some.inj h1
    exact PySem.W.ki_setBack ho (by omega) (by rw[size_toArray,<- hl];exact h3) (by omega) (by rw[hk];exact⟨_,I',q⟩)
noncomputable def Zby:V->Bool
  |.non=>true
  |.bl _=>true
  |.int _=>true
  |.str _=>true
  |_=>false
noncomputable def eqV:V->V->Bool
  |.non, .non=>true
  |.bl a, .bl b=>a == b
  |.bl a, .int b=>(if a then 1 else 0) == b
  |.int a, .bl b=>a == (if b then 1 else 0)
  |.int a, .int b=>a == b
  |.str a, .str b=>a == b
  |_,_=>false
theorem eqAt_V {A:Around}{s:Shared}{y x:V}{u v:Value}(ry:Zw y u)(rx:Zw x v)(fy:Zby y=true)(fx:Zby x=true):SeqAt.EqAt A s u v (eqV y x):=by
  cases y with
  |non=>
    cases ry;cases x with
    |non=>cases rx;exact SeqAt.EqAt.same _
    |bl b=>cases rx;exact SeqAt.EqAt.none_bool b
    |int b=>obtain⟨t,rfl⟩:=rx;exact SeqAt.EqAt.none_int b t
    |str b=>obtain⟨t,rfl⟩:=rx;exact SeqAt.EqAt.none_str b t
    |_=>exact absurd (show false=true from fx) Bool.false_ne_true
  |bl a=>
    cases ry;cases x with
    |non=>cases rx;exact SeqAt.EqAt.bool_none a
    |bl b=>cases rx;exact SeqAt.EqAt.bool_bool a b
    |int b=>obtain⟨t,rfl⟩:=rx;exact SeqAt.EqAt.bool_int a b t
    |str b=>obtain⟨t,rfl⟩:=rx;exact SeqAt.EqAt.bool_str a b t
    |_=>exact absurd (show false=true from fx) Bool.false_ne_true
  |int a=>
    obtain⟨t',rfl⟩:=ry;cases x with
    |non=>cases rx;exact SeqAt.EqAt.int_none a t'
    |bl b=>cases rx;exact SeqAt.EqAt.int_bool a t' b
    |int b=>obtain⟨t,rfl⟩:=rx;exact SeqAt.EqAt.int_int a t' b t
    |str b=>obtain⟨t,rfl⟩:=rx;exact SeqAt.EqAt.int_str a t' b t
    |_=>exact absurd (show false=true from fx) Bool.false_ne_true
  |str a=>
    obtain⟨t',rfl⟩:=ry;cases x with
    |non=>cases rx;exact SeqAt.EqAt.str_none a t'
    |bl b=>cases rx;exact SeqAt.EqAt.str_bool a t' b
    |int b=>obtain⟨t,rfl⟩:=rx;exact SeqAt.EqAt.str_int a t' b t
    |str b=>obtain⟨t,rfl⟩:=rx;exact SeqAt.EqAt.str_str a t' b t
    |_=>exact absurd (show false=true from fx) Bool.false_ne_true
  |_=>exact absurd (show false=true from fy) Bool.false_ne_true
noncomputable def eqU (x:V)(u:Value):Bool:=match u with
  |.none=>eqV .non x
  |.bool b=>eqV (.bl b) x
  |.int i _=>eqV (.int i) x
  |.str z _=>eqV (.str z) x
  |_=>false
theorem ZhO {x y:V}{u:Value}(r:Zw y u)(f:Zby y=true):eqU x u=eqV y x:=by
  cases y with
  |non=>cases r;rfl
  |bl b=>cases r;rfl
  |int i=>obtain⟨t,rfl⟩:=r;rfl
  |str z=>obtain⟨t,rfl⟩:=r;rfl
  |_=>exact absurd (show false=true from f) Bool.false_ne_true
theorem Zeg {x:V}:∀ {xs:List V} {us:List Value},ZF xs us->xs.all Zby=true->us.any (eqU x)=xs.any λ y=>eqV y x
  |_,_, .nil,_=>rfl
  | y::xs,u::us, .cons r t,f=>by
    rw[List.all_cons,and_eq_true]at f;rw[any_cons,any_cons,ZhO r f.1,Zeg t f.2]
theorem ZcJ {A:Around}{s:Shared}{x:V}{v:Value}(rx:Zw x v)(fx:Zby x=true):∀ {xs:List V} {us:List Value},ZF xs us->xs.all Zby=true->∀ u∈us,SeqAt.EqAt A s u v (eqU x u)
  |_,_, .nil,_=>λ u hu=>by cases hu
  | y::xs,u::us, .cons r t,f=>λ u' hu=>by
    rw[List.all_cons,and_eq_true]at f;rcases List.mem_cons.mp hu with rfl|hu
    . rw[ZhO r f.1];exact eqAt_V r rx f.1 fx
    . exact ZcJ rx fx t f.2 u' hu
noncomputable def inV (x:V)(xs:List V):Bool:=xs.any λ y=>eqV y x
noncomputable def rIn (K:Frag)(neg:Bool):R2:=λ x y H Q=>∃ p xs,y = .ref p/\(SqL K H p xs\/SqT K H p xs)/\Zby x=true/\xs.all Zby=true/\Q (.bl (if neg then !inV x xs else inV x xs)) H
theorem ZdO:OpR X (compareOp .NotIn) (rIn X.K true):=by
  intro pins s σ H x y v u Q I rx ry h;obtain⟨p,xs,rfl,hq,fx,fs,q⟩:=h;cases ry;rcases hq with hq|hq
  . obtain⟨its,r,pl,hz⟩:=I.list hq;refine SeqAt.notIn_listAt (eqU x) pl.isList (λ w hw=>ZcJ rx fx r fs w (by simpa using hw)) ⟨.bl _,H,I,rfl,?_⟩;rw[show its.toArray.any (eqU x)=its.any (eqU x) by simp,Zeg r fs];exact q
  . obtain⟨its,r,pl,hz⟩:=I.tuple hq;refine SeqAt.notIn_tupleAt (eqU x) pl (λ w hw=>ZcJ rx fx r fs w (by simpa using hw)) ⟨.bl _,H,I,rfl,?_⟩;rw[show its.toArray.any (eqU x)=its.any (eqU x) by simp,Zeg r fs];exact q
theorem Zee:Xk X (.type "list") (λ xs H Q=>∃ p ys,xs=[.ref p]/\(SqL X.K H p ys\/SqT X.K H p ys)/\∀ l,H l=none->Q (.ref l) (upd H l (.lst ys))):=by
  intro pins s σ H xs us Q I r h;obtain⟨p,ys,rfl,hq,q⟩:=h;obtain⟨u,rfl,rx⟩:=X9 r;cases rx;have fin:∀(its:List Value),ZF ys its->ys.length<=sizeLine->∀(h':Heap)(c':Nat),(∀ b o',s.heap.get? b=some o'->h'.get? b=some o') ->
      h'.get? s.heap.objs.size=some { cls:=.type "list",dict:=none,data:=.seq its.toArray c',slots := #[] }->EP X pins σ Q (.ref s.heap.objs.size) { s with heap:=h' }:=λ its r' hz h' c' kp e=>
    ⟨.ref s.heap.objs.size,_,I.laid (t':=s.toks) kp (le_refl _) (show ZR X.prog X.w _ h' _ (.lst ys) from⟨hz,its,c',r',e⟩),rfl,q _ (I.hok.fresh (le_refl _))⟩
  rcases hq with hq|hq
  . obtain⟨its,r',pl,hz⟩:=I.list hq;have hlen:=r'.length;obtain⟨o,ho,hc,n,hd⟩:=pl.isList;exact call_list_seq p (.inl rfl) ho hc hd (λ h' c' kp e=>fin its r' hz h' c' kp e) (by simp only[size_toArray] <;> omega)
  . obtain⟨its,r',pl,hz⟩:=I.tuple hq;have hlen:=r'.length;obtain⟨o,ho,hc,n,hd⟩:=pl;exact call_list_seq p (.inr rfl) ho hc hd (λ h' c' kp e=>fin its r' hz h' c' kp e) (by simp only[size_toArray] <;> omega)
noncomputable def tyV (K:Frag)(T:String)(x:V)(H:Hp):Prop:=match x with
  |.str _=>T="str"
  |.int _=>T="int"
  | .ref p=>(T="list"/\∃ xs,SqL K H p xs)\/(T="tuple"/\∃ o,K.lookup p=some o/\o.cls = .type "tuple"/\o.dict=none) \/
      (T="dict"/\((∃ kvs,H p=some (.dK kvs))\/∃ kvs,H p=some (.dT kvs)))\/(T="set"/\∃ S n,H p=some (.set S n))
  |_=>False
theorem tyV_is {pins:List (Addr×Obj)}{σ:St}{H:Hp}{s:Shared}{T:String}{x:V}{v:Value}(I:Inv X pins σ H s)(r:Zw x v)(ty:tyV X.K T x H) :
    s.TypeIs v T/\∀ a,v = .ref a->∃ ob,s.heap.get? a=some ob/\ob.dict=none:=by
  cases x with
  |str z=>
    obtain⟨t,rfl⟩:=r;cases (show T="str" from ty);exact⟨typeIs_str s z t,λ _ e=>nomatch e⟩
  |int i=>
    obtain⟨t,rfl⟩:=r;cases (show T="int" from ty);exact⟨typeIs_int s i t,λ _ e=>nomatch e⟩
  |ref p=>
    cases r;rcases ty with ⟨rfl,xs,hq⟩|⟨rfl,o,hk,hc,hd⟩|⟨rfl,hk⟩|⟨rfl,S,n,hk⟩
    . obtain⟨its,_,pl,_⟩:=I.list hq;refine⟨pl.isList.typeIs,λ a e=>?_⟩;cases e;obtain⟨o,n,e,c,hd,_⟩:=pl;exact⟨o,e,hd⟩
    . refine⟨⟨o,I.kIn p o hk,hc⟩,λ a e=>?_⟩;cases e;exact⟨o,I.kIn _ o hk,hd⟩
    . have z:∃ o,s.heap.get? p=some o/\o.ExactDict:=by
        rcases hk with ⟨kvs,hk⟩|⟨kvs,hk⟩
        . obtain⟨_,_,_,_,o,_,_,e,ex,_⟩:=I.hok p _ hk;exact⟨o,e,ex⟩
        . obtain⟨_,_,_,_,o,_,_,e,ex,_⟩:=I.hok p _ hk;exact⟨o,e,ex⟩
      obtain⟨o,e,ex⟩:=z;refine⟨⟨o,e,ex.1⟩,λ a e2=>?_⟩;cases e2;exact⟨o,e,ex.2.1⟩
    . obtain⟨o,_,_,_,e,ex,_⟩:=I.hok p _ hk;refine⟨⟨o,e,ex.1⟩,λ a e2=>?_⟩;cases e2;exact⟨o,e,ex.2.1⟩
  |_=>exact False.elim ty
noncomputable def tBM (K:Frag)(T:String)(r:V->List V->Hp->VK->Prop)(to:TE)(t:TA):TE:=λ σ H Q=>to σ H λ x H1=>tyV K T x H1/\t σ H1 λ xs H2=>r x xs H2 Q
variable {o e:Expr}{es:List Expr}{to:TE}{t:TA}{name:Str}{apos cpos:Pos}{T id:String}{r:V->List V->Hp->VK->Prop}
theorem JO (pa:PlainAttrs T)(slot:Slot T name id)(hty:typeOf (.builtin id)=pure (.type "method_descriptor"))(hm:MtR X id r)(ho:PE X o to)(ha:PA X (e::es) t)(hbase:attributeBase o name X.env (eval o X.env)=eval o X.env:=by rfl)(hfew:((backTo cpos (starEach (e::es) X.env)).all (λ x => !x.1) && (backToKw cpos (keywordEach [] X.env)).all (λ x=>x.1.isSome)
      && decide ((e::es).length+([]:List Keyword).length+(if ([]:List Keyword).isEmpty then 0 else 1)<30))=true:=by rfl)(hline:(apos.endLine == cpos.line)=true:=by rfl)(hs:starEach (e::es) X.env=(false,eval e X.env)::starEach es X.env:=by rfl)(hplain:(backTo cpos (starEach es X.env)).any (·.1)=false:=by rfl) :
    PE X (.Call (.Attribute o name apos) (e::es) [] cpos) (tBM X.K T r to t):=by
  refine⟨?_⟩;intro pins s σ H Q I h;refine wpAny_Call_method_late hbase hfew hline rfl (thn (ho pins s σ H _ I h) λ v s1 zz9=>?_);obtain⟨x,H1,I1,r1,ty,q1⟩:=zz9;obtain⟨h1,h2⟩:=tyV_is I1 r1 ty;refine⟨T,id,pa,slot,hty,h1,h2,?_⟩;have hA:=ha cpos pins s1 σ H1 _ I1 q1;rw[hs]at hA ⊢;refine Calls.callWith_builtin (by show(false || (backTo cpos (starEach es X.env)).any (·.1))=false;rw[hplain] <;> rfl) (Calls.evalArgs_plain ?_);exact thn hA λ us s2 ⟨vs,H2,I2,r2,q2⟩=>hm pins s2 σ H2 x vs v us Q I2 r1 r2 q2
/- xs.append(e),list.index on a module's tuple .. are MtR facts of 06m -/
end
open PySem PySem.Spec PyProof.Rows
noncomputable def MtM (X:Cx)(id:String)(r:V->List V->Hp->VK->Prop):Prop:=
  ∀(pins:List (Addr×Obj))(s:Shared)(σ:St)(H:Hp)(x:V)(xs:List V)(v:Value)(us:List Value)(Q:VK),Inv X pins σ H s->Zw x v->ZF xs us->r x xs H Q ->
    wpAny (model X.prog X.w) X.A (call (.builtin id) (v::us)) (EP X pins σ Q) X.xe s
theorem ZF.one:∀ {x:V} {us:List Value},ZF [x] us->∃ u,us=[u]/\Zw x u
  |_,_, .cons r .nil=>⟨_,rfl,r⟩
section
variable {X:Cx}{pins:List (Addr×Obj)}{σ:St}{H:Hp}{s:Shared}{l b:Addr}{xs ys zs:List V}
theorem Inv.lset {its its':List Value}{n:Nat}{f:Array Value->Array Value}{t':Nat}(I:Inv X pins σ H s)(hH:H l=some (.lst xs))(e:s.heap.get? l=some { cls:=.type "list",data:=.seq its.toArray n })(hf:f its.toArray=its'.toArray)(hv:ZF ys its')(hz:ys.length<=sizeLine) :
    Inv X pins σ (upd H l (.lst ys)) { s with heap:=s.heap.update l (Obj.mapSeq f),toks:=t' }:=by
  have q:=PySem.IsL.update e f;rw[hf]at q;refine I.write (x:=l) (e:=l) (by rw[hH];exact trivial) (.inl rfl) (λ b' u hb hu=>(Heap.get?_update_other s.heap (Obj.mapSeq f) (Ne.symm hb)).trans hu) ⟨_,q⟩ ?_;exact⟨hz,its',_,hv,q⟩
theorem Inv.lnew {its:List Value}{t':Nat}(I:Inv X pins σ H s)(hv:ZF ys its)(hz:ys.length<=sizeLine) :
    Inv X pins σ (upd H s.heap.objs.size (.lst ys)) { s with heap:=s.heap.push { cls:=.type "list",data:=.seq its.toArray },toks:=t' }:=
  I.laid (λ _ _ q=>Heap.get?_push_of_some _ q) (le_refl _) ⟨hz,its,0,hv,Heap.get?_push_size _ rfl⟩
theorem Inv.fresh (I:Inv X pins σ H s):H s.heap.objs.size=none:=I.hok.fresh (le_refl _)
theorem Inv.lstM (I:Inv X pins σ H s)(hH:H l=some (.lst xs)):xs.length<=sizeLine/\∃(its:List Value)(n:Nat),ZF xs its/\xs.length=its.length/\s.heap.get? l=some { cls:=.type "list",data:=.seq its.toArray n }:=by
 obtain⟨z,its,n,r,e⟩:=I.hok l _ hH;exact⟨z,its,n,r,r.length,e⟩
end
section
variable {X:Cx}
noncomputable def Zii:V->List V->Hp->VK->Prop:=λ x vs H Q=>∃ l xs y,x = .ref l/\vs=[y]/\H l=some (.lst xs)/\xs.length<sizeLine/\Q .non (upd H l (.lst (xs++[y])))
theorem Y3:MtM X "list.append" Zii:=by
 intro pins s σ H x vs v us Q I rx rv h;obtain⟨l,xs,y,rfl,rfl,hH,hz,q⟩:=h;cases rx;obtain⟨u,rfl,ru⟩:=rv.one;obtain⟨z,its,n,r,hl,e⟩:=I.lstM hH;refine call_meets F.slot_list_append ⟨_,e,rfl⟩ F.entry_list_append (F.args_list_append_2 _ _) (PySem.list_append l its.toArray n u (by rw[size_toArray];omega)) ⟨e,?_⟩;refine⟨.non,_,I.lset (its':=its++[u]) hH e (by simp) (r.append (.cons ru .nil)) ?_,rfl,q⟩;rw[length_append,length_singleton];omega
noncomputable def rCat:R2:=λ x y H Q=>∃ l b xs zs,x = .ref l/\y = .ref b/\H l=some (.lst xs)/\H b=some (.lst zs)/\xs.length+zs.length<=sizeLine/\∀ p,H p=none->Q (.ref p) (upd H p (.lst (xs++zs)))
theorem Zhh:OpR X (binaryOp .Add) rCat:=by
 intro pins s σ H x y v u Q I rx ry h;obtain⟨l,b,xs,zs,rfl,rfl,hH,hB,hz,q⟩:=h;cases rx;cases ry;obtain⟨z,its,n,r,hl,e⟩:=I.lstM hH;obtain⟨z2,its2,n2,r2,hl2,e2⟩:=I.lstM hB;refine PySem.P.add_list e e2 ?_ (by rw[size_toArray,size_toArray];omega);have ea:its.toArray++its2.toArray=(its++its2).toArray:=by simp
 rw[ea];exact⟨.ref _,_,I.lnew (t':=s.toks) (r.append r2) (by rw[length_append];omega),rfl,q _ I.fresh⟩
end
section
variable {prog:Program}{w:World}{A:Around}{E:Value->Shared->Prop}{s:Shared}
end
section
variable {X:Cx}
end
end L2
namespace Att
open PySem PySem.W PySem.Calls PyProof.Rows
theorem ZbR {P:Params}{h:Heap}:∀(ns:List Int)(vs:List Value),WellAll P h vs (ns.map WData.int)->IntsAre vs ns:=by
  intro ns
  induction ns with
  |nil=>
    intro vs w;rw[map_nil]at w;cases w;exact .nil
  |cons n ns ih=>
    intro vs w;rw[map_cons]at w;cases w with
    |cons a b=>
      cases a;exact .cons _ _ (ih _ b)
theorem Zgh {l:OpenLaw}{n:Nat}(hn:l.most=some n){P:Params}{h:Heap}{args:List WData}{vals:List Value}(hpre:l.row.toRowW.claim.pre args=true)(hwl:WellAll P h vals args) :
    ∃ a vs ns,vals=[Value.ref a]/\args=[WData.list (ns.map WData.int)]/\h.get? a=some { cls:=.type "list",data:=.seq vs.toArray }/\IntsAre vs ns/\ns.length<=n:=by
  have hsh:WShape.hasAll [] args [.list .int]=true:=(pre_splitW hpre).1;have hc:l.pre.holds [] { args:=args }=true:=(pre_splitW hpre).2;obtain⟨d,r,rfl,h1,h2⟩:=hasAllW_cons hsh;obtain rfl:=hasAllW_nil h2;obtain⟨xs,rfl,h3⟩:=hasW_list h1;obtain⟨ns,rfl⟩:=items_int h3;have hlen:ns.length<=n:=by
    unfold OpenLaw.pre at hc;have h4:(WTm.not (.lt (.lit (.int (n:Int))) (.len (.arg 0)))).holds [] { args:=[.list (ns.map .int)] }=true:=by
      have h4:=(holds_andW hc).1;rw[hn]at h4;exact h4
    have h5:=condW_of h4 (w_not (w_lt w_lit (w_len_list (w_arg rfl))));rw[length_map]at h5;refine Nat.le_of_not_lt λ q=>?_;have q':(n:Int)<((ns.length:Nat):Int):=by omega
    first
      | (rw[decide_eq_true q']at h5;exact absurd h5 (by decide))
      | (simp at h5;omega)
  cases hwl with
  |cons w1 w2=>
    cases w2;cases w1 with
    |list ho hall=>exact⟨_,_,ns,rfl,rfl,ho,ZbR ns _ hall,hlen⟩
theorem Zgk (l:OpenLaw)(args:List WData):l.row.toRowW.claim.post args (.bool true) args=true:=
  postW_of (r:=l.row.toRowW) (X:=(true == true))
    (show WShape.has [] (.bool true) .bool=true by first|rfl|decide|simp[WShape.has,WShape.arms,WShape.armsAll])
    (show(WTm.eq .res (.lit (.bool true))).value [] { args:=args,res:=some (.bool true),after:=args }=some (.bool (true == true)) from w_eq_bool (w_res rfl) w_lit) rfl
theorem attach_call {l:OpenLaw}{n:Nat}{q:Program}{loose:List Str}{XP:(Str->Option Value)->Heap->Prop}{YP:World->Heap->Prop}{d:DefRec}(hn:l.most=some n)(hdf:d.params.defaults=[])(call:∀(w:World)(s₀ s₁:Shared)(mg mb:Str->Option Value)(fa:Addr)(o:Obj)(pm cd doc:Value)(a:Addr)(vs:List Value)(ns:List Int),
      Ground q loose [] XP w s₀ mg mb s₁.heap->YP w s₁.heap ->
      s₁.heap.get? fa=some o->o.data = .func (docDef d.name d.params d.body d.scope pm cd doc)->s₁.heap.CodeRec cd d.name->mg d.name=some (.ref fa) ->
      s₁.heap.get? a=some { cls:=.type "list",data:=.seq vs.toArray }->IntsAre vs ns->ns.length<=n->s₁.gens = #[] ->
      codeAny (model l.prog w) callerA (.call (.ref fa) ⟨[.ref a],[]⟩) (λ r s'=>r = .ok (.ret (.bool true))/\OldK s₁.heap s'.heap/\s'.os=s₁.os/\AllBare s'.gens) s₁) :
    WalkO q loose XP YP l.row.toRowW d [] (λ f vs=>PySem.call f vs):=by
  intro w s₀ s₁ mg mb G Y fa o pm cd doc dV kV ho hd hcd hD hmg hg args vals as hpre hlay hrd hwl hlo;obtain rfl:dV = .none:=Dflts.none hD hdf;obtain rfl:kV = .none:=Dflts.noKw hD;obtain⟨a,vs,ns,rfl,rfl,hobj,hints,hlen⟩:=Zgh hn hpre hwl;refine enter_call (codeAny_mono (call w s₀ s₁ mg mb fa o pm cd doc a vs ns G Y ho (fd_plain hd) hcd hmg hobj hints hlen hg) λ r s' hq=>?_);obtain⟨rfl,h2,h3,h4⟩:=hq;exact⟨.inl ⟨.bool true, .bool true,[],rfl,λ _=>rfl, .bool true,Zgk l _,λ _=>⟨List.Pairwise.nil,λ _ hm=>(nomatch hm)⟩⟩,h2,h3,h4⟩
section
variable {prog:Program}{w:World}{A:Around}{E:Value->Shared->Prop}{s:Shared}{K:Frag}
noncomputable def ledger (h:Heap)(L d:Addr):List (Addr×Obj):=(List.range h.objs.size).filterMap λ a=>if a=L\/a=d then none else (h.get? a).map λ o=>(a,o)
end
end Att
namespace L2
open PySem PySem.Spec PyProof.Rows
theorem Zc3:∀ {vs:List Value} {ns:List Int},IntsAre vs ns->ZF (ns.map V.int) vs
  |_,_, .nil => .nil
  |_,_, .cons n t h => .cons ⟨t,rfl⟩ (Zc3 h)
noncomputable def Only (H:Hp):Prop:=∀ b,H b=none\/∃ o xs,H b=some (.frz o (.lst xs))
theorem Zhz {P:Program}{w:World}{K:Frag}{mg mb:Str->Option Value}{CX:CXT}{k:Nat}{fa a:Addr}{fd:FuncData}{x:Str}{sp:Sp}{s₁:Shared}{vs:List Value}{ns:List Int}(KX:K.In s₁.heap)(hns:s₁.heap.Ns mainGlobals mg)(hb:s₁.heap.Ns builtinsNs mb)(hbb:∀ x:Str,x≠"__name__"->mb x=bootBuiltins x)(hlim:s₁.heap.NoLimit)(hg:s₁.gens = #[])(ha:s₁.heap.get? a=some { cls:=.type "list",data:=.seq vs.toArray })(hi:IntsAre vs ns)(hl:ns.length<=sizeLine)(hr:Room k callerA)(F:∀ base:Heap,K.In base->base.Ns mainGlobals mg->FnOk P w K mg base CX k fa fd [x] sp)(hbind:∀(s:Shared)(u:Value),BindsTo s fd ⟨[u],[]⟩ [(x,u)])(hsp:∀ H:Hp,Only H->SqL K H a (ns.map V.int)->sp [.ref a] H (λ v _=>v = .bl true) λ _ _ _=>False)(hCX:∀ H e s',CX [] H s₁ (λ _ _ _=>False) e s'->False) :
    codeAny (model P w) callerA (.call (.ref fa) ⟨[.ref a],[]⟩) (λ r s'=>r = .ok (.ret (.bool true))/\OldK s₁.heap s'.heap/\s'.os=s₁.os/\AllBare s'.gens) s₁:=by
  have rv:=Zc3 hi;have lenV:=hi.length;have core:∀ H:Hp,Only H->SqL K H a (ns.map V.int)->HOk P w H s₁.heap->(∀ b,H b≠none->b=a)->(H a≠none->K.lookup a=none) ->
      codeAny (model P w) callerA (.call (.ref fa) ⟨[.ref a],[]⟩) (λ r s'=>r = .ok (.ret (.bool true))/\OldK s₁.heap s'.heap/\s'.os=s₁.os/\AllBare s'.gens) s₁:=by
    intro H hO hS hok hA hK;have base_of:∀ {b:Addr} {o:Obj},s₁.heap.get? b=some o->H b=none->(Zd7 s₁.heap H).get? b=some o:=λ e n=>ZhJ e n;have noA:∀ {b:Addr} {o:Obj} {es:Array DictEntry} {ep:Nat},s₁.heap.get? b=some o->o.data = .dict es ep->H b=none:=λ {b o es ep} e d=>by
      cases q:H b with
      |none=>rfl
      |some u=>
        have e':b=a:=hA b (by rw[q];simp);subst e';rw[ha]at e;cases e;have d':Data.seq vs.toArray _=Data.dict es ep:=d;cases d'
    have nsK:∀ {b:Addr} {m:Str->Option Value},s₁.heap.Ns b m->(Zd7 s₁.heap H).Ns b m:=λ {b m} ⟨o,es,ep,e,d,r⟩=>⟨o,es,ep,base_of e (noA e d),d,r⟩;have hKb:K.In (Zd7 s₁.heap H):=λ b o e=>base_of (KX b o e) (by
      cases q:H b with
      |none=>rfl
      |some u=>
        have e':b=a:=hA b (by rw[q];simp);subst e';rw[hK (by rw[q];simp)]at e;cases e)
    have hM:Mod K mg (Zd7 s₁.heap H):=⟨hKb,nsK hns,⟨mb,nsK hb,hbb⟩,let ⟨mc,h1,h2⟩:=hlim;⟨mc,nsK h1,h2⟩⟩;have e0:Env0 P w K mg (Zd7 s₁.heap H) callerA [] s₁ H:=⟨rfl,hM,λ b o e=>Ziv e,Nat.le_of_eq (ZgD _ _),trivial,λ b hb=>absurd (show b∈([]:List Addr) from hb) (by simp),hok, .of_eq hg⟩;refine codeAny_mono ((F _ hKb (nsK hns)).run callerA [] s₁ H ⟨[.ref a],[]⟩ [.ref a] [.ref a] _ _ hr e0 (hbind s₁ (.ref a)) (.cons rfl .nil) (hsp H hO hS)) λ r s' h=>?_;cases r with
    |error e=>exact(hCX H e s' h).elim
    |ok fl=>
      cases fl with
      |next=>exact False.elim h
      |brk=>exact False.elim h
      |cont=>exact False.elim h
      |ret u=>
        obtain⟨v,H',os,bare,un,hok',r',q⟩:=h;have q':v = .bl true:=q;subst q';obtain rfl:u=Value.bool true:=r';refine⟨rfl,OldK.of_keep λ b o e=>?_,os,bare⟩;cases q:H b with
        |none=>exact un.keep b o e q (by intro z;exact absurd (show b∈([]:List Addr) from z) (by simp)) (by simp)
        |some u=>
          rcases hO b with z|⟨ob,xs,z⟩
          . rw[q]at z;cases z
          . have z2:=un.frzs b ob _ z;obtain⟨e1,_⟩:=hok b _ z;obtain⟨e2,_⟩:=hok' b _ z2;rw[e]at e1;cases e1;exact e2
  cases hk:K.lookup a with
  |some o=>
    have e:=KX a o hk;rw[ha]at e;cases e;refine core (λ _=>none) (λ _ => .inl rfl) (.inr ⟨_,vs.toArray,_,hk,rfl,rfl,rfl,by rw[size_toArray,lenV];exact hl,by simpa using rv⟩) (λ b u z=>by have z':(none:Option HO)=some u:=z;cases z') (λ b z=>absurd rfl z) λ z=>absurd rfl z
  |none=>
    refine core (λ b=>if b=a then some (.frz { cls:=.type "list",data:=.seq vs.toArray } (.lst (ns.map V.int))) else none) (λ b=>?_) (.inl (.inr ⟨{ cls:=.type "list",data:=.seq vs.toArray },if_pos rfl⟩)) (λ b u z=>?_) (λ b z=>?_) λ _=>hk
    . by_cases hb:b=a
      . exact .inr ⟨_,_,if_pos hb⟩
      . exact .inl (if_neg hb)
    . by_cases hb:b=a
      . have z':=(if_pos hb).symm.trans z;cases z';subst hb;exact⟨ha,by rw[length_map];exact hl,vs,_,rv,ha⟩
      . have z':=(if_neg hb).symm.trans z;cases z'
    . by_cases hb:b=a
      . exact hb
      . exact absurd (if_neg hb) z
open PySem PySem.Spec PyProof.Rows
theorem walk_of {l:PySem.W.OpenLaw}{n k:Nat}{q:Program}{loose:List Str}{XP:(Str->Option Value)->Heap->Prop}{YP:World->Heap->Prop}{d:DefRec}{K:Params->Frag}{CX:World->CXT}{sp:World->Sp}{x:Str}(hn:l.most=some n)(hn2:n<=sizeLine)(hdf:d.params.defaults=[])(hr:Room k callerA)(hY:∀(w:World)(h:Heap),YP w h->(K w.params).In h)(F:∀(w:World)(mg:Str->Option Value)(fa:Addr)(h:Heap),(K w.params).In h->h.Ns mainGlobals mg->mg d.name=some (.ref fa) ->
      ∃ fd:FuncData,(∀(s:Shared)(u:Value),BindsTo s fd ⟨[u],[]⟩ [(x,u)]) /\
        ∀ base:Heap,(K w.params).In base->base.Ns mainGlobals mg->FnOk l.prog w (K w.params) mg base (CX w) k fa fd [x] (sp w))(hsp:∀(w:World)(H:Hp)(a:Addr)(ns:List Int),ns.length<=n->Only H->SqL (K w.params) H a (ns.map V.int)->sp w [.ref a] H (λ v _=>v = .bl true) λ _ _ _=>False)(hCX:∀(w:World)(H:Hp)(s:Shared)(e:Value)(s':Shared),CX w [] H s (λ _ _ _=>False) e s'->False) :
    PySem.W.WalkO q loose XP YP l.row.toRowW d [] (λ f vs=>PySem.call f vs):=by
  refine Att.attach_call hn hdf λ w s₀ s₁ mg mb fa o pm cd doc a vs ns G Y ho hd hcd hmg hobj hints hlen hg=>?_;have KX:=hY w _ Y;obtain⟨fd,hb,hF⟩:=F w mg fa _ KX G.T.g hmg;exact Zhz KX G.T.g G.T.b G.T.builtins G.T.nolimit hg hobj hints (le_trans hlen hn2) hr hF hb (λ H hO hS=>hsp w H a ns hlen hO hS) λ H e s'=>hCX w H s₁ e s'
open PySem PySem.Spec PyProof.Rows
noncomputable def Xs (s:Stmt):Arguments:=match s with
  |.FunctionDef _ a _ _ _ _ _ _ _ _=>a
  |_=>{ posonlyargs:=[],args:=[],vararg:=none,kwonlyargs:=[],kw_defaults:=[],kwarg:=none,defaults:=[] }
noncomputable def ZY (s:Stmt):List Stmt:=match s with
  |.FunctionDef _ _ b _ _ _ _ _ _ _=>b
  |_=>[]
noncomputable def Zh (s:Stmt):Scope:=match s with
  |.FunctionDef _ _ _ _ _ _ sc _ _ _=>sc
  |_=>{ kind:=.function,names:=[],isGenerator:=false,isCoroutine:=false }
noncomputable abbrev CX0:CXT:=λ _ _ _ _ _ _=>False
noncomputable abbrev E0:XK:=λ _ _ _=>False
theorem Zbu {X:Cx}:YF CX0 X E0:=λ _ _ _ _ _ _ _ h=>h.elim
structure Fun (K:Frag)(x qual:Str)(st:Stmt)(f:Addr)(fd:FuncData):Prop where
  ex:∃(oc:Value)(od:Option Addr)(kV doc pm:Value)(an:Option Addr)(cdv ct:Value)(osl:Array (Option Value)),
    fd=fnOf x qual (Xs st) (ZY st) (Zh st) .none kV doc pm an cdv ct/\K.lookup f=some ⟨oc,od, .func fd,osl⟩/\codeIn K cdv qual=true
  kp:keepIn K (.ref f)=true
section
variable {P:Program}{w:World}{K:Frag}{mg:Str->Option Value}{base:Heap}
theorem Fun.ok {x qual:Str}{st:Stmt}{f:Addr}{fd:FuncData}{N ps:List Str}{k:Nat}{sp:Sp}(F:Fun K x qual st f fd)(S:FnScope N ps (Zh st))(len:∀ vs H Q E,sp vs H Q E->vs.length=ps.length)(hbody:∀(cdv:Value)(A:Around)(outer:List Env)(s:Shared)(H:Hp)(vs:List V)(Q:VK)(E:XK),Room k (A.deeper (envOfC qual (Zh st) s.heap.objs.size f cdv))->sp vs H Q E ->
      ∃ t,PSs (YW CX0 P w K mg base N qual (Zh st) f cdv A outer s H E).nox (ZY st) t/\t { nx:=λ _ H'=>Q .non H',rt:=Q } (ZaH N vs) H):FnOk P w K mg base CX0 (k+1) f fd ps sp:=by
  obtain⟨oc,od,kV,doc,pm,an,cdv,ct,osl,rfl,lk,hcd⟩:=F.ex;refine fn_of lk hcd S len λ A outer s H vs Q E hr hsp=>?_;obtain⟨t,h,q⟩:=hbody cdv A outer s H vs Q E hr hsp;exact⟨t,h.nox,q⟩
theorem Fun.binds {x qual:Str}{st:Stmt}{f:Addr}{fd:FuncData}{ps:List Str}(F:Fun K x qual st f fd)(h:∀(kV doc pm:Value)(an:Option Addr)(cdv ct:Value)(us:List Value),us.length=ps.length->bindArgs (fnOf x qual (Xs st) (ZY st) (Zh st) .none kV doc pm an cdv ct) ⟨us,[]⟩=pure (ps.zip us)):Xt K fd ps []:=by
 obtain⟨oc,od,kV,doc,pm,an,cdv,ct,osl,rfl,lk,hcd⟩:=F.ex;exact .all (h kV doc pm an cdv ct)
theorem ZhL {x qual:Str}{st:Stmt}{f:Addr}{oc:Value}{od an:Option Addr}{osl:Array (Option Value)}{kV doc pm cdv ct:Value}(l:K.lookup f=some ⟨oc,od, .func (fnOf x qual (Xs st) (ZY st) (Zh st) .none kV doc pm an cdv ct),osl⟩)(c:codeIn K cdv qual=true)(k:keepIn K (.ref f)=true):Fun K x qual st f (fnOf x qual (Xs st) (ZY st) (Zh st) .none kV doc pm an cdv ct):=⟨⟨oc,od,kV,doc,pm,an,cdv,ct,osl,rfl,l,c⟩,k⟩
end
theorem ZP {A:Around}{k:Nat}(hr:Room k A):A.units+1<cLine:=Nat.lt_of_le_of_lt (Nat.add_le_add_left (by decide:1<=64) _) hr.units
theorem Zs {n:Nat}(h:n<=1000):n<sizeLine:=Nat.lt_of_le_of_lt h (by decide)
section
variable {X:Cx}
theorem pv (i:Nat){x:Str}{pos:Pos}(hN:X.N[i]? = some x:=by rfl)(hv:Vis X.env.scope x:=by first|exact Or.inl rfl|exact Or.inr (Or.inl rfl)|exact Or.inr (Or.inr rfl))(hd:(x == ("__debug__":Str))=false:=by decide)(hcd:(x == ("__classdict__":Str))=false:=by decide):PE X (.Name x pos) (tVar i):=pe_var hN hv hd hcd
end
section
variable {X:Cx}
end
theorem ZU {A B:Prop}(h:B):if false=true then A else B:=by
 rw[if_neg Bool.false_ne_true];exact h
theorem Z8 {A B:Prop}(h:A):if true=true then A else B:=by
 rw[if_pos rfl];exact h
theorem Yb {c A B:Prop}[Decidable c](h1:c->A)(h2:¬ c->B):if c then A else B:=by
  by_cases h:c
  . rw[if_pos h];exact h1 h
  . rw[if_neg h];exact h2 h
noncomputable def Zv (H H':Hp):Prop:=∀ b o,H b=some o->H' b=some o
theorem Zv.refl (H:Hp):Zv H H:=λ _ _ h=>h
theorem Zv.trans {H H1 H2:Hp}(a:Zv H H1)(b:Zv H1 H2):Zv H H2:=λ c o h=>b c o (a c o h)
theorem Zv.free {H H':Hp}(e:Zv H H'){l:Addr}(h:H' l=Option.none):H l=Option.none:=by
  cases q:H l with
  |none=>rfl
  |some o=>
    rw[e l o q]at h;cases h
theorem Zv.seq {K:Frag}{H H':Hp}{a:Addr}{xs:List V}(e:Zv H H')(h:SqL K H a xs):SqL K H' a xs:=by
  rcases h with (h|⟨o,h⟩)|h
  . exact .inl (.inl (e _ _ h))
  . exact .inl (.inr ⟨o,e _ _ h⟩)
  . exact .inr h
section
variable {κ:Type}[DecidableEq κ]
end
open PySem PySem.Spec PyProof.Rows
structure Dn (P:Program)(w:World)(K:Frag)(mg:Str->Option Value)(base:Heap)(k:Nat)(x:Str)(ps:List Str)(sp:Sp):Prop where
  ex:∃ f fd,FnOk P w K mg base CX0 k f fd ps sp/\mg x=some (.ref f)/\keepIn K (.ref f)=true/\Xt K fd ps []
noncomputable def tFn (sp:Sp)(t:TA):TE:=λ σ H Q=>t σ H λ vs H1=>sp vs H1 Q E0
section
variable {X:Cx}{k:Nat}{ps:List Str}{sp:Sp}{x:Str}{p pos:Pos}{e:Expr}{es:List Expr}{t:TA}
theorem Zz (D:Dn X.prog X.w X.K X.mg X.base k x ps sp)(hr:Room k X.A)(ha:PA X (e::es) t)(hg:Gl X x:=by rfl)(hdb:(x == ("__debug__":Str))=false:=by decide)(he:starEach (e::es) X.env=(false,eval e X.env)::starEach es X.env:=by rfl)(hpl:(backTo pos (starEach es X.env)).any (·.1)=false:=by rfl) :
    PE X (.Call (.Name x p) (e::es) [] pos) (tFn sp t):=by
  obtain⟨f,fd,F,hm,hk,hb⟩:=D.ex;have q:=ZfF (p:=p) (pos:=pos) F hr hg hm hk hb .nil Zbu ha hdb he hpl;have e:ZgU sp [] E0 t=tFn sp t:=by
    funext σ H Q;show t σ H (λ vs H1=>sp (vs++[]) H1 Q E0)=t σ H λ vs H1=>sp vs H1 Q E0;simp only[append_nil]
  rw[<- e];exact q
theorem Zf7 {k:Int}{m:Nat}(h:k.natAbs<2 ^ m):Builtin.Int.intBits k<=m:=by
  unfold Builtin.Int.intBits;split
  . exact zero_le _
  . have:k.natAbs.log2<m:=by
      rcases Nat.eq_zero_or_pos k.natAbs with h0|hp
      . exfalso;rename_i hz;apply hz;have:k=0:=by omega
        rw[this];rfl
      . exact(Nat.log2_lt (Nat.ne_of_gt hp)).mpr h
    omega
noncomputable def BIG:Nat:=2 ^ 4000
theorem lt_big {x:Nat}{m:Nat}(h:x<2 ^ m)(hm:m<=4000):x<BIG:=lt_of_lt_of_le h (Nat.pow_le_pow_right (by decide) hm)
noncomputable def Zga (i j:Int):Prop:=i.natAbs<BIG/\j.natAbs<BIG
theorem Xr:OpR X (binaryOp .Mult) (rI Zga λ i j => .int (i * j)):=opI λ _ _ _ _ _ _ _ hc q=>
 mul_int q (PySem.IntMulOk.of_le (Zf7 hc.1) (Zf7 hc.2) (by decide))
noncomputable def CDivL (_ j:Int):Prop:=0<j/\j.natAbs<BIG
theorem Za1:OpR X (binaryOp .FloorDiv) (rI CDivL λ i j => .int (i / j)):=opI λ i j _ _ _ _ _ hc q=>by
  have h1:(0:Int)<j:=hc.1;refine floordiv_int (by omega) ?_ (.inl (PyProof.noPylong_of_log2 ?_))
  . rw[Int.fdiv_eq_ediv_of_nonneg i (Int.le_of_lt h1)];exact q
  . have:j.natAbs.log2<4000:=(Nat.log2_lt (by omega)).mpr hc.2;omega
theorem XX:Xk X (.builtin "isinstance") (λ xs H Q=>∃ x n t b,xs=[x,V.ty n]/\TyOf X.K H x t/\PySem.W.kitOne X.K t (.type n)=some b/\Q (.bl b) H):=by
  intro pins s σ H xs us Q I r h;obtain⟨x,n,t,b,rfl,ty,e,q⟩:=h;cases r with
  |cons r1 r2=>
    cases r2 with
    |cons r3 r4=>
      cases r4;cases (show _=Value.type n from r3);exact ZgB I r1 ty e λ tk=>⟨.bl b,H,I.tok _,rfl,q⟩
end
theorem kit_ii {K:Frag}:PySem.W.kitOne K (.type "int") (.type "int")=some true:=by rfl
theorem kit_ib {K:Frag}:PySem.W.kitOne K (.type "int") (.type "bool")=some false:=by rfl
theorem ZhB {K:Frag}:PySem.W.kitOne K (.type "tuple") (.type "tuple")=some true:=by rfl
theorem Zi {H:Hp}{p:Addr}(h:H p=none)(o:HO):Zv H (upd H p o):=λ b u q=>by rw[Zc (Zk q h)];exact q
theorem Zv.tupq {K:Frag}{H H':Hp}{a:Addr}{xs:List V}(e:Zv H H')(h:SqT K H a xs):SqT K H' a xs:=by
  rcases h with (h|⟨o,h⟩)|h
  . exact .inl (.inl (e _ _ h))
  . exact .inl (.inr ⟨o,e _ _ h⟩)
  . exact .inr h
theorem Za6 {x y:Int}{m n:Nat}(hx:0<=x)(hx':x<2 ^ m)(hy:0<=y)(hy':y<2 ^ n):0<=x * y/\x * y<2 ^ (m+n):=by
  refine⟨Int.mul_nonneg hx hy,?_⟩;have p:(0:Int)<2 ^ n:=by omega
  rcases(by omega:x=0\/0<x) with e|e
  . rw[e,Int.zero_mul];have:(0:Int)<2 ^ (m+n):=Int.pow_pos (by decide);exact this
  . have h1:x * y<x * 2 ^ n:=Int.mul_lt_mul_of_pos_left hy' e;have h2:x * 2 ^ n<=2 ^ m * 2 ^ n:=Int.mul_le_mul_of_nonneg_right (Int.le_of_lt hx') (Int.le_of_lt p);rw[Int.pow_add];omega
theorem X7 {x:Int}{m:Nat}(hx:0<=x)(h:x<2 ^ m)(hm:m<=4000):x.natAbs<BIG:=by
  refine lt_big (m:=m) ?_ hm;have:((x.natAbs:Nat):Int)<((2 ^ m:Nat):Int):=by
    rw[Int.natCast_pow];have:((x.natAbs:Nat):Int)=x:=by omega
    rw[this];exact h
  omega
open PySem PySem.Spec PyProof.Rows
noncomputable abbrev Cx.comp (X:Cx)(scope:Scope)(cl:List (Str×Addr))(C:Addr)(N':List Str)(s₀:Shared)(H₀:Hp)(fp:List Addr)(pins:List (Addr×Obj)):Cx:=
  { X with N:=N',s₀:=s₀,H₀:=H₀,env:=compEnvC scope cl C X.env,outer:=X.stack,stack:=X.stack,ex:=fp,fn:=λ _=>false,pn:=X.pn++pins,xe:=λ _ _=>False }
noncomputable abbrev PIfsb (X:Cx)(ifs:List Expr)(t:TT):Prop:=
  ∀(pins:List (Addr×Obj))(s:Shared)(σ:St)(H:Hp)(Q:Bool->Hp->Prop),Inv X pins σ H s->t σ H Q ->
    wpAny (model X.prog X.w) X.A (forIn ifs true λ c r=>if r=true then do let ok <- isTrue c X.env (eval c X.env);pure (ForInStep.yield ok) else pure (ForInStep.yield r)) (TP X pins σ Q) X.xe s
structure PIfs (X:Cx)(ifs:List Expr)(t:TT):Prop where
  go:PIfsb X ifs t
instance {X:Cx}{ifs:List Expr}{t:TT}:CoeFun (PIfs X ifs t) λ _=>PIfsb X ifs t:=⟨PIfs.go⟩
noncomputable def tAll:TT:=λ _ H Q=>Q true H
theorem ZaY {X:Cx}:PIfs X [] tAll:=⟨λ _ _ _ H _ I h=>wpAny_tests_nil ⟨H,I,h⟩⟩
theorem JM {X:Cx}{c:Expr}{t:TT}(h:PT X c t):PIfs X [c] t:=⟨λ pins s σ H Q I q=>wpAny_tests_one (h pins s σ H Q I q)⟩
noncomputable def Yy (caps:List (Str×Nat))(σ:St):St:=caps.map λ p=>(σ[p.2]?).join
noncomputable def tLC (caps:List (Str×Nat))(wi:TI)(tt:TT)(te:TE):TE:=λ σ H Q=>wi σ H λ J H1=>∀ D,H1 D=none ->
  ∃ W:Nat->Nat->Hp->Prop,(∃ m,W 0 m (upd H1 D (.lst [])))/\∀ i m H2,W i m H2 ->
    (J.stop i H2/\Q (.ref D) H2)\/(J.go i H2/\∀ x H',J.yld i H2 x H'->tt (some x::Yy caps σ) H' λ b H3=>
      if b=true then te (some x::Yy caps σ) H3 λ v H4=>∃ ys m',H4 D=some (.lst ys)/\ys.length<sizeLine/\m'<m/\W (i+1) m' (upd H4 D (.lst (ys++[v])))
      else ∃ m',m'<m/\W (i+1) m' H3)
section
variable {X:Cx}
theorem Zf6 {scope:Scope}{cl:List (Str×Addr)}{N':List Str}{fp:List Addr}{pins:List (Addr×Obj)}{σ:St}{H:Hp}{s:Shared}(I:Inv X pins σ H s)(hf:∀ b∈fp,Zag X pins H b)(hin:∀ b∈fp,b<s.heap.objs.size)(hkind:scope.kind = .function)(hcl:∀ x c,cl.lookup x=some c->X.env.cells.lookup x=some c)(hhas:∀ x,((relabel scope X.env).names.lookup x=some .cell\/(relabel scope X.env).names.lookup x=some .free)->∃ c,cl.lookup x=some c) :
    (X.comp scope cl s.heap.objs.size N' s H fp pins).Ok where
  mod:=I.ok.mod
  kind:=by show(relabel scope X.env).kind=_;exact hkind
  glob:=I.ok.glob
  blt:=I.ok.blt
  above:=le_refl _
  inj:=λ x y c h1 h2=>I.ok.inj x y c (hcl x c h1) (hcl y c h2)
  has:=hhas
  cab:=λ x c h _=>by cases h
  hd:=I.ok.hd
  frames:=I.ok.frames
  stk:=.inl rfl
  exf:=λ b hb=>⟨ne_of_lt (hin b hb),λ x c e=>(hf b hb).2.2.2.2.1 x c (hcl x c e)⟩
  bs:=I.bs
  bsz:=le_trans I.ok.bsz I.sz
  noex:=λ b o e hb=>by
    rcases(hf b hb).2.2.2.1 with z|z
    . exact I.ok.noex b o e z
    . exact absurd (lt_of_lt_of_le (Heap.lt_size (I.ok.bs b o e).1) z) (lt_irrefl _)
  exfs:=λ b hb z=>by
    rcases List.mem_cons.mp (I.stkSub b z) with e|e
    . exact(hf b hb).2.1 e
    . exact(hf b hb).2.2.1 e
  funs:=I.stack
  frf:=I.stkFree
theorem ZhW {scope:Scope}{cl:List (Str×Addr)}{x:Str}{caps:List (Str×Nat)}{fp:List Addr}{pins:List (Addr×Obj)}{σ:St}{H:Hp}{s:Shared}{h1:Heap}{t':Nat}{m:Str->Option Value}(I:Inv X pins σ H s)(hf:∀ b∈fp,Zag X pins H b)(hin:∀ b∈fp,b<s.heap.objs.size)(hkind:scope.kind = .function)(hcl:∀ x c,cl.lookup x=some c->X.env.cells.lookup x=some c)(hhas:∀ x,((relabel scope X.env).names.lookup x=some .cell\/(relabel scope X.env).names.lookup x=some .free)->∃ c,cl.lookup x=some c)(hcap:∀ p∈caps,X.N[p.2]? = some p.1/\X.env.scope.names.lookup p.1=some .cell/\((relabel scope X.env).names.lookup p.1=some .cell\/(relabel scope X.env).names.lookup p.1=some .free))(hn:h1.Ns s.heap.objs.size m)(hk:∀ b o,s.heap.get? b=some o->h1.get? b=some o) :
    Inv (X.comp scope cl s.heap.objs.size (x::caps.map (·.1)) s H fp pins) [] (none::Yy caps σ) H { s with heap:=h1,toks:=t' }:=by
  refine⟨Zf6 I hf hin hkind hcl hhas,rfl,I.bare,Un.kept hk,⟨m,hn,λ i y v e1 e2 e3=>?_⟩,λ y c e=>?_,I.hok.fresh (le_refl _),λ y c e=>I.freeC y c (hcl y c e),λ p hp=>?_,I.hok.kept hk,?_⟩
  . cases i with
    |zero=>cases e2
    |succ i=>
      have e1':(caps.map (·.1))[i]? = some y:=e1;have e2':(caps.map λ p=>(σ[p.2]?).join)[i]? = some (some v):=e2;rw[getElem?_map]at e1' e2';cases q:caps[i]? with
      |none=>rw[q]at e1';cases e1'
      |some p=>
        rw[q]at e1' e2';have hy:p.1=y:=Option.some.inj e1';have hv:(σ[p.2]?).join=some v:=Option.some.inj e2';obtain⟨c1,c2,c3⟩:=hcap p (mem_of_getElem? q);have hv':σ[p.2]? = some (some v):=by
          cases z:σ[p.2]? with
          |none=>rw[z]at hv;cases hv
          |some w=>rw[z]at hv;rw[<- hv];rfl
        obtain⟨m0,_,hl0⟩:=I.loc;obtain⟨u,ru,lk⟩:=hl0 p.2 p.1 v c1 hv' (.inr (.inl c2));subst hy;refine⟨u,ru, .inr ⟨c3,?_⟩⟩;obtain⟨c,hc⟩:=hhas p.1 c3;rcases lk with ⟨k,_⟩|⟨_,c',hc',z⟩
        . have k':X.env.scope.names.lookup p.1=some .local:=k;rw[c2]at k';cases k'
        . have:c=c':=Option.some.inj ((hcl p.1 c hc).symm.trans hc');subst this;obtain⟨o,ho,hd⟩:=z;exact⟨c,hc,o,hk _ _ ho,hd⟩
  . obtain⟨v,o,ho,hd⟩:=I.cell y c (hcl y c e);exact⟨v,o,hk _ _ ho,hd⟩
  . have hp':p∈X.pn++pins:=by simpa using hp
    obtain⟨a1,a2,a3,a4,a5⟩:=I.pin p hp';refine⟨hk _ _ a1,a2,ne_of_lt (Heap.lt_size a1),λ z=>?_,a5⟩;rcases List.mem_cons.mp (I.stkSub p.1 z) with e|e
    . exact a3 e
    . exact a4 e
  . show(none::Yy caps σ).length=(x::caps.map (·.1)).length;simp[Yy]
theorem ZfO {elt iter:Expr}{x:Str}{px:Pos}{ifs:List Expr}{scope:Scope}{cl:List (Str×Addr)}{pos:Pos}{caps:List (Str×Nat)}{wi:TI}{tt:TT}{te:TE}(hc:X.calm=true)(hi:PI X (.Name x px) iter wi)(ht:∀ C s₀ H₀ fp pins,PIfs (X.comp scope cl C (x::caps.map (·.1)) s₀ H₀ fp pins) ifs tt)(he:∀ C s₀ H₀ fp pins,PE (X.comp scope cl C (x::caps.map (·.1)) s₀ H₀ fp pins) elt te)(hclos:closureFor scope X.env=pure cl)(hcell:∀ y∈scope.names,y.2 ≠ .cell)(hkind:scope.kind = .function)(hnames:∀ y∈scope.names,y.2 = .local->scope.names.lookup y.1=some .local)(hx:scope.names.lookup x=some .local)(hcl:∀ x c,cl.lookup x=some c->X.env.cells.lookup x=some c)(hhas:∀ x,((relabel scope X.env).names.lookup x=some .cell\/(relabel scope X.env).names.lookup x=some .free)->∃ c,cl.lookup x=some c)(hcap:∀ p∈caps,X.N[p.2]? = some p.1/\X.env.scope.names.lookup p.1=some .cell/\((relabel scope X.env).names.lookup p.1=some .cell\/(relabel scope X.env).names.lookup p.1=some .free))(hnd:(x::caps.map (·.1)).Nodup)(hs:∀ x,foldedSetIterable iter X.env x=pure x){pins:List (Addr×Obj)}{s:Shared}{σ:St}{H:Hp}{Q:VK}{use:Option (Value->Sem Unit)}{QQ:Value->Shared->Prop}{pos2:Pos}(I:Inv X pins σ H s)(h:tLC caps wi tt te σ H Q)(fin:∀ D C H5 s6 r,Zag X pins H5 C->(∃ m,s6.heap.Ns C m)->Inv X pins σ H5 s6->Q (.ref D) H5->compPost (model X.prog X.w) X.A X.xe use QQ (.ref D) C (.ok r) s6) :
    wpAny (model X.prog X.w) X.A (comprehension (.ListComp elt [⟨.Name x px,iter,ifs,0⟩] scope pos) scope X.env pos2 (newList []) false (eval iter X.env) use) QQ X.xe s:=by
  refine wpAny_comprehension_free (use:=use) rfl hs hclos hkind hnames (thn (hi pins s σ H _ I h) λ v s1 h1=>thn h1 λ itv s2 h2=>?_);obtain⟨it,fp,tn,J,H2,e,I2,T,st2,f2,q2⟩:=h2;subst e;refine wpAny_newObj_type ?_ (by show 0<=sizeLine;exact zero_le _);have fD:H2 s2.heap.objs.size=none:=I2.fresh;obtain⟨W,⟨m0,w0⟩,turn⟩:=q2 s2.heap.objs.size fD;have I3:=I2.lnew (its:=[]) (ys:=[]) (t':=s2.toks) .nil (zero_le _);have lt2:∀ b∈fp,b<s2.heap.objs.size:=λ b hb=>by
    obtain⟨o,ho,_⟩:=T.obj 0 _ st2 b hb;exact Heap.lt_size ho
  have neD:∀ b∈fp,b≠s2.heap.objs.size:=λ b hb=>ne_of_lt (lt2 b hb);have st3:tn 0 (s2.heap.push { cls:=.type "list",data:=.seq ([]:List Value).toArray }):=T.keep 0 _ _ st2 λ b _ o e=>Heap.get?_push_of_some _ e;have f3:∀ b∈fp,Zag X pins (upd H2 s2.heap.objs.size (.lst [])) b:=λ b hb=>⟨by rw[Zc (neD b hb)];exact(f2 b hb).1,(f2 b hb).2⟩;generalize hs3:({ s2 with heap:=s2.heap.push { cls:=.type "list",data:=.seq ([]:List Value).toArray },toks:=s2.toks }:Shared)=s3 at I3;generalize hD:s2.heap.objs.size=D at *;have hs3h:s3.heap=s2.heap.push { cls:=.type "list",data:=.seq ([]:List Value).toArray }:=by rw[<- hs3]
  have goal3:wpAny (model X.prog X.w) X.A (newFunctionEnv scope X.env.globals cl [] X.env.qual none .none (some X.env)) (λ cenv s₄=>
      codeAny (model X.prog X.w) X.A (.compStart (.ListComp elt [⟨.Name x px,iter,ifs,0⟩] scope pos) 0 (.ref it) (.ref D) { cenv with scope:=relabel scope X.env })
        (compPost (model X.prog X.w) X.A X.xe use QQ (.ref D) cenv.locals) s₄) X.xe s3:=by
    have lt3:∀ b∈fp,b<s3.heap.objs.size:=λ b hb=>by
      rw[hs3h,Heap.size_push,hD];exact lt_succ_of_lt (lt2 b hb)
    refine wpAny_newFunctionEnv hcell (by intro y hy;simp at hy) (λ h₁ hns₁ hsb₁=>?_) hkind;have old:∀ b o,s3.heap.get? b=some o->h₁.get? b=some o:=λ b o e=>hsb₁.extBut b o (ne_of_lt (Heap.lt_size e)) (Heap.get?_push_of_some _ e);have I4:Inv (X.comp scope cl s3.heap.objs.size (x::caps.map (·.1)) s3 (upd H2 D (.lst [])) fp pins) [] (none::Yy caps σ) (upd H2 D (.lst [])) { s3 with heap:=h₁,toks:=s3.toks+0 }:=
      ZhW I3 f3 lt3 hkind hcl hhas hcap hns₁ old
    have st4:tn 0 h₁:=T.keep 0 _ _ (by rw[<- hs3h]at st3;exact st3) λ b hb o e=>old b o e;have stat:∀ {H':Hp},(∀ b∈fp,H' b=none)->∀ b∈fp,Zag (X.comp scope cl s3.heap.objs.size (x::caps.map (·.1)) s3 (upd H2 D (.lst [])) fp pins) [] H' b:=λ hn b hb=>
      ⟨hn b hb,ne_of_lt (lt3 b hb),I4.ok.exfs b hb, .inl hb,λ y c e=>(f3 b hb).2.2.2.2.1 y c (hcl y c e),λ p hp=>(f3 b hb).2.2.2.2.2 p (by simpa using hp)⟩
    have loop:codeAny (model X.prog X.w) X.A (.compLoop (.ListComp elt [⟨.Name x px,iter,ifs,0⟩] scope pos) 0 (.ref it) (.ref D) (compEnvC scope cl s3.heap.objs.size X.env))
        (compPost (model X.prog X.w) X.A X.xe use QQ (.ref D) s3.heap.objs.size) { s3 with heap:=h₁,toks:=s3.toks+0 }:=by
      refine codeAny_compLoop_tests (λ n s'=>∃ i v H',Inv (X.comp scope cl s3.heap.objs.size (x::caps.map (·.1)) s3 (upd H2 D (.lst [])) fp pins) [] (v::Yy caps σ) H' s'/\tn i s'.heap/\(∀ b∈fp,H' b=none)/\W i n H') ?_ m0 ⟨0,none,_,I4,st4,λ b hb=>(f3 b hb).1,w0⟩;rintro n s5 ⟨i,v5,H5,I5,st5,fr5,w5⟩;rcases turn i n H5 w5 with ⟨stop,qn⟩|⟨go,step⟩
      . refine wpAny_noRaise (thn (T.done (X.comp scope cl s3.heap.objs.size (x::caps.map (·.1)) s3 (upd H2 D (.lst [])) fp pins) rfl rfl rfl hc i [] s5 _ H5 (λ _ _=>False) I5 (stat fr5) st5 stop) λ r s6 zz9=>?_);obtain⟨hr,I6⟩:=zz9;subst hr;obtain⟨m6,hn6,_⟩:=I6.loc;have fC:H5 s3.heap.objs.size=none:=I6.free;have u6:Un (frs X.stack) fp (upd H2 D (.lst [])) H5 s3.heap s6.heap:=I6.base;exact fin _ _ _ _ _ (I3.fpOk (le_refl _) fC) ⟨m6,hn6⟩ (I3.call' (ch:=fp) I6.os u6 I6.hok I6.bare λ b hb=>⟨(f3 b hb).2.2.2.1,(f3 b hb).2.1,(f3 b hb).2.2.2.2.1,(f3 b hb).2.2.2.2.2⟩) qn
      . refine wpAny_noRaise (thn (T.item (X.comp scope cl s3.heap.objs.size (x::caps.map (·.1)) s3 (upd H2 D (.lst [])) fp pins) rfl rfl rfl hc i [] s5 _ H5 (λ _ _=>False) I5 (stat fr5) st5 go) λ r s6 zz9=>?_);obtain⟨u,hr,h6⟩:=zz9;subst hr;show wpAny _ _ (letOwnedTupleGo (.Name x px) (.ref it) u >>= λ _=>assign (.Name x px) (compEnvC scope cl s3.heap.objs.size X.env) u) _ _ _;refine wpAny_bind (wpAny_noRaise (thn h6 λ _ s6 zz9=>?_));obtain⟨y,H6,I6,r6,y6,st6,fr6⟩:=zz9;have I6':=I6.pinned (stat fr6) (T.obj _ _ st6);refine wpAny_assign_Name (wpAny_noRaise (Jk (i:=0) I6' hnd rfl (.inl (lookup_relabel_local hx)) r6 (λ s7 I7=>?_) (.inr (lookup_relabel_local hx))));have again:∀ {v8:Option V} {H8:Hp} {s8:Shared} {m':Nat},Inv (X.comp scope cl s3.heap.objs.size (x::caps.map (·.1)) s3 (upd H2 D (.lst [])) fp pins) ([]++Zbg fp s6.heap) (v8::Yy caps σ) H8 s8->W (i+1) m' H8 ->
            ∃ i v H',Inv (X.comp scope cl s3.heap.objs.size (x::caps.map (·.1)) s3 (upd H2 D (.lst [])) fp pins) [] (v::Yy caps σ) H' s8/\tn i s8.heap/\(∀ b∈fp,H' b=none)/\W i m' H':=λ {v8 H8 s8 m'} I8 w8=>by
          refine⟨i+1,v8,H8,I8.unpinned,T.keep _ _ _ st6 λ b hb o e=>(I8.pin (b,o) (mem_append_right _ (mem_append_right _ (YE hb e)))).1,λ b hb=>?_,w8⟩;obtain⟨o,e,d⟩:=T.obj _ _ st6 b hb;exact(I8.pin (b,o) (mem_append_right _ (mem_append_right _ (YE hb e)))).2.1
        refine wpAny_noRaise (thn (ht _ _ _ _ _ _ s7 _ H6 _ I7 (step y H6 y6)) λ ok s8 zz9=>?_);obtain⟨H8,I8,q8⟩:=zz9;cases ok with
        |false=>
          rw[if_neg Bool.false_ne_true]at q8 ⊢;obtain⟨m',hm',w8⟩:=q8;exact⟨m',hm',again I8 w8⟩
        |true=>
          rw[if_pos rfl]at q8 ⊢;refine wpAny_noRaise (thn (he _ _ _ _ _ _ s8 _ H8 _ I8 q8) λ z s9 zz9=>?_);obtain⟨v9,H9,I9,r9,ys,m',hD9,hz9,hm9,w9⟩:=zz9;refine wpAny_noRaise (thn (Y3 _ s9 _ H9 (.ref D) [v9] (.ref D) [z] (λ v H'=>v = .non/\H'=upd H9 D (.lst (ys++[v9]))) I9 rfl (.cons r9 .nil) ⟨D,ys,v9,rfl,rfl,hD9,hz9,rfl,rfl⟩) λ _ s10 zz9=>?_);obtain⟨v10,H10,I10,_,_,eH⟩:=zz9;subst eH;exact⟨m',hm9,again I10 w9⟩
    exact codeAny_compStart_list loop (T.self _ 0 _ _ _ st4 loop)
  subst hs3;subst hD;exact goal3
theorem ZfE {elt iter:Expr}{x:Str}{px:Pos}{ifs:List Expr}{scope:Scope}{cl:List (Str×Addr)}{pos:Pos}{caps:List (Str×Nat)}{wi:TI}{tt:TT}{te:TE}(hc:X.calm=true)(hi:PI X (.Name x px) iter wi)(ht:∀ C s₀ H₀ fp pins,PIfs (X.comp scope cl C (x::caps.map (·.1)) s₀ H₀ fp pins) ifs tt)(he:∀ C s₀ H₀ fp pins,PE (X.comp scope cl C (x::caps.map (·.1)) s₀ H₀ fp pins) elt te)(hclos:closureFor scope X.env=pure cl)(hcell:∀ y∈scope.names,y.2 ≠ .cell)(hkind:scope.kind = .function)(hnames:∀ y∈scope.names,y.2 = .local->scope.names.lookup y.1=some .local)(hx:scope.names.lookup x=some .local)(hcl:∀ x c,cl.lookup x=some c->X.env.cells.lookup x=some c)(hhas:∀ x,((relabel scope X.env).names.lookup x=some .cell\/(relabel scope X.env).names.lookup x=some .free)->∃ c,cl.lookup x=some c)(hcap:∀ p∈caps,X.N[p.2]? = some p.1/\X.env.scope.names.lookup p.1=some .cell/\((relabel scope X.env).names.lookup p.1=some .cell\/(relabel scope X.env).names.lookup p.1=some .free))(hnd:(x::caps.map (·.1)).Nodup)(hs:∀ x,foldedSetIterable iter X.env x=pure x:=by intro _;rfl) :
    PE X (.ListComp elt [⟨.Name x px,iter,ifs,0⟩] scope pos) (tLC caps wi tt te):=by
  refine⟨?_⟩;intro pins s σ H Q I h;rw[eval_ListComp];refine ZfO hc hi ht he hclos hcell hkind hnames hx hcl hhas hcap hnd hs I h ?_;intro D C H5 s6 r fC ⟨m6,hn6⟩ I6 q;exact⟨m6,hn6,λ h' hs'=>⟨.ref D,H5,I6.turned (λ b o n e=>(hs'.2 b n).trans e) fC.1 fC.2.1 fC.2.2.2.1 fC.2.2.2.2.1 fC.2.2.2.2.2,rfl,q⟩⟩
theorem JL {i:Nat}{y:Str}{py spos:Pos}{elt iter:Expr}{x:Str}{px:Pos}{ifs:List Expr}{scope:Scope}{cl:List (Str×Addr)}{pos:Pos}{caps:List (Str×Nat)}{wi:TI}{tt:TT}{te:TE}(hN:X.N.Nodup)(hi':X.N[i]? = some y)(hy:Loc X.env.scope y)(hc:X.calm=true)(hi:PI X (.Name x px) iter wi)(ht:∀ C s₀ H₀ fp pins,PIfs (X.comp scope cl C (x::caps.map (·.1)) s₀ H₀ fp pins) ifs tt)(he:∀ C s₀ H₀ fp pins,PE (X.comp scope cl C (x::caps.map (·.1)) s₀ H₀ fp pins) elt te)(hclos:closureFor scope X.env=pure cl)(hcell:∀ y∈scope.names,y.2 ≠ .cell)(hkind:scope.kind = .function)(hnames:∀ y∈scope.names,y.2 = .local->scope.names.lookup y.1=some .local)(hx:scope.names.lookup x=some .local)(hcl:∀ x c,cl.lookup x=some c->X.env.cells.lookup x=some c)(hhas:∀ x,((relabel scope X.env).names.lookup x=some .cell\/(relabel scope X.env).names.lookup x=some .free)->∃ c,cl.lookup x=some c)(hcap:∀ p∈caps,X.N[p.2]? = some p.1/\X.env.scope.names.lookup p.1=some .cell/\((relabel scope X.env).names.lookup p.1=some .cell\/(relabel scope X.env).names.lookup p.1=some .free))(hnd:(x::caps.map (·.1)).Nodup)(hs:∀ x,foldedSetIterable iter X.env x=pure x:=by intro _;rfl)(hsw:swapsWith (.ListComp elt [⟨.Name x px,iter,ifs,0⟩] scope pos) (some (.Name y py)) spos.line X.env=pure true:=by rfl)(hf:X.fn y=true\/X.env.scope.names.lookup y=some .local:=by first|exact .inl rfl|exact .inr rfl|assumption) :
    PS X (.Assign [.Name y py] (.ListComp elt [⟨.Name x px,iter,ifs,0⟩] scope pos) spos) (ZeZ (tLC caps wi tt te) (ZfV i)):=by
  refine⟨?_⟩;intro pins s σ H D I h;rw[exec_Assign_Name_used _ _ _ _ hsw];refine wpAny_bind (wpAny_standAt (wpAny_bind ?_));refine wpAny_bind (thn (ZfO (use:=some (assign (.Name y py) X.env)) (QQ:=λ _ s'=>SP X pins D .next s') hc hi ht he hclos hcell hkind hnames hx hcl hhas hcap hnd hs I h ?_) λ _ s' hq=>wpAny_pure (wpAny_pure hq));intro D' C H5 s6 r fC ⟨m6,hn6⟩ I6 q;show wpAny _ X.A (assign (.Name y py) X.env (.ref D')) _ _ _;refine wpAny_assign_Name (Zc4 I6 hN hi' hy (v:=.ref D') rfl (λ s7 I7 zz9=>?_) hf);obtain⟨a,sb,ha⟩:=zz9;have hne:C≠a:=by
    rcases ha with rfl|ha
    . exact fC.2.1
    . exact λ z=>fC.2.2.2.2.1 _ _ ha z.symm
  refine⟨m6,hn6.sameBut sb hne,λ h' hs'=>?_⟩;exact⟨_,H5,I7.turned (λ b o n e=>(hs'.2 b n).trans e) fC.1 fC.2.1 fC.2.2.2.1 fC.2.2.2.2.1 fC.2.2.2.2.2,q⟩
end
open PySem PySem.Spec PyProof.Rows
noncomputable def Fly (base:Heap)(l:List Env)(a T:Addr)(C:Value)(h:Heap):Prop:=
 base.StaysIn h/\base.get? a=none/\h.FunFrames base l/\∃ a0 oe vs oT ts,h.get? a=some oe/\(oe.cls=C/\vs[0]? = some a0)/\oe.data = .fields vs/\vs[1]? = some (.ref T)/\base.get? T=none/\T≠a/\h.get? T=some oT/\oT.data = .fields ts/\ts[3]? = some .none
noncomputable def CXR (P:Program)(w:World)(base:Heap):CXT:=λ outer H s E e s'=>∃(a T:Addr)(C:Value)(H':Hp),e = .ref a/\s'.os=s.os/\AllBare s'.gens/\Un (frs outer) [] H H' s.heap s'.heap/\HOk P w H' s'.heap /\
 Fly base outer a T C s'.heap/\H' a=none/\H' T=none/\s.heap.get? a=none/\s.heap.get? T=none/\E C none H'
theorem ZR.got {P:Program}{w:World}{H:Hp}{h:Heap}{a:Addr}{o:HO}(x:ZR P w H h a o):∃ ob,h.get? a=some ob:=by
  cases o with
  |lst xs=>obtain⟨_,_,_,_,e⟩:=x;exact⟨_,e⟩
  |tup xs=>obtain⟨_,_,_,o,e,_⟩:=x;exact⟨_,e⟩
  |dK kvs=>obtain⟨_,_,_,_,o,_,_,e,_⟩:=x;exact⟨_,e⟩
  |dT kvs=>obtain⟨_,_,_,_,o,_,_,e,_⟩:=x;exact⟨_,e⟩
  |set S n=>obtain⟨o,_,_,_,e,_⟩:=x;exact⟨_,e⟩
  |ins C dx fs=>obtain⟨_,_,_,e,_⟩:=x;exact⟨_,e⟩
  |own y=>obtain⟨_,e⟩:=x;exact⟨_,e⟩
  |xd fs=>obtain⟨_,⟨_,_,_,e,_⟩,_⟩:=x;exact⟨_,e⟩
  |rng lo hi=>obtain⟨_,_,_,e⟩:=x;exact⟨_,e⟩
  |frz ob u=>obtain⟨e,_⟩:=x;exact⟨_,e⟩
  |tbl ps=>exact⟨_,(show h.get? a=some _ from x)⟩
  |met f y=>exact⟨_,(show h.get? a=some _ from x)⟩
  |ext φ=>obtain⟨_,⟨_,e⟩,_⟩:=x;exact⟨_,e⟩
section
variable {X:Cx}{pins:List (Addr×Obj)}{σ:St}{H:Hp}{s:Shared}
theorem Inv.untr (I:Inv X pins σ H s){b:Addr}(e:s.heap.get? b=none):H b=none:=by
  cases q:H b with
  |none=>rfl
  |some o=>
    obtain⟨ob,z⟩:=(I.hok b o q).got;rw[e]at z;cases z
theorem Inv.stkNo (I:Inv X pins σ H s){b:Addr}(h1:b≠X.env.locals)(h2:b∉X.fs):b∉frs X.stack:=λ z=>(List.mem_cons.mp (I.stkSub b z)).elim h1 h2
theorem Inv.turn2 {h2:Heap}{a T:Addr}(I:Inv X pins σ H s)(ha:X.s₀.heap.get? a=none)(hT:X.s₀.heap.get? T=none)(Ha:H a=none)(HT:H T=none)(hp:∀ p∈X.pn++pins,p.1≠a/\p.1≠T)(k:∀ b o,s.heap.get? b=some o->b≠a->b≠T->b∉frs X.stack->h2.get? b=some o)(U:s.heap.UpToSlots h2):Inv X pins σ H { s with heap:=h2 }:=by
  have ne:∀ b o,X.s₀.heap.get? b=some o->b≠a/\b≠T:=λ b o e=>⟨(λ z=>by rw[z,ha]at e;cases e),(λ z=>by rw[z,hT]at e;cases e)⟩;have neL:∀ b o,X.s₀.heap.get? b=some o->b≠X.env.locals:=λ b o e=>ne_of_lt (lt_of_lt_of_le (Heap.lt_size e) I.ok.above);have fr:∀ b,b∈frs X.stack->∃ o,s.heap.get? b=some o/\∀ vs,o.data ≠ .fields vs:=λ b hb=>(I.stack.mem hb).2;have cellK:∀ c v,s.heap.IsCell c v->h2.IsCell c v:=λ c v ⟨o,ho,hd⟩=>by
    obtain⟨sl,q⟩:=U c o ho λ vs z=>by rw[hd]at z;cases z
    exact⟨_,q,hd⟩
  refine⟨I.ok,I.os,I.bare,⟨λ b o e n hb hx=>?_,λ b o e n hb hx=>?_,I.base.free,λ b o e hx=>?_,I.base.tups,I.base.frzs,I.base.tbls⟩,?_,λ x c e=>?_,I.free,I.freeC,λ p hp'=>?_,λ b u e=>?_,I.len⟩
  . exact k b o (I.base.keep b o e n hb hx) (ne b o e).1 (ne b o e).2 (I.stkNo (neL b o e) hb)
  . obtain⟨sl,e1⟩:=I.base.slot b o e n hb hx;obtain⟨_,o',ho',d'⟩:=I.ok.funs.mem hb;have:o'=o:=by rw[e]at ho';exact(Option.some.inj ho').symm
    subst this;obtain⟨sl',e2⟩:=U b _ e1 (λ vs=>d' vs);exact⟨sl',e2⟩
  . obtain⟨o',e1⟩:=I.base.there b o e hx
    by_cases hb:b∈frs X.stack
    . obtain⟨o2,e2,d2⟩:=fr b hb;obtain⟨sl',e3⟩:=U b _ e2 d2;exact⟨_,e3⟩
    . exact⟨o',k b o' e1 (ne b o e).1 (ne b o e).2 hb⟩
  . obtain⟨m,hn,hl⟩:=I.loc;refine⟨m,U.ns hn,λ i x v e1 e2 e3=>?_⟩;obtain⟨u,r,l⟩:=hl i x v e1 e2 e3;refine⟨u,r,?_⟩;rcases l with l|⟨kk,c,e,z⟩
    . exact .inl l
    . exact .inr ⟨kk,c,e,cellK c _ z⟩
  . obtain⟨v,z⟩:=I.cell x c e;exact⟨v,cellK c v z⟩
  . obtain⟨e,n,nl,nf,d⟩:=I.pin p hp';exact⟨k p.1 p.2 e (hp p hp').1 (hp p hp').2 (I.stkNo nl nf),n,nl,nf,d⟩
  . have tr:∀ c v,H c=some v->c≠a/\c≠T/\c∉frs X.stack:=λ c v q=>⟨(λ z=>by rw[z,Ha]at q;cases q),(λ z=>by rw[z,HT]at q;cases q),(λ z=>by rw[I.stkFree c z]at q;cases q)⟩;refine(I.hok b u e).stay (λ c v hc q=>?_) (λ _ q=>q) λ _ _ q=>q;rcases hc with z|z
    . obtain⟨t1,t2,t3⟩:=tr b u e;rw[z]at q ⊢;exact k b v q t1 t2 t3
    . obtain⟨t1,t2,t3⟩:=tr c _ z;exact k c v q t1 t2 t3
end
abbrev bmV:List Value:=[.type "ValueError", .type "Exception", .type "BaseException", .type "object"]
noncomputable def XCls (K:Frag)(C:Addr):Prop:=excIn K C bmV "ValueError.__new__"=true
theorem ZgK {K:Frag}{h:Heap}{C:Addr}(X:K.In h)(q:XCls K C):∃ bm N nm q bs hdct sn sub ab col dd k0 k1 k2 k3 k5 mN,h.get? C=some (excClassObj nm q C N bs bm hdct sn sub ab col dd k0 k1 k2 k3 k5 "ValueError.__new__")/\h.Ns N mN/\mN "__init__"=none/\OwnTail h bmV bm:=by
  unfold XCls excIn at q;split at q
  . rename_i dd cd sl ho;split at q
    . rename_i C' bm k0 k1 k2 k3 n k5 hm hs;simp only[and_eq_true,beq_iff_eq,Bool.not_eq_true']at q;obtain⟨⟨⟨⟨⟨rfl,rfl⟩,hdel⟩,ht⟩,hok⟩,hni⟩:=q;obtain⟨nm,bs,mro,ns,qn,hd,sn,sub,ab,col,del⟩:=cd;dsimp only at hm hdel hok hni;subst hm hdel;have hsl:sl = #[k0,k1,k2,k3,some (.builtin "ValueError.__new__"),k5]:=by
        obtain⟨l⟩:=sl;simp only at hs;rw[hs]
      subst hsl;exact⟨bm,ns,nm,qn,bs,hd,sn,sub,ab,col,dd,k0,k1,k2,k3,k5,_,X _ _ ho, .of_isNs (PySem.W.isNs_of_in X hok),PySem.W.nsMap_none_of_in X hok hni,PySem.W.tail_of_in X ht⟩
    . cases q
  . cases q
section
variable {P:Program}{w:World}{K:Frag}{mg:Str->Option Value}{base:Heap}{N:List Str}{qual:Str}{scope:Scope}{f:Addr}{cd:Value}{A:Around}{outer:List Env}{s0:Shared}{H0:Hp}{E:XK}
theorem Yr {x:Str}{C:Addr}{e:Expr}{te:TE}{np cpos pos:Pos}(hE:XCls K C)(hm:mg x=some (.ref C))(he:PE (YW (CXR P w base) P w K mg base N qual scope f cd A outer s0 H0 E) e te)(hg:Gl (YW (CXR P w base) P w K mg base N qual scope f cd A outer s0 H0 E) x:=by rfl)(hst:starEach [e] (YW (CXR P w base) P w K mg base N qual scope f cd A outer s0 H0 E).env=[(false,eval e (YW (CXR P w base) P w K mg base N qual scope f cd A outer s0 H0 E).env)]:=by rfl)(hd:(x == ("__debug__":Str))=false:=by decide) :
    PS (YW (CXR P w base) P w K mg base N qual scope f cd A outer s0 H0 E) (.Raise (some (.Call (.Name x np) [e] [] cpos)) none pos) (λ _ σ H=>te σ H λ v H1=>([v]:List V).length=1/\E (.ref C) none H1):=by
  refine⟨?_⟩;intro pins s σ H D I h;obtain⟨bm,Na,nm,q,bs,hdct,sn,sub,ab,col,dd,k0,k1,k2,k3,k5,mN,hC,hN,hni,T⟩:=ZgK I.ok.mod.kin hE;refine wpAny_Raise_call_subU (C:=C) (nm:=nm) (q:=q) (N:=Na) (bs:=bs) (bm:=bm) (hdct:=hdct) (sn:=sn) (sub:=sub) (ab:=ab) (col:=col) (dd:=dd) (k0:=k0) (k1:=k1) (k2:=k2) (k3:=k3) (k5:=k5)
    PySem.F.excBase_ValueError rfl PySem.F.excBase_ValueError (mN:=mN) (T.hasType rfl) (I.ok.hd rfl) (by rw[hst];rfl) hni (X4 I hg hm ⟨rfl,?_⟩ hd)
  have ha:=Za (X:=YW (CXR P w base) P w K mg base N qual scope f cd A outer s0 H0 E) he Zd hst cpos pins s σ H (λ vs H1=>vs.length=1/\E (.ref C) none H1) I h;rw[hst]at ha ⊢;refine Calls.evalArgs_plain (wpAny_mono ha (λ us s2 ⟨vs,H2,I2,r2,hl2,q2⟩=>?_) λ _ _ z=>z);have hlu:us.length<=sizeLine:=by
    rw[<- r2.length,hl2]
    decide
  refine⟨rfl,hlu,I2.bk _ _ hC,hN.keeps I2.bk,T.keeps I2.bk,λ h' ex hx=>?_⟩;have hin:∀ env∈(envOfC qual scope s0.heap.objs.size f cd::outer),∀ b,env.frame=some b->b∈(envOfC qual scope s0.heap.objs.size f cd::outer).filterMap (·.frame):=λ env he b hb=>List.mem_filterMap.mpr ⟨env,he,hb⟩;have stk:s2.heap.FunFrames base (envOfC qual scope s0.heap.objs.size f cd::outer):=I2.stack;have notL:∀ b o,s0.heap.get? b=some o->b≠s0.heap.objs.size:=λ b o e=>ne_of_lt (Heap.lt_size e);have inB:∀ b o,s2.heap.get? b=some o->b∉frs (envOfC qual scope s0.heap.objs.size f cd::outer)->(hideAll s2.heap (frs (envOfC qual scope s0.heap.objs.size f cd::outer))).get? b=some o:=λ b o e n=>PySem.W.hideAll_get _ e n;show wpAny (model P w) (A.deeper (envOfC qual scope s0.heap.objs.size f cd)) (leaving (envOfC qual scope s0.heap.objs.size f cd) (.ref ex)) (λ _ s''=>CXR P w base outer H0 s0 E (.ref ex) s'') (λ e' s''=>CXR P w base outer H0 s0 E e' s'') { s2 with heap:=h' };refine wpAny_leaves_madeW (base:=hideAll s2.heap (frs (envOfC qual scope s0.heap.objs.size f cd::outer))) (h:=s2.heap) (L:=s0.heap.objs.size) I2.ok.frames rfl (λ b o z=>PySem.W.of_hideAll _ z) (PySem.W.funFrames_hide stk hin) hx λ h'' t fl tup ht U=>?_;obtain⟨f1,f2,f3,oe,vs,Tr,oT,ts,g1,g2,g3,g4,g5,g6,g7,g8,g9⟩:=fl;have baseB:base.StaysIn (hideAll s2.heap (frs (envOfC qual scope s0.heap.objs.size f cd::outer))):=λ b o z=>inB b o (I2.bk b o z) λ hb=>by rw[(stk.mem hb).1]at z;cases z
  have U2:∀ b o,s2.heap.get? b=some o->(∀ vs,o.data ≠ .fields vs)->∃ sl,h''.get? b=some { o with slots:=sl }:=λ b o z n=>U b o (hx.keeps b o z) n;have noT:s2.heap.get? Tr=none:=by
    cases z:s2.heap.get? Tr with
    |none=>rfl
    |some o=>
      by_cases hb:Tr∈frs (envOfC qual scope s0.heap.objs.size f cd::outer)
      . obtain⟨_,o',ho',d'⟩:=stk.mem hb;obtain⟨sl,z2⟩:=U2 Tr o' ho' d';rw[g7]at z2;have z3:=congrArg (λ q:Option Obj=>q.map (·.data)) z2;simp only[map_some,g8]at z3;exact absurd (Option.some.inj z3).symm (d' ts)
      . rw[inB Tr o z hb]at g5;cases g5
  have up:∀ b o,s0.heap.get? b=some o->s2.heap.get? b≠none:=λ b o z n=>by
    obtain⟨o',z'⟩:=I2.base.there b o z (λ q=>absurd (show b∈([]:List Addr) from q) (by simp));rw[n]at z';cases z'
  have no0:∀ b,s2.heap.get? b=none->s0.heap.get? b=none:=λ b n=>by
    cases z:s0.heap.get? b with
    |none=>rfl
    |some o=>exact absurd n (up b o z)
  have nex:∀ b,b∉(YW (CXR P w base) P w K mg base N qual scope f cd A outer s0 H0 E).ex:=λ b q=>absurd (show b∈([]:List Addr) from q) (by simp);have notIn:∀ b o,s0.heap.get? b=some o->b∉frs outer->b∉frs (envOfC qual scope s0.heap.objs.size f cd::outer):=λ b o z n=>I2.stkNo (notL b o z) n;refine⟨ex,Tr, .ref C,H2,rfl,I2.os,I2.bare,⟨λ b o z n hb _=>?_,λ b o z n hb _=>?_,λ b o z n _=>I2.base.free b o z n (nex b),λ b o z _=>?_,I2.base.tups,I2.base.frzs,I2.base.tbls⟩,λ b u z=>?_,⟨λ b o z=>f1 b o (baseB b o z),?_,PySem.W.funFrames_base baseB f3, .ref t,oe,vs,oT,ts,g1,g2,g3,g4,?_,g6,g7,g8,g9⟩,I2.untr hx.new,I2.untr noT,no0 _ hx.new,no0 _ noT,q2⟩
  . exact f1 b o (inB b o (I2.base.keep b o z n hb (nex b)) (notIn b o z hb))
  . obtain⟨sl,z1⟩:=I2.base.slot b o z n hb (nex b);obtain⟨_,o',ho',d'⟩:=I2.ok.funs.mem hb;have:o'=o:=by rw[show(YW (CXR P w base) P w K mg base N qual scope f cd A outer s0 H0 E).s₀.heap.get? b=some o from z]at ho';exact(Option.some.inj ho').symm
    subst this;obtain⟨sl',z2⟩:=U2 b _ z1 (λ vs=>d' vs);exact⟨sl',z2⟩
  . by_cases hb:b∈frs (envOfC qual scope s0.heap.objs.size f cd::outer)
    . obtain⟨_,o',ho',d'⟩:=stk.mem hb;obtain⟨sl,z2⟩:=U2 b o' ho' d';exact⟨_,z2⟩
    . obtain⟨o',z'⟩:=I2.base.there b o z (nex b);exact⟨o',f1 b o' (inB b o' z' hb)⟩
  . refine(I2.hok b u z).stay (λ c v hc q=>?_) (λ _ q=>q) λ _ _ q=>q;have tr:∀ c v,H2 c=some v->c∉frs (envOfC qual scope s0.heap.objs.size f cd::outer):=λ c v q n=>by rw[I2.stkFree c n]at q;cases q
    rcases hc with hc|hc
    . rw[hc]at q ⊢;exact f1 b v (inB b v q (tr b u z))
    . exact f1 c v (inB c v q (tr c _ hc))
  . cases z:base.get? ex with
    |none=>rfl
    |some o=>
      have:=I2.bk ex o z;rw[hx.new]at this;cases this
  . cases z:base.get? Tr with
    |none=>rfl
    |some o=>
      have:=I2.bk Tr o z;rw[noT]at this;cases this
end
open PySem PySem.Spec PyProof.Rows
noncomputable def XP (X:Cx)(pins:List (Addr×Obj))(σ:St)(R:Value->Hp->Prop)(e:Value)(s':Shared):Prop:=∃(a T:Addr)(C:Value)(H':Hp),e = .ref a/\Inv X pins σ H' s'/\Fly X.base X.stack a T C s'.heap/\H' a=none/\H' T=none /\
 X.s₀.heap.get? a=none/\X.s₀.heap.get? T=none/\(∀ p∈X.pn++pins,p.1≠a/\p.1≠T)/\a≠X.env.locals/\R C H'
noncomputable def PSX (X:Cx)(st:List Stmt)(t:Ends->St->Hp->(Value->Hp->Prop)->Prop):Prop:=
 ∀(pins:List (Addr×Obj))(s:Shared)(σ:St)(H:Hp)(D:Ends)(R:Value->Hp->Prop),Inv X pins σ H s->t D σ H R->wpAny (model X.prog X.w) X.A (execs st X.env) (SP X pins D) (XP X pins σ R) s
noncomputable def PEX (X:Cx)(e:Expr)(t:St->Hp->VK->(Value->Hp->Prop)->Prop):Prop:=
 ∀(pins:List (Addr×Obj))(s:Shared)(σ:St)(H:Hp)(Q:VK)(R:Value->Hp->Prop),Inv X pins σ H s->t σ H Q R->wpAny (model X.prog X.w) X.A (eval e X.env) (EP X pins σ Q) (XP X pins σ R) s
structure Dx (P:Program)(w:World)(K:Frag)(mg:Str->Option Value)(base:Heap)(k:Nat)(x:Str)(ps:List Str)(sp:Sp):Prop where
  ex:∃ f fd,FnOk P w K mg base (CXR P w base) k f fd ps sp/\mg x=some (.ref f)/\keepIn K (.ref f)=true/\Xt K fd ps []
section
variable {X:Cx}{k:Nat}{ps:List Str}{sp:Sp}{x:Str}{p pos:Pos}{e:Expr}{es:List Expr}{t:TA}
theorem Zie {f:Addr}{fd:FuncData}{pins:List (Addr×Obj)}{σ:St}{H:Hp}{s:Shared}{Q:VK}{R:Value->Hp->Prop}{us:List Value}{vs:List V}(F:FnOk X.prog X.w X.K X.mg X.base (CXR X.prog X.w X.base) k f fd ps sp)(hr:Room k X.A)(hb:Xt X.K fd ps [])(hex:X.ex=[])(I:Inv X pins σ H s)(r:ZF vs us)(h:sp vs H Q (λ C _ H'=>R C H')):wpAny (model X.prog X.w) X.A (call (.ref f) us) (EP X pins σ Q) (XP X pins σ R) s:=by
  have hl:us.length=ps.length:=by rw[<- r.length];exact F.len _ _ _ _ h
  have hb':=hb s us I.kIn (by rw[append_nil];exact hl);rw[append_nil]at hb';refine wpAny_call (codeAny_mono (F.run X.A X.stack s H ⟨us,[]⟩ us vs Q _ hr I.env0 hb' r h) λ r s' hq=>?_);cases r with
  |error e=>
    obtain⟨a,T,C,H',rfl,os,bare,un,hok,fl,Ha,HT,ha,hT,q⟩:=hq;have I':Inv X pins σ H' s':=I.call' (ch:=[]) os un hok bare λ b z=>absurd z (by simp);have no:∀ b,s.heap.get? b=none->X.s₀.heap.get? b=none:=λ b n=>by
      cases z:X.s₀.heap.get? b with
      |none=>rfl
      |some o=>
        obtain⟨o',z'⟩:=I.base.there b o z (by rw[hex];simp);rw[n]at z';cases z'
    obtain⟨m,⟨o,_,_,ho,_⟩,_⟩:=I.loc;exact⟨a,T,C,H',rfl,I',fl,Ha,HT,no a ha,no T hT,λ p hp=>⟨(λ z=>by have:=(I.pin p hp).1;rw[z,ha]at this;cases this),(λ z=>by have:=(I.pin p hp).1;rw[z,hT]at this;cases this)⟩,(λ z=>by rw[z,ho]at ha;cases ha),q⟩
  |ok fl=>
    cases fl with
    |ret u=>exact I.after hq
    |next=>exact False.elim hq
    |brk=>exact False.elim hq
    |cont=>exact False.elim hq
theorem pex_fn (D:Dx X.prog X.w X.K X.mg X.base k x ps sp)(hr:Room k X.A)(hex:X.ex=[])(hxe:X.xe=λ _ _=>False)(ha:PA X (e::es) t)(hg:Gl X x:=by rfl)(hdb:(x == ("__debug__":Str))=false:=by decide)(he:starEach (e::es) X.env=(false,eval e X.env)::starEach es X.env:=by rfl)(hpl:(backTo pos (starEach es X.env)).any (·.1)=false:=by rfl) :
    PEX X (.Call (.Name x p) (e::es) [] pos) (λ σ H Q R=>t σ H λ vs H1=>sp vs H1 Q (λ C _ H'=>R C H')):=by
  obtain⟨f,fd,F,hm,hk,hb⟩:=D.ex;intro pins s σ H Q R I h;refine wpAny_Call_Name_kw (X4 I hg hm ?_ hdb);have q:=ha pos pins s σ H _ I h;rw[hxe]at q;refine PySem.W.callWith_K (h₀:=X.base) I.ok.mod.kin hk (wpAny_noRaise (thn q λ us s1 ⟨vs,H1,I1,r,q⟩=>⟨I1.kIn,?_⟩)) he hpl;exact Zie F hr hb hex I1 r q
theorem Zhc {tx:St->Hp->VK->(Value->Hp->Prop)->Prop}(he:PEX X e tx)(hs:swapsWith e none pos.line X.env=pure false:=by rfl):PSX X [.Expr e pos] (λ D σ H R=>tx σ H (λ _ H1=>D.nx σ H1) R):=by
 intro pins s σ H D R I h;exact wpAny_execs_cons (wpAny_Expr_any (wpAny_mono (he pins s σ H _ R I h) (λ v s1 ⟨x,H1,I1,r1,q1⟩=>wpAny_execs_nil ⟨σ,H1,I1,q1⟩) λ _ _ z=>z) I.quiet hs)
end
noncomputable abbrev Cx.hand (X:Cx)(a:Addr)(oe:Obj):Cx:={ X with A:=X.A.mark (some (.ref a)),calm:=false,pn:=(a,oe)::X.pn,xe:=λ _ _=>False }
section
variable {X:Cx}{pins:List (Addr×Obj)}{σ:St}{H:Hp}{s:Shared}
theorem Inv.hand {a:Addr}{oe:Obj}{vs:Array Value}(I:Inv X pins σ H s)(h1:s.heap.get? a=some oe)(h2:H a=none)(h3:a≠X.env.locals)(h4:X.s₀.heap.get? a=none)(h5:oe.data = .fields vs):Inv (X.hand a oe) pins σ H s:=by
  have nf:a∉X.fs:=λ z=>by
    obtain⟨_,o,ho,_⟩:=I.ok.funs.mem z;rw[h4]at ho;cases ho
  refine⟨⟨I.ok.mod,I.ok.kind,I.ok.glob,I.ok.blt,I.ok.above,I.ok.inj,I.ok.has,I.ok.cab,(λ z=>by cases z),I.ok.frames,I.ok.stk,I.ok.exf,I.ok.bs,I.ok.bsz,I.ok.noex,I.ok.exfs,I.ok.funs,I.ok.frf⟩,I.os,I.bare,I.base,I.loc,I.cell,I.free,I.freeC,λ p hp=>?_,I.hok,I.len⟩;rcases List.mem_cons.mp (show p∈(a,oe)::(X.pn++pins) from hp) with z|z
  . rw[z];exact⟨h1,h2,h3,nf,λ v q=>by rw[h5]at q;cases q⟩
  . exact I.pin p z
theorem Inv.unhand {a:Addr}{oe:Obj}(hd:X.calm=true->X.A.handled=none)(I:Inv (X.hand a oe) pins σ H s):Inv X pins σ H s:=
 ⟨⟨I.ok.mod,I.ok.kind,I.ok.glob,I.ok.blt,I.ok.above,I.ok.inj,I.ok.has,I.ok.cab,hd,I.ok.frames,I.ok.stk,I.ok.exf,I.ok.bs,I.ok.bsz,I.ok.noex,I.ok.exfs,I.ok.funs,I.ok.frf⟩,I.os,I.bare,I.base,I.loc,I.cell,I.free,I.freeC,λ p hp=>I.pin p (mem_cons_of_mem _ hp),I.hok,I.len⟩
theorem ZhA {a T:Addr}{C:Value}{h6:Heap}(I:Inv X pins σ H s)(F:Fly X.base X.stack a T C s.heap)(Ha:H a=none)(HT:H T=none)(ha0:X.s₀.heap.get? a=none)(hT0:X.s₀.heap.get? T=none)(hpn:∀ p∈X.pn++pins,p.1≠a/\p.1≠T)(hB:(hideAll s.heap (a::T::frs X.stack)).StaysIn h6)(U:s.heap.UpToSlots h6):Inv X pins σ H { s with heap:=h6 }:=
  I.turn2 ha0 hT0 Ha HT hpn (λ b o z n1 n2 n3=>hB b o (PySem.W.hideAll_get _ z λ m=>by
    rcases List.mem_cons.mp m with q|q
    . exact n1 q
    . rcases List.mem_cons.mp q with q|q
      . exact n2 q
      . exact n3 q)) U
theorem ps_try {x:Str}{np hpos pos:Pos}{body suite:List Stmt}{b₀:Stmt}{c:Value}{tb:Ends->St->Hp->(Value->Hp->Prop)->Prop}{ts:TS}(hb:PSX X body tb)(hs:∀ a oe,PSs (X.hand a oe) (b₀::suite) ts)(hm:X.mg x=some c)(stk:X.stack=X.env::X.outer)(hf:X.env.frame=some X.env.locals)(hg:Gl X x:=by rfl)(hdb:(x == ("__debug__":Str))=false:=by decide) :
    PS X (.Try body [.ExceptHandler (some (.Name x np)) none (b₀::suite) hpos] [] [] pos) (λ D σ H=>tb D σ H (λ C H1=>PySem.W.exmOne X.K C c=some true/\ts D σ H1)):=by
  refine⟨?_⟩;intro pins s σ H D I h;refine wpAny_Try_except (wpAny_mono (hb pins s σ H D _ I h) (λ f s1 q=>?_) λ e s1 hx=>?_)
  . cases f with
    |next=>exact wpAny_execs_nil q
    |ret v=>exact q
    |brk=>exact q
    |cont=>exact q
  . obtain⟨a,T,C,H1,rfl,I1,F,Ha,HT,ha0,hT0,hpn,hne,hx1,q⟩:=hx;obtain⟨F1,F2,F3,a0,oe,vs,oT,ts',g1,g2,g3,g4,g5,g6,g7,g8,g9⟩:=id F;have fl:Heap.FlyingW (hideAll s1.heap (a::T::frs X.stack)) (X.env::X.outer) a C a0 s1.heap:=by
      refine⟨λ b o z=>PySem.W.of_hideAll _ z,PySem.W.hideAll_none _ (.head _),?_,oe,vs,T,oT,ts',g1,g2,g3,g4,PySem.W.hideAll_none _ (.tail _ (.head _)),g6,g7,g8,g9⟩;rw[<- stk];exact PySem.W.funFrames_hide F3 λ env he b hb => .tail _ (.tail _ (List.mem_filterMap.mpr ⟨env,he,hb⟩))
    refine wpAny_looks_onW (by rw[I1.ok.frames,stk]) hf fl λ h4 held4 U4=>?_;refine wpAny_landsW held4 λ h5 fl5 U5=>?_;have I5:Inv X pins σ H1 { s1 with heap:=h5 }:=ZhA I1 F Ha HT ha0 hT0 hpn fl5.1 (U4.trans U5);obtain⟨oe5,he5,hc5⟩:=fl5.there;obtain⟨oe5',vs5,_,_,_,he5',_,hd5,_⟩:=fl5.2.2.2;have:oe5'=oe5:=Option.some.inj (he5'.symm.trans he5);subst this;have I5h:=I5.hand he5 Ha hne ha0 hd5;refine wpAny_handleBy_cons (codeAny_handlers_test (X4 (X:=X.hand a oe5') I5h hg hm ?_ hdb)) (by intro z;cases z);have LT:PySem.W.Looks (model X.prog X.w) h5 (typeOf (.ref a)) C:=hc5▸(PySem.W.Looks.ld he5).andThen .now;refine(PySem.W.exm_one I5.kIn LT hx1).here ?_;refine codeAny_handlers_suite (lands_againW fl5 λ h6 fl6 U6=>?_);have I6:Inv X pins σ H1 { s1 with heap:=h6 }:=ZhA I1 F Ha HT ha0 hT0 hpn fl6.1 ((U4.trans U5).trans U6);obtain⟨oe6,vs6,_,_,_,he6,_,hd6,_⟩:=fl6.2.2.2;have I6h:=I6.hand he6 Ha hne ha0 hd6;refine wpAny_noRaise (thn (hs a oe6 pins _ σ H1 D I6h q) λ f s7 q7=>?_);cases f with
    |next=>obtain⟨σ7,H7,I7,n7⟩:=q7;exact⟨σ7,H7,I7.unhand I1.ok.hd,n7⟩
    |cont=>obtain⟨σ7,H7,I7,n7⟩:=q7;exact⟨σ7,H7,I7.unhand I1.ok.hd,n7⟩
    |brk=>obtain⟨σ7,H7,I7,n7⟩:=q7;exact⟨σ7,H7,I7.unhand I1.ok.hd,n7⟩
    |ret v=>obtain⟨x7,σ7,H7,I7,r7,n7⟩:=q7;exact⟨x7,σ7,H7,I7.unhand I1.ok.hd,r7,n7⟩
end
open PySem PySem.Spec PyProof.Rows PySem.W
structure XAt (K:Frag)(C:Addr):Prop where
  x:XCls K C
  ga:findIn K (.ref C) "__getattribute__"=some (some (.builtin "BaseException.__getattribute__"))
  hk:findIn K (.ref C) "__getattr__"=some none
  ca:findIn K (.ref C) "__class__"=some (some (.builtin "object.__class__"))
  mo:subIn K (.ref C) (.type "object")=some true
  sb:subIn K (.ref C) (.type "BaseException")=some true
section
variable {prog:Program}{w:World}{A:Around}{E:Value->Shared->Prop}{h:Heap}{g:Array GenState}{d:Drawn}{t:Nat}{os:OsState}{a C:Addr}{oe:Obj}{K:Frag}{vs:Array Value}
end
open PySem PySem.Spec PyProof.Rows PySem.W
section
variable {X:Cx}{pins:List (Addr×Obj)}{σ:St}{H:Hp}{s:Shared}
end
theorem Fun.okX {P:Program}{w:World}{K:Frag}{mg:Str->Option Value}{base:Heap}{x qual:Str}{st:Stmt}{f:Addr}{fd:FuncData}{N ps:List Str}{k:Nat}{sp:Sp}(F:Fun K x qual st f fd)(S:FnScope N ps (Zh st))(len:∀ vs H Q E,sp vs H Q E->vs.length=ps.length)(hbody:∀(cdv:Value)(A:Around)(outer:List Env)(s:Shared)(H:Hp)(vs:List V)(Q:VK)(E:XK),Room k (A.deeper (envOfC qual (Zh st) s.heap.objs.size f cdv))->sp vs H Q E ->
      ∃ t,PSs (YW (CXR P w base) P w K mg base N qual (Zh st) f cdv A outer s H E) (ZY st) t/\t { nx:=λ _ H'=>Q .non H',rt:=Q } (ZaH N vs) H):FnOk P w K mg base (CXR P w base) (k+1) f fd ps sp:=by
  obtain⟨oc,od,kV,doc,pm,an,cdv,ct,osl,rfl,lk,hcd⟩:=F.ex;exact fn_of lk hcd S len λ A outer s H vs Q E hr hsp=>hbody cdv A outer s H vs Q E hr hsp
open PySem PySem.Spec PyProof.Rows
mutual
inductive Rds (K:Frag)(H:Hp):V->PyData->Prop
  | non:Rds K H .non .none
  | bl (b:Bool):Rds K H (.bl b) (.bool b)
  | int (i:Int):Rds K H (.int i) (.int i)
  | str (x:Str):Rds K H (.str x) (.str x)
  | list {a:Addr} {xs:List V} {ds:List PyData}:SqL K H a xs->RdsAll K H xs ds->Rds K H (.ref a) (.list ds)
  | tuple {a:Addr} {xs:List V} {ds:List PyData}:SqT K H a xs->RdsAll K H xs ds->Rds K H (.ref a) (.tuple ds)
inductive RdsAll (K:Frag)(H:Hp):List V->List PyData->Prop
  | nil:RdsAll K H [] []
  | cons {x:V} {xs:List V} {d:PyData} {ds:List PyData}:Rds K H x d->RdsAll K H xs ds->RdsAll K H (x::xs) (d::ds)
end
section
variable {X:Cx}{pins:List (Addr×Obj)}{σ:St}{H:Hp}{s:Shared}
mutual
theorem Rds.reads (I:Inv X pins σ H s):∀ {x:V} {d:PyData} {u:Value},Rds X.K H x d->Zw x u->∃ as,Reads s.heap u d as
  | _,_,_, .non,r=>by
    cases r;exact⟨[], .none⟩
  | _,_,_, .bl b,r=>by
    cases r;exact⟨[], .bool b⟩
  | _,_,_, .int i,r=>by
    obtain⟨t,rfl⟩:=r;exact⟨[], .int i t⟩
  | _,_,_, .str i,r=>by
    obtain⟨t,rfl⟩:=r;exact⟨[], .str i t⟩
  | _,_,_, .list (a:=a) h q,r=>by
    cases r;obtain⟨its,r',pl,_⟩:=I.list h;obtain⟨o,ho,hc,n,hd⟩:=pl.isList;obtain⟨as,z⟩:=RdsAll.reads I q r';exact⟨a::as, .list ho hc hd z⟩
  | _,_,_, .tuple (a:=a) h q,r=>by
    cases r;obtain⟨its,r',pl,_⟩:=I.tuple h;obtain⟨o,ho,hc,n,hd⟩:=pl;obtain⟨as,z⟩:=RdsAll.reads I q r';exact⟨as, .tuple ho hc hd z⟩
theorem RdsAll.reads (I:Inv X pins σ H s):∀ {xs:List V} {ds:List PyData} {us:List Value},RdsAll X.K H xs ds->ZF xs us->∃ as,ReadsAll s.heap us ds as
  |_,_,_, .nil, .nil=>⟨[], .nil⟩
  | _,_,_, .cons h t, .cons r rs=>by
    obtain⟨as,z⟩:=Rds.reads I h r;obtain⟨bs,y⟩:=RdsAll.reads I t rs;exact⟨as++bs, .cons z y⟩
end
noncomputable def rEqD (K:Frag)(ng:Bool):R2:=λ x y H Q=>∃ da db,Rds K H x da/\Rds K H y db/\SeqAt.shaped da=true/\SeqAt.shaped db=true/\Q (.bl (if ng then !PyData.eqv da db else PyData.eqv da db)) H
theorem Zfb {X:Cx}(hu:X.A.units+64<cLine):OpR X (compareOp .NotEq) (rEqD X.K true):=by
 intro pins s σ H x y v u Q I rx ry h;obtain⟨da,db,ha,hb,sa,sb,q⟩:=h;obtain⟨as,z⟩:=ha.reads I rx;obtain⟨bs,z'⟩:=hb.reads I ry;exact SeqAt.compareNe_shaped z z' sa sb hu ⟨.bl _,H,I,rfl,q⟩
theorem Ze0 {ss:List Str}{us:List Value}(h1:us.length=ss.length)(h2:∀(j:Nat)(u:Value),us[j]? = some u->∃ x t,ss[j]? = some x/\u = .str x t):StrsAre us ss:=by
  induction us generalizing ss with
  |nil=>
    cases ss with
    |nil=>exact .nil
    |cons _ _=>simp at h1
  |cons u us ih=>
    cases ss with
    |nil=>simp at h1
    |cons x ss=>
      obtain⟨y,t,e,rfl⟩:=h2 0 u rfl;cases e;exact .cons _ _ (ih (by simpa using h1) λ j u e=>h2 (j+1) u (by simpa using e))
theorem Zgb {us:List Value}{ss:List Str}(h:StrsAre us ss):ZF (ss.map V.str) us:=by
  induction h with
  |nil=>exact .nil
  |cons y t _ ih=>exact .cons ⟨t,rfl⟩ ih
theorem ZfP:∀ {kvs:List (Key×V)} {vs:List (Key×Value)} {i:Nat} {k:Key} {x:Value},KV kvs vs->vs[i]? = some (k,x)->∃ y,kvs[i]? = some (k,y)
  |_,_,_,_,_, .nil,e=>by simp at e
  | _,_,0,_,_, .cons (a:=p) r _,e=>by
    obtain⟨e1,_⟩:=r;simp only[List.getElem?_cons_zero,Option.some.injEq]at e ⊢;subst e;exact⟨p.2,Prod.ext e1 rfl⟩
  | _,_,i+1,_,_, .cons _ t,e=>by
    simp only[List.getElem?_cons_succ]at e ⊢;exact ZfP t e
end
end L2
namespace L2
open PySem PySem.Spec PyProof.Rows
section
variable {X:Cx}{pins:List (Addr×Obj)}{σ:List (Option V)}{H H':Hp}{s:Shared}{h':Heap}
theorem Inv.turnedL {t':Nat}{ch:List Addr}(I:Inv X pins σ H s)(k:∀ b o,b∉ch->s.heap.get? b=some o->h'.get? b=some o)(f:∀ b∈ch,Zag X pins H b):Inv X pins σ H { s with heap:=h',toks:=t' }:=by
  have nit:∀ b u,H b=some u->b∉ch:=λ b u e z=>by rw[(f b z).1]at e;cases e
  refine I.step (g':=s.gens) (d':=s.drawn) (ch:=ch) (λ b hb=>⟨(f b hb).2.2.2.1,(f b hb).2.1,(f b hb).2.2.2.2.1,(f b hb).2.2.2.2.2⟩) (λ b o _ _ hc e _=>k b o hc e) (λ b o _ _ hc e _=>⟨o.slots,k b o hc e⟩) (λ _ _ _ _ n=>n)
    (λ b o hc e=>⟨o,k b o hc e⟩) (λ _ _ e=>e) (λ _ _ _ e=>e) (λ b ps e=>⟨#[],by rw[e];simp⟩) (λ m hm=>?_) (λ b u e=>?_) I.bare
  . obtain⟨o,es,ep,ho,r⟩:=hm;exact⟨o,es,ep,k _ o (λ z=>(f _ z).2.1 rfl) ho,r⟩
  . refine(I.hok b u e).stay (λ c v hc q=>k c v ?_ q) (λ _ q=>q) λ _ _ q=>q;rcases hc with z|z
    . rw[z];exact nit b u e
    . exact nit c _ z
end
noncomputable def Ite (K:Frag)(a:Addr):It:=
 ⟨λ i H=>∃ xs x,SqL K H a xs/\xs[i]? = some x,λ i H v H'=>∃ T x,H T=none/\v = .ref T/\(∀ xs,SqL K H a xs->xs[i]? = some x)/\H'=upd H T (.tup [.int i,x]),λ i H=>∃ xs,SqL K H a xs/\xs.length<=i⟩
theorem Zgd {P:Program}{w:World}{K:Frag}{elts:List Expr}{k:Nat}{pos:Pos}(a e it:Addr)(hne:e≠it):Turn P w K (.Tuple elts k pos) (Ite K a) [e,it] e (λ i h=>(∃ old,IsEnum h e it i old)/\h.IsListIter it a i) where
  mem:=by simp
  obj:=λ i h st b hb=>by
    obtain⟨⟨old,s1⟩,o,e2,c,d⟩:=st;rcases List.mem_cons.mp hb with rfl|hb
    . exact⟨_,s1,λ v z=>by
        have z':Data.fields _=Data.cell v:=z;cases z'⟩
    . have q:b=it:=by simpa using hb
      subst q;exact⟨o,e2,λ v z=>by rw[d]at z;cases z⟩
  keep:=λ i h h' st k=>by
    obtain⟨⟨old,s1⟩,s2⟩:=st;exact⟨⟨old,k e (by simp) _ s1⟩,s2.at λ o q=>k it (by simp) o q⟩
  item:=by
    intro X hP hw hK hc i pins s σ H E I hf st hg;subst hP hw hK;obtain⟨xs,x,hq,hx⟩:=hg;obtain⟨its,rv,p,hz⟩:=I.list hq;obtain⟨u,hu,ru⟩:=rv.get hx;obtain⟨⟨old,s1⟩,s2⟩:=st;have e1:e<s.heap.objs.size:=Heap.lt_size s1;have e2:it<s.heap.objs.size:=by obtain⟨_,y,_⟩:=s2;exact Heap.lt_size y
    refine wpAny_pyNext_enum_item s1 s2 p.isList (x:=u) (by simpa using hu) hne λ h' ho hit hT hsz kk=>⟨_,rfl,?_⟩;refine wpAny_letOwnedTupleGo_enum ho λ h2 he hs=>?_;have fr:H s.heap.objs.size=none:=I.fresh;have I1:Inv X pins σ (upd H s.heap.objs.size (.tup [.int i,x])) { s with heap:=s.heap.push { cls:=.type "tuple",data:=.seq #[.int i s.toks,u] } }:=
      I.laid (t':=s.toks) (λ b o q=>Heap.get?_push_of_some _ q) (le_refl _) (show ZR X.prog X.w _ _ _ (.tup [.int i,x]) from⟨by show 2<=sizeLine;decide,[.int i s.toks,u], .cons ⟨_,rfl⟩ (.cons ru .nil),IsTup.new _ _⟩)
    have ff:∀ b∈[e,it],Zag X pins (upd H s.heap.objs.size (.tup [.int i,x])) b:=λ b hb=>by
      refine⟨?_,(hf b hb).2⟩;rw[Zc]
      . exact(hf b hb).1
      . rcases List.mem_cons.mp hb with rfl|hb
        . exact ne_of_lt e1
        . rw[List.mem_singleton.mp hb];exact ne_of_lt e2
    have I2:Inv X pins σ (upd H s.heap.objs.size (.tup [.int i,x])) { s with heap:=h2,toks:=s.toks+1 }:=by
      have z:=Inv.turnedL (s:={ s with heap:=s.heap.push { cls:=.type "tuple",data:=.seq #[.int i s.toks,u] } }) (h':=h2) (t':=s.toks+1) (ch:=[e,it]) I1 (λ b o hb q=>?_) ff;exact z;have n1:b≠e:=λ z=>hb (by simp[z]);have n2:b≠it:=λ z=>hb (by simp[z]);refine(hs.2 b n1).trans ?_
      by_cases z:b=s.heap.objs.size
      . subst z;have q':(s.heap.push { cls:=.type "tuple",data:=.seq #[.int i s.toks,u] }).get? s.heap.objs.size=some o:=q;rw[Heap.get?_push_size _ rfl]at q';cases q';exact hT
      . have q':(s.heap.push { cls:=.type "tuple",data:=.seq #[.int i s.toks,u] }).get? b=some o:=q;rw[Heap.get?_push_ne _ _ _ z]at q';exact kk b o n1 n2 q'
    refine⟨.ref s.heap.objs.size,_,I2,rfl,⟨s.heap.objs.size,x,fr,rfl,λ ys hy=>by rw[I.list_inj hy hq];exact hx,rfl⟩,⟨⟨u,?_⟩,hit.at λ o q=>(hs.2 it (Ne.symm hne)).trans q⟩,λ b hb=>(ff b hb).1⟩;exact he
  done:=by
    intro X hP hw hK hc i pins s σ H E I hf st hg;subst hP hw hK;obtain⟨xs,hq,hx⟩:=hg;obtain⟨its,rv,p,hz⟩:=I.list hq;obtain⟨⟨old,s1⟩,s2⟩:=st;have hl:=rv.length;obtain⟨f0,f1,f2,f3,f4,f5⟩:=hf it (by simp);exact wpAny_pyNext_enum_end (I.ok.hd hc) s1 s2 p.isList (by simp;omega) λ h' eb=>⟨rfl,I.turned (t':=s.toks) (λ b o hb e=>eb b o hb e) f0 f1 f3 f4 f5⟩
  self:=λ _ _ _ _ _ st h=>by
    obtain⟨⟨old,s1⟩,_⟩:=st;exact wpAny_pyIter_enum s1 h
section
variable {X:Cx}
noncomputable def iEnum (K:Frag)(ta:TA):TI:=λ σ H R=>ta σ H λ vs H1=>∃ a,vs=[.ref a]/\(∃ xs,SqL K H1 a xs)/\R (Ite K a) H1
theorem Zin {a:Expr}{ta:TA}{p pos:Pos}{elts:List Expr}{k:Nat}{tp:Pos}(hg:Gl X "enumerate")(hm:X.mg "enumerate"=none)(ha:PA X [a] ta)(hs:starEach [a] X.env=[(false,eval a X.env)]:=by rfl) :
    PI X (.Tuple elts k tp) (.Call (.Name "enumerate" p) [a] [] pos) (iEnum X.K ta):=by
  refine⟨?_⟩;intro pins s σ H R I h;refine Call_ (ZcL I hg hm boot_enumerate (PyProof.Rows.callWith_type1 (thn (ha pos pins s σ H _ I h) λ us s1 zz9=>?_) hs rfl));obtain⟨vs,H1,I1,r1,q1⟩:=zz9;obtain⟨b,e,⟨xs,hq⟩,q⟩:=q1;subst e;obtain⟨u,rfl,rx⟩:=X9 r1;cases rx;obtain⟨its,rv,pl,hz⟩:=I1.list hq;refine call_enumerate_list pl.isList λ h' he hit hsz kk=>?_;refine wpAny_pyIter_enum he ?_;refine⟨s1.heap.objs.size+1,[s1.heap.objs.size+1,s1.heap.objs.size],_,_,H1,rfl,I1.kept (t':=s1.toks) kk,Zgd b _ _ (Nat.succ_ne_self _),⟨⟨_,he⟩,hit⟩,λ c hc=>?_,q⟩;rcases List.mem_cons.mp hc with rfl|hc
  . exact I1.fpOk (le_succ _) (I1.hok.fresh (le_succ _))
  . rw[List.mem_singleton.mp hc];exact I1.fpOk (le_refl _) (I1.hok.fresh (le_refl _))
end
end L2
namespace L2
open PySem PySem.Spec PyProof.Rows
theorem loopD {prog:Program}{w:World}{A:Around}{R:Result->Shared->Prop}{s:Shared}{kx vx tg iter:Expr}{scope:Scope}{pos:Pos}{it:Value}{D:Addr}{env:Env}(J:Nat->Shared->Prop)(turn:∀ n s,J n s->wpAny (model prog w) A (pyNext it) (λ r s1=>match r with
      |none=>R (.ok .next) s1
      |some v=>wpAny (model prog w) A (letOwnedTupleGo tg it v) (λ _ s2=>wpAny (model prog w) A (assign tg env v) (λ _ s3=>wpAny (model prog w) A (eval kx env) (λ kv s4=>wpAny (model prog w) A (eval vx env) (λ vv s5=>
          wpAny (model prog w) A (dictSet D kv vv) (λ _ s6=>∃ m,m<n/\J m s6) (λ _ _=>False) s5) (λ _ _=>False) s4) (λ _ _=>False) s3) (λ _ _=>False) s2) (λ _ _=>False) s1) (λ _ _=>False) s)(n:Nat)(h:J n s):codeAny (model prog w) A (.compLoop (.DictComp kx vx [⟨tg,iter,[],0⟩] scope pos) 0 it (.ref D) env) R s:=by
  refine codeAny_loop rfl J (λ n s hJ=>?_) n h;show wpAny _ A ((compTurn (.DictComp kx vx [⟨tg,iter,[],0⟩] scope pos) 0 it (.ref D) env).onRaise (λ x=>do noteFrame x env;theTreesLotGoes x)) _ _ s;refine wpAny_noted (wpAny_noRaise ?_);rw[compTurn_dict];refine wpAny_bind (wpAny_standAt (wpAny_bind (thn (turn n s hJ) λ r s1 h1=>?_)));cases r with
  |none=>exact wpAny_pure h1
  |some v=>
    refine wpAny_bind (thn h1 λ _ s2 h2=>wpAny_bind (thn h2 λ _ s3 h3=>wpAny_bind (wpAny_tests_nil ?_)));exact wpAny_bind (wpAny_bind (thn h3 λ kv s4 h4=>wpAny_bind (wpAny_holding (thn h4 λ vv s5 h5=>wpAny_bind (wpAny_standAt (wpAny_holding (thn h5 λ _ s6 h6=>wpAny_pure ⟨rfl,h6⟩)))))))
noncomputable def tDC (n:Nat)(caps:List (Str×Nat))(wi:TI)(g:TG)(tk tv:TE):TE:=λ σ H Q=>wi σ H λ J H1=>∀ D,H1 D=none ->
  ∃ W:Nat->Nat->Hp->Prop,(∃ m,W 0 m (upd H1 D (.dK [])))/\∀ i m H2,W i m H2 ->
    (J.stop i H2/\Q (.ref D) H2)\/(J.go i H2/\∀ x H',J.yld i H2 x H'->∀ vals:St,vals.length=n->g x (vals++Yy caps σ) H' λ σ2 H3=>∃ vals':St,vals'.length=n/\σ2=vals'++Yy caps σ /\
      tk σ2 H3 λ k H4=>tv σ2 H4 λ v H5=>∃(kvs:List (Key×V))(k':Key)(m':Nat),k=kV k'/\H5 D=some (.dK kvs)/\kvs.length<sizeLine/\m'<m/\W (i+1) m' (upd H5 D (.dK (X0 kvs k' v))))
section
variable {X:Cx}
theorem ZgH {scope:Scope}{cl:List (Str×Addr)}{xs:List Str}{caps:List (Str×Nat)}{fp:List Addr}{pins:List (Addr×Obj)}{σ:St}{H:Hp}{s:Shared}{h1:Heap}{t':Nat}{m:Str->Option Value}(I:Inv X pins σ H s)(hf:∀ b∈fp,Zag X pins H b)(hin:∀ b∈fp,b<s.heap.objs.size)(hkind:scope.kind = .function)(hcl:∀ x c,cl.lookup x=some c->X.env.cells.lookup x=some c)(hhas:∀ x,((relabel scope X.env).names.lookup x=some .cell\/(relabel scope X.env).names.lookup x=some .free)->∃ c,cl.lookup x=some c)(hcap:∀ p∈caps,X.N[p.2]? = some p.1/\X.env.scope.names.lookup p.1=some .cell/\((relabel scope X.env).names.lookup p.1=some .cell\/(relabel scope X.env).names.lookup p.1=some .free))(hn:h1.Ns s.heap.objs.size m)(hk:∀ b o,s.heap.get? b=some o->h1.get? b=some o) :
    Inv (X.comp scope cl s.heap.objs.size (xs++caps.map (·.1)) s H fp pins) [] (List.replicate xs.length none++Yy caps σ) H { s with heap:=h1,toks:=t' }:=by
  refine⟨Zf6 I hf hin hkind hcl hhas,rfl,I.bare,Un.kept hk,⟨m,hn,λ i y v e1 e2 e3=>?_⟩,λ y c e=>?_,I.hok.fresh (le_refl _),λ y c e=>I.freeC y c (hcl y c e),λ p hp=>?_,I.hok.kept hk,?_⟩
  . have e1':(xs++caps.map (·.1))[i]? = some y:=e1
    by_cases hi:i<xs.length
    . rw[getElem?_append_left (by simpa using hi),List.getElem?_replicate,if_pos hi]at e2;cases e2
    . rw[getElem?_append_right (by simpa using hi),length_replicate]at e2;rw[getElem?_append_right (by simpa using hi)]at e1';generalize i - xs.length=j at e1' e2;have e2':(caps.map λ p=>(σ[p.2]?).join)[j]? = some (some v):=e2;rw[getElem?_map]at e1' e2';cases q:caps[j]? with
      |none=>rw[q]at e1';cases e1'
      |some p=>
        rw[q]at e1' e2';have hy:p.1=y:=Option.some.inj e1';have hv:(σ[p.2]?).join=some v:=Option.some.inj e2';obtain⟨c1,c2,c3⟩:=hcap p (mem_of_getElem? q);have hv':σ[p.2]? = some (some v):=by
          cases z:σ[p.2]? with
          |none=>rw[z]at hv;cases hv
          |some w=>rw[z]at hv;rw[<- hv];rfl
        obtain⟨m0,_,hl0⟩:=I.loc;obtain⟨u,ru,lk⟩:=hl0 p.2 p.1 v c1 hv' (.inr (.inl c2));subst hy;refine⟨u,ru, .inr ⟨c3,?_⟩⟩;obtain⟨c,hc⟩:=hhas p.1 c3;rcases lk with ⟨k,_⟩|⟨_,c',hc',z⟩
        . have k':X.env.scope.names.lookup p.1=some .local:=k;rw[c2]at k';cases k'
        . have:c=c':=Option.some.inj ((hcl p.1 c hc).symm.trans hc');subst this;obtain⟨o,ho,hd⟩:=z;exact⟨c,hc,o,hk _ _ ho,hd⟩
  . obtain⟨v,o,ho,hd⟩:=I.cell y c (hcl y c e);exact⟨v,o,hk _ _ ho,hd⟩
  . have hp':p∈X.pn++pins:=by simpa using hp
    obtain⟨a1,a2,a3,a4,a5⟩:=I.pin p hp';refine⟨hk _ _ a1,a2,ne_of_lt (Heap.lt_size a1),λ z=>?_,a5⟩;rcases List.mem_cons.mp (I.stkSub p.1 z) with e|e
    . exact a3 e
    . exact a4 e
  . show(List.replicate xs.length none++Yy caps σ).length=(xs++caps.map (·.1)).length;simp[Yy]
theorem d_set {pins:List (Addr×Obj)}{σ:St}{H H':Hp}{s:Shared}{a:Addr}{y v:V}{u r:Value}{kvs:List (Key×V)}{A:Around}{E:Value->Shared->Prop}{Q:Unit->Shared->Prop}(I:Inv X pins σ H s)(hd:H a=some (.dK kvs))(g:Zah H a y v H')(ry:Zw y u)(rv:Zw v r)(h:∀ s',Inv X pins σ H' s'->Q () s') :
    wpAny (model X.prog X.w) A (dictSet a u r) Q E s:=by
  rcases g with ⟨kvs',k,e,ey,l,eH⟩|⟨kvs',k,b,e,ey,eb,l,eH⟩
  . subst ey eH;obtain⟨z,hd,vs,rel,dd⟩:=ZhQ I.hok e;have hz:vs.length<=sizeLine:=by rw[<- rel.length];exact z
    have hl:(X0 kvs' k v).length<=sizeLine:=by have:=JQ kvs' k v;omega
    refine wpAny_dictSet_pairs (hsz:=hz) (ZcM ry) dd λ h' dd' hs=>h _ ?_;have he:∃ q,h'.get? a=some q:=let ⟨q,_,_,hq,_⟩:=dd';⟨q,hq⟩;exact Zd9 I (by rw[e];exact True.intro) hs he (ZhR hl hd (rel.put k rv) dd')
  . rw[hd]at e;cases e
theorem pe_dc {kx vx iter tg:Expr}{xs:List Str}{scope:Scope}{cl:List (Str×Addr)}{pos:Pos}{caps:List (Str×Nat)}{wi:TI}{g:TG}{tk tv:TE}(hc:X.calm=true)(hi:PI X tg iter wi)(hg:∀ C s₀ H₀ fp pins,PG (X.comp scope cl C (xs++caps.map (·.1)) s₀ H₀ fp pins) tg g)(hkx:∀ C s₀ H₀ fp pins,PE (X.comp scope cl C (xs++caps.map (·.1)) s₀ H₀ fp pins) kx tk)(hvx:∀ C s₀ H₀ fp pins,PE (X.comp scope cl C (xs++caps.map (·.1)) s₀ H₀ fp pins) vx tv)(hclos:closureFor scope X.env=pure cl)(hcell:∀ y∈scope.names,y.2 ≠ .cell)(hkind:scope.kind = .function)(hnames:∀ y∈scope.names,y.2 = .local->scope.names.lookup y.1=some .local)(hcl:∀ x c,cl.lookup x=some c->X.env.cells.lookup x=some c)(hhas:∀ x,((relabel scope X.env).names.lookup x=some .cell\/(relabel scope X.env).names.lookup x=some .free)->∃ c,cl.lookup x=some c)(hcap:∀ p∈caps,X.N[p.2]? = some p.1/\X.env.scope.names.lookup p.1=some .cell/\((relabel scope X.env).names.lookup p.1=some .cell\/(relabel scope X.env).names.lookup p.1=some .free))(hs:∀ x,foldedSetIterable iter X.env x=pure x:=by intro _;rfl) :
    PE X (.DictComp kx vx [⟨tg,iter,[],0⟩] scope pos) (tDC xs.length caps wi g tk tv):=by
  refine⟨?_⟩;intro pins s σ H Q I h;rw[arm_eval_DictComp];refine wpAny_comprehension_free (use:=none) rfl hs hclos hkind hnames (thn (hi pins s σ H _ I h) λ v s1 h1=>thn h1 λ itv s2 h2=>?_);obtain⟨it,fp,tn,J,H2,e,I2,T,st2,f2,q2⟩:=h2;subst e;refine wpAny_newObj_type ?_;have fD:H2 s2.heap.objs.size=none:=I2.fresh;obtain⟨W,⟨m0,w0⟩,turn⟩:=q2 s2.heap.objs.size fD;have I3:=I2.laid (a:=s2.heap.objs.size) (o:=.dK []) (h':=s2.heap.push { cls:=.type "dict",data:=.dict #[] }) (t':=s2.toks) (λ _ _ q=>Heap.get?_push_of_some _ q) (le_refl _) (ZeH s2.heap I2.big);have lt2:∀ b∈fp,b<s2.heap.objs.size:=λ b hb=>by
    obtain⟨o,ho,_⟩:=T.obj 0 _ st2 b hb;exact Heap.lt_size ho
  have neD:∀ b∈fp,b≠s2.heap.objs.size:=λ b hb=>ne_of_lt (lt2 b hb);have st3:tn 0 (s2.heap.push { cls:=.type "dict",data:=.dict #[] }):=T.keep 0 _ _ st2 λ b _ o e=>Heap.get?_push_of_some _ e;have f3:∀ b∈fp,Zag X pins (upd H2 s2.heap.objs.size (.dK [])) b:=λ b hb=>⟨by rw[Zc (neD b hb)];exact(f2 b hb).1,(f2 b hb).2⟩;generalize hs3:({ s2 with heap:=s2.heap.push { cls:=.type "dict",data:=.dict #[] },toks:=s2.toks }:Shared)=s3 at I3;generalize hD:s2.heap.objs.size=D at *;have hs3h:s3.heap=s2.heap.push { cls:=.type "dict",data:=.dict #[] }:=by rw[<- hs3]
  have goal3:wpAny (model X.prog X.w) X.A (newFunctionEnv scope X.env.globals cl [] X.env.qual none .none (some X.env)) (λ cenv s₄=>
      codeAny (model X.prog X.w) X.A (.compStart (.DictComp kx vx [⟨tg,iter,[],0⟩] scope pos) 0 (.ref it) (.ref D) { cenv with scope:=relabel scope X.env })
        (compPost (model X.prog X.w) X.A X.xe none (EP X pins σ Q) (.ref D) cenv.locals) s₄) X.xe s3:=by
    have lt3:∀ b∈fp,b<s3.heap.objs.size:=λ b hb=>by
      rw[hs3h,Heap.size_push,hD];exact lt_succ_of_lt (lt2 b hb)
    refine wpAny_newFunctionEnv hcell (by intro y hy;simp at hy) (λ h₁ hns₁ hsb₁=>?_) hkind;have old:∀ b o,s3.heap.get? b=some o->h₁.get? b=some o:=λ b o e=>hsb₁.extBut b o (ne_of_lt (Heap.lt_size e)) (Heap.get?_push_of_some _ e);have I4:Inv (X.comp scope cl s3.heap.objs.size (xs++caps.map (·.1)) s3 (upd H2 D (.dK [])) fp pins) [] (List.replicate xs.length none++Yy caps σ) (upd H2 D (.dK [])) { s3 with heap:=h₁,toks:=s3.toks+0 }:=
      ZgH I3 f3 lt3 hkind hcl hhas hcap hns₁ old
    have st4:tn 0 h₁:=T.keep 0 _ _ (by rw[<- hs3h]at st3;exact st3) λ b hb o e=>old b o e;have stat:∀ {H':Hp},(∀ b∈fp,H' b=none)->∀ b∈fp,Zag (X.comp scope cl s3.heap.objs.size (xs++caps.map (·.1)) s3 (upd H2 D (.dK [])) fp pins) [] H' b:=λ hn b hb=>
      ⟨hn b hb,ne_of_lt (lt3 b hb),I4.ok.exfs b hb, .inl hb,λ y c e=>(f3 b hb).2.2.2.2.1 y c (hcl y c e),λ p hp=>(f3 b hb).2.2.2.2.2 p (by simpa using hp)⟩
    have loop:codeAny (model X.prog X.w) X.A (.compLoop (.DictComp kx vx [⟨tg,iter,[],0⟩] scope pos) 0 (.ref it) (.ref D) (compEnvC scope cl s3.heap.objs.size X.env))
        (compPost (model X.prog X.w) X.A X.xe none (EP X pins σ Q) (.ref D) s3.heap.objs.size) { s3 with heap:=h₁,toks:=s3.toks+0 }:=by
      refine loopD (λ n s'=>∃ i vals H',vals.length=xs.length/\Inv (X.comp scope cl s3.heap.objs.size (xs++caps.map (·.1)) s3 (upd H2 D (.dK [])) fp pins) [] (vals++Yy caps σ) H' s'/\tn i s'.heap/\(∀ b∈fp,H' b=none)/\W i n H') ?_ m0 ⟨0,List.replicate xs.length none,_,by simp,I4,st4,λ b hb=>(f3 b hb).1,w0⟩;rintro n s5 ⟨i,vals,H5,hv5,I5,st5,fr5,w5⟩;rcases turn i n H5 w5 with ⟨stop,qn⟩|⟨go,step⟩
      . refine wpAny_noRaise (thn (T.done (X.comp scope cl s3.heap.objs.size (xs++caps.map (·.1)) s3 (upd H2 D (.dK [])) fp pins) rfl rfl rfl hc i [] s5 _ H5 (λ _ _=>False) I5 (stat fr5) st5 stop) λ r s6 zz9=>?_);obtain⟨hr,I6⟩:=zz9;subst hr;obtain⟨m6,hn6,_⟩:=I6.loc;have fC:H5 s3.heap.objs.size=none:=I6.free;have u6:Un (frs X.stack) fp (upd H2 D (.dK [])) H5 s3.heap s6.heap:=I6.base;have ff:=I3.fpOk (le_refl _) fC;have I7:Inv X pins σ H5 s6:=I3.call' (ch:=fp) I6.os u6 I6.hok I6.bare λ b hb=>⟨(f3 b hb).2.2.2.1,(f3 b hb).2.1,(f3 b hb).2.2.2.2.1,(f3 b hb).2.2.2.2.2⟩;exact⟨m6,hn6,λ h' hs'=>⟨.ref D,H5,I7.turned (λ b o n e=>(hs'.2 b n).trans e) ff.1 ff.2.1 ff.2.2.2.1 ff.2.2.2.2.1 ff.2.2.2.2.2,rfl,qn⟩⟩
      . refine wpAny_noRaise (thn (T.item (X.comp scope cl s3.heap.objs.size (xs++caps.map (·.1)) s3 (upd H2 D (.dK [])) fp pins) rfl rfl rfl hc i [] s5 _ H5 (λ _ _=>False) I5 (stat fr5) st5 go) λ r s6 zz9=>?_);obtain⟨u,hr,h6⟩:=zz9;subst hr;refine wpAny_noRaise (thn h6 λ _ s6 zz9=>?_);obtain⟨y,H6,I6,r6,y6,st6,fr6⟩:=zz9;have I6':=I6.pinned (stat fr6) (T.obj _ _ st6);have again:∀ {v8:St} {H8:Hp} {s8:Shared} {m':Nat},v8.length=xs.length->Inv (X.comp scope cl s3.heap.objs.size (xs++caps.map (·.1)) s3 (upd H2 D (.dK [])) fp pins) ([]++Zbg fp s6.heap) (v8++Yy caps σ) H8 s8->W (i+1) m' H8 ->
            ∃ i vals H',vals.length=xs.length/\Inv (X.comp scope cl s3.heap.objs.size (xs++caps.map (·.1)) s3 (upd H2 D (.dK [])) fp pins) [] (vals++Yy caps σ) H' s8/\tn i s8.heap/\(∀ b∈fp,H' b=none)/\W i m' H':=λ {v8 H8 s8 m'} hv8 I8 w8=>by
          refine⟨i+1,v8,H8,hv8,I8.unpinned,T.keep _ _ _ st6 λ b hb o e=>(I8.pin (b,o) (mem_append_right _ (mem_append_right _ (YE hb e)))).1,λ b hb=>?_,w8⟩;obtain⟨o,e,d⟩:=T.obj _ _ st6 b hb;exact(I8.pin (b,o) (mem_append_right _ (mem_append_right _ (YE hb e)))).2.1
        refine wpAny_noRaise (thn (hg _ _ _ _ _ _ s6 _ H6 _ _ _ I6' r6 (step y H6 y6 vals hv5)) λ _ s7 zz9=>?_);obtain⟨σ7,H7,I7,vals7,hv7,es7,q7⟩:=zz9;subst es7;refine wpAny_noRaise (thn (hkx _ _ _ _ _ _ s7 _ H7 _ I7 q7) λ ku s8 zz9=>?_);obtain⟨k8,H8,I8,r8,q8⟩:=zz9;refine wpAny_noRaise (thn (hvx _ _ _ _ _ _ s8 _ H8 _ I8 q8) λ vu s9 zz9=>?_);obtain⟨v9,H9,I9,r9,kvs9,k',m',ek9,hd9,hl9,hm9,w9⟩:=zz9;subst ek9;exact d_set (X:=X.comp scope cl s3.heap.objs.size (xs++caps.map (·.1)) s3 (upd H2 D (.dK [])) fp pins) I9 hd9 (Zah.k hd9 hl9) r8 r9 λ s10 I10=>⟨m',hm9,again hv7 I10 w9⟩
    exact codeAny_compStart_dict loop (T.self _ 0 _ _ _ st4 loop)
  subst hs3;subst hD;exact goal3
end
end L2
namespace L2
open PySem PySem.Spec PyProof.Rows
theorem kit_ll {K:Frag}:PySem.W.kitOne K (.type "list") (.type "list")=some true:=by rfl
theorem kit_ss {K:Frag}:PySem.W.kitOne K (.type "str") (.type "str")=some true:=by rfl
section
variable {X:Cx}
theorem Zgm:OpR X (compareOp .LtE) (λ x y H Q=>∃ i j,x = .str i/\y = .str j/\Q (.bl (!decide (j.cps.toList<i.cps.toList))) H):=by
 intro pins s σ H x y v u Q I rx ry h;obtain⟨i,j,rfl,rfl,q⟩:=h;obtain⟨t,rfl⟩:=rx;obtain⟨t',rfl⟩:=ry;exact PySem.P.le_str (ZC I q rfl)
theorem ZgZ:SlR X (λ x lo hi H Q=>∃ z,x = .str z/\z.length<=sizeLine/\Q (.str (Txt.slice z lo hi)) H):=by
  intro pins s σ H x v vl vu lo hi sl Q I rx hs pl pu h;obtain⟨z,rfl,hz,q⟩:=h;obtain⟨t,rfl⟩:=rx;refine⟨"str",_,F.slot_str_getitem.lookup,typeIs_str _ _ _,?_⟩;cases pl with
  |none=>
    cases pu with
    |none=>exact wpAny_getItem_str_slice (l:=none) (u:=none) (st:=none) hs rfl (post_val_or_str ⟨le_trans (Txt.slice_le z _ _) hz,λ t' k=>⟨.str _,H,I.tok _,⟨t',rfl⟩,q⟩⟩)
    |int j uj=>exact wpAny_getItem_str_slice (l:=none) (u:=some (j,uj)) (st:=none) hs rfl (post_val_or_str ⟨le_trans (Txt.slice_le z _ _) hz,λ t' k=>⟨.str _,H,I.tok _,⟨t',rfl⟩,q⟩⟩)
  |int i ui=>
    cases pu with
    |none=>exact wpAny_getItem_str_slice (l:=some (i,ui)) (u:=none) (st:=none) hs rfl (post_val_or_str ⟨le_trans (Txt.slice_le z _ _) hz,λ t' k=>⟨.str _,H,I.tok _,⟨t',rfl⟩,q⟩⟩)
    |int j uj=>exact wpAny_getItem_str_slice (l:=some (i,ui)) (u:=some (j,uj)) (st:=none) hs rfl (post_val_or_str ⟨le_trans (Txt.slice_le z _ _) hz,λ t' k=>⟨.str _,H,I.tok _,⟨t',rfl⟩,q⟩⟩)
end
end L2
namespace Sh
noncomputable def G (a b:Int):Int:=(Nat.gcd a.toNat b.toNat:Int)
theorem G_zero {a b:Int}(ha:0<=a)(hb:0<=b)(h:¬ 0<b):a=G a b:=by
 have:b=0:=by omega
 subst this;unfold G;simp;omega
theorem G_step {a b:Int}(ha:0<=a)(hb:0<b):G b (a % b)=G a b:=by
  unfold G;have e:(a % b).toNat=a.toNat % b.toNat:=by
    have h1:a=(a.toNat:Int):=by omega
    have h2:b=(b.toNat:Int):=by omega
    rw[h1,h2];exact toNat_natCast _
  rw[e,Nat.gcd_comm a.toNat b.toNat,Nat.gcd_rec b.toNat a.toNat,Nat.gcd_comm]
structure Low (n d q r:Int):Prop where
  q0:0<=q
  r0:0<r
  g:G q r=1
  eq:q * d=n * r
theorem G_pos {a b:Int}(hb:0<b):0<G a b:=by
 unfold G;have:=Nat.gcd_pos_of_pos_right a.toNat (show 0<b.toNat by omega);omega
theorem G_le {a b:Int}(hb:0<b):G a b<=b:=by
 unfold G;have:=Nat.le_of_dvd (show 0<b.toNat by omega) (Nat.gcd_dvd_right a.toNat b.toNat);omega
theorem low {n d:Int}(hn:0<=n)(hd:0<d):Low n d (n / G n d) (d / G n d):=by
  have g0:=G_pos (a:=n) hd;have e1:n / G n d=((n.toNat / Nat.gcd n.toNat d.toNat:Nat):Int):=by
    conv=>lhs;rw[show n=(n.toNat:Int) by omega]
    unfold G;rw[toNat_natCast];rfl
  have e2:d / G n d=((d.toNat / Nat.gcd n.toNat d.toNat:Nat):Int):=by
    conv=>lhs;lhs;rw[show d=(d.toNat:Int) by omega]
    unfold G;rfl
  have p:0<Nat.gcd n.toNat d.toNat:=Nat.gcd_pos_of_pos_right n.toNat (show 0<d.toNat by omega);have dv1:=Nat.gcd_dvd_left n.toNat d.toNat;have dv2:=Nat.gcd_dvd_right n.toNat d.toNat;rw[e1,e2];refine⟨Int.natCast_nonneg _,?_,?_,?_⟩
  . have:=Nat.div_pos (Nat.le_of_dvd (show 0<d.toNat by omega) dv2) p;omega
  . unfold G;rw[toNat_natCast,toNat_natCast,Nat.gcd_div dv1 dv2,Nat.div_self p];rfl
  . have:n.toNat / Nat.gcd n.toNat d.toNat * d.toNat=n.toNat * (d.toNat / Nat.gcd n.toNat d.toNat):=by
      obtain⟨x,hx⟩:=dv1;obtain⟨y,hy⟩:=dv2;have x1:n.toNat / Nat.gcd n.toNat d.toNat=x:=by
        conv=>lhs;lhs;rw[hx]
        exact Nat.mul_div_cancel_left x p
      have y1:d.toNat / Nat.gcd n.toNat d.toNat=y:=by
        conv=>lhs;lhs;rw[hy]
        exact Nat.mul_div_cancel_left y p
      rw[x1,y1]
      conv=>lhs;rw[hy]
      conv=>rhs;rw[hx]
      rw[Nat.mul_left_comm,Nat.mul_assoc]
    have h:=congrArg (λ z:Nat=>(z:Int)) this;have h1:(n.toNat:Int)=n:=by omega
    have h2:(d.toNat:Int)=d:=by omega
    simp only[Int.natCast_mul,h1,h2]at h;exact h
end Sh
namespace Sh
theorem G_zero1 {d:Int}(hd:0<d)(h:G 0 d=1):d=1:=by
 unfold G at h;simp at h;omega
end Sh
namespace L2
open PySem PySem.Spec PyProof.Rows
noncomputable def ltS (a b:Str):Prop:=a.cps.toList<b.cps.toList
instance (a b:Str):Decidable (ltS a b):=inferInstanceAs (Decidable (a.cps.toList<b.cps.toList))
theorem X3 (a:Str):¬ ltS a a:=List.lt_irrefl _
theorem Zgv {a b c:Str}(h:ltS a b)(h':ltS b c):ltS a c:=List.lt_trans h h'
theorem Yp {a b:Str}(h:a.cps.toList=b.cps.toList):a=b:=by
 cases a;cases b;simp at h;rw[h]
theorem Zgy {a b c:Str}(h:¬ ltS b a)(h':¬ ltS c b):¬ ltS c a:=by
 have q:a.cps.toList<=b.cps.toList:=h;have q':b.cps.toList<=c.cps.toList:=h';exact List.le_trans q q'
theorem ltS_of {a b:Str}(h:¬ ltS b a)(hne:a≠b):ltS a b:=by
  by_cases z:ltS a b
  . exact z
  . have q:a.cps.toList<=b.cps.toList:=h;have q':b.cps.toList<=a.cps.toList:=z;exact absurd (Yp (List.le_antisymm q q')) hne
theorem rise {p:Str}{l:List Str}(h:risingS p l=true):(p::l).Pairwise (λ a b=>¬ ltS b a):=by
  induction l generalizing p with
  |nil=>simp
  |cons x r ih=>
    have h':(!ltCps x.cps.toList p.cps.toList && risingS x r)=true:=h;rw[and_eq_true]at h';have h1:¬ ltS x p:=by
      have:=h'.1;rw[ltCps_eq]at this;simpa [ltS] using this
    have q:=ih h'.2;refine List.pairwise_cons.mpr ⟨λ y hy=>?_,q⟩;rcases List.mem_cons.mp hy with rfl|hy
    . exact h1
    . exact Zgy h1 ((List.pairwise_cons.mp q).1 y hy)
theorem Zep {l:List Str}(h:sortedS l=true)(nd:l.Nodup):l.Pairwise ltS:=by
  have q:l.Pairwise (λ a b=>¬ ltS b a):=by
    cases l with
    |nil=>exact .nil
    |cons x r=>exact rise h
  exact(q.and nd).imp λ z=>ltS_of z.1 z.2
noncomputable abbrev En:=Str×Int×Int
noncomputable abbrev Ws:=List (En×Addr)
noncomputable def ZeU (e:En):Prop:=0<=e.2.1/\0<e.2.2/\Sh.G e.2.1 e.2.2=1
noncomputable def Yf (es:List En):List Str:=es.map (·.1)
noncomputable def LedW (H:Hp)(l:Addr)(ws:Ws):Prop:=H l=some (.lst (ws.map λ w=>V.ref w.2))/\∀ w∈ws,H w.2=some (.tup [.str w.1.1, .int w.1.2.1, .int w.1.2.2])
noncomputable def Led (H:Hp)(l:Addr)(es:List En):Prop:=∃ ws:Ws,ws.map (·.1)=es/\LedW H l ws
noncomputable def DicW (K:Frag)(H:Hp)(d:Addr)(ws:Ws):Prop:=H d=some (.dK (ws.map λ w=>((Sum.inr w.1.1:Key),V.ref w.2)))/\∀ w∈ws,SqT K H w.2 [.int w.1.2.1, .int w.1.2.2]
noncomputable def Dic (K:Frag)(H:Hp)(d:Addr)(es:List En):Prop:=∃ ws:Ws,ws.map (·.1)=es/\DicW K H d ws
theorem Led.same {H H':Hp}{l:Addr}{es:List En}(h:Led H l es)(e:Zv H H'):Led H' l es:=by
 obtain⟨ws,h1,h2,h3⟩:=h;exact⟨ws,h1,e _ _ h2,λ w hw=>e _ _ (h3 w hw)⟩
theorem Dic.same {K:Frag}{H H':Hp}{l:Addr}{es:List En}(h:Dic K H l es)(e:Zv H H'):Dic K H' l es:=by
 obtain⟨ws,h1,h2,h3⟩:=h;exact⟨ws,h1,e _ _ h2,λ w hw=>e.tupq (h3 w hw)⟩
theorem Led.at1 {H:Hp}{l f:Addr}{es:List En}{o u:HO}(h:Led H l es)(hf:H f=some o)(hn:l≠f)(ho:∀ xs,o ≠ .tup xs):Led (upd H f u) l es:=by
 obtain⟨ws,h1,h2,h3⟩:=h;refine⟨ws,h1,by rw[Zc hn];exact h2,λ w hw=>?_⟩;rw[Zc (Za5 (h3 w hw) hf (λ z=>ho _ z.symm))];exact h3 w hw
theorem tupU {K:Frag}{H:Hp}{p f:Addr}{xs:List V}{kvs:List (Key×V)}{u:HO}(h:SqT K H p xs)(hf:H f=some (.dK kvs)):SqT K (upd H f u) p xs:=by
  rcases h with (h|⟨o,h⟩)|h
  . exact .inl (.inl (by rw[Zc (Za5 h hf (by intro z;cases z))];exact h))
  . exact .inl (.inr ⟨o,by rw[Zc (Za5 h hf (by intro z;cases z))];exact h⟩)
  . exact .inr h
noncomputable def fnd (es:List En)(k:Str):Option En:=es.find? λ e=>decide (e.1=k)
noncomputable def look (es:List En)(k:Str):Int×Int:=match fnd es k with|some e=>e.2|none=>(0,1)
noncomputable def Ze7 (es:List En)(k:Str)(n d:Int):List En:=if (es.any λ e=>decide (e.1=k))=true then es.map (λ e=>if e.1=k then (k,n,d) else e) else es++[(k,n,d)]
noncomputable def Ze6 (ws:Ws)(k:Str)(w':En×Addr):Ws:=if (ws.any λ w=>decide (w.1.1=k))=true then ws.map (λ w=>if w.1.1=k then w' else w) else ws++[w']
theorem val_ws (ws:Ws)(k:Str):Z4 (ws.map λ w=>((Sum.inr w.1.1:Key),V.ref w.2)) (Sum.inr k)=(ws.find? λ w=>decide (w.1.1=k)).map λ w=>V.ref w.2:=by
  induction ws with
  |nil=>rfl
  |cons w r ih=>
    by_cases h:w.1.1=k
    . rw[map_cons,XL (by rw[h]),find?_cons,decide_eq_true h];rfl
    . rw[map_cons,XM (λ z=>h (Sum.inr.inj z)),ih,find?_cons,decide_eq_false h]
theorem fnd_ws (ws:Ws)(k:Str):fnd (ws.map (·.1)) k=(ws.find? λ w=>decide (w.1.1=k)).map (·.1):=by
 unfold fnd;rw[List.find?_map];rfl
theorem put_ws (ws:Ws)(k:Str)(n d:Int)(q:Addr):X0 (ws.map λ w=>((Sum.inr w.1.1:Key),V.ref w.2)) (Sum.inr k) (V.ref q)=(Ze6 ws k ((k,n,d),q)).map λ w=>((Sum.inr w.1.1:Key),V.ref w.2):=by
  unfold X0 Ze6;have e:((ws.map λ w=>((Sum.inr w.1.1:Key),V.ref w.2)).any λ kv=>decide (kv.1=Sum.inr k))=ws.any λ w=>decide (w.1.1=k):=by
    rw[List.any_map];congr 1;funext w;simp
  rw[e];split
  . rw[map_map,map_map];refine map_congr_left λ w _=>?_
    by_cases h:w.1.1=k
    . simp[h]
    . simp[h]
  . rw[map_append];rfl
theorem Zik (ws:Ws)(k:Str)(n d:Int)(q:Addr):(Ze6 ws k ((k,n,d),q)).map (·.1)=Ze7 (ws.map (·.1)) k n d:=by
  unfold Ze7 Ze6;rw[List.any_map];show _=if (ws.any λ w=>decide (w.1.1=k))=true then _ else _
  split
  . rw[map_map,map_map];refine map_congr_left λ w _=>?_
    by_cases h:w.1.1=k
    . simp[h]
    . simp[h]
  . rw[map_append];rfl
theorem Zhu {ws:Ws}{k:Str}{w' w:En×Addr}(h:w∈Ze6 ws k w'):w=w'\/w∈ws:=by
  unfold Ze6 at h;split at h
  . obtain⟨x,hx,e⟩:=List.mem_map.mp h
    by_cases z:x.1.1=k
    . rw[if_pos z]at e;exact .inl e.symm
    . rw[if_neg z]at e;exact .inr (e▸hx)
  . rcases List.mem_append.mp h with h|h
    . exact .inr h
    . exact .inl (List.mem_singleton.mp h)
theorem Dic.put {K:Frag}{H:Hp}{d q:Addr}{ws:Ws}{es:List En}{k:Str}{n m:Int}(e:ws.map (·.1)=es)(h:DicW K H d ws)(hq:SqT K H q [.int n, .int m]) :
    Dic K (upd H d (.dK (X0 (ws.map λ w=>((Sum.inr w.1.1:Key),V.ref w.2)) (Sum.inr k) (V.ref q)))) d (Ze7 es k n m):=by
  subst e;refine⟨Ze6 ws k ((k,n,m),q),Zik ws k n m q,by rw[Zb,put_ws ws k n m q],λ w hw=>?_⟩;refine tupU ?_ h.1;rcases Zhu hw with rfl|hw
  . exact hq
  . exact h.2 w hw
theorem Dic.get {K:Frag}{H:Hp}{d:Addr}{ws:Ws}{es:List En}{k:Str}(e:ws.map (·.1)=es)(h:DicW K H d ws) :
    (∃ p,Z4 (ws.map λ w=>((Sum.inr w.1.1:Key),V.ref w.2)) (Sum.inr k)=some (V.ref p)/\SqT K H p [.int (look es k).1, .int (look es k).2]/\k∈Yf es) \/
    (Z4 (ws.map λ w=>((Sum.inr w.1.1:Key),V.ref w.2)) (Sum.inr k)=none/\look es k=(0,1)/\k∉Yf es):=by
  subst e;rw[val_ws];have q:=fnd_ws ws k;unfold look;rw[q];cases z:ws.find? λ w=>decide (w.1.1=k) with
  |none=>
    refine .inr ⟨rfl,rfl,λ hk=>?_⟩;obtain⟨x,hx,ex⟩:=List.mem_map.mp hk;obtain⟨w,hw,ew⟩:=List.mem_map.mp hx;have:=List.find?_eq_none.mp z w hw;subst ew;simp[ex]at this
  |some w=>
    have hw:=List.mem_of_find?_eq_some z;have hk:w.1.1=k:=by simpa using List.find?_some z
    exact .inl ⟨w.2,rfl,h.2 w hw,List.mem_map.mpr ⟨w.1,List.mem_map.mpr ⟨w,hw,rfl⟩,hk⟩⟩
theorem ZiO {es:List En}{k:Str}:(es.any λ e=>decide (e.1=k))=true↔k∈Yf es:=by
  unfold Yf;rw[List.any_eq_true,mem_map];constructor
  . rintro⟨e,h1,h2⟩;exact⟨e,h1,of_decide_eq_true h2⟩
  . rintro⟨e,h1,h2⟩;exact⟨e,h1,decide_eq_true h2⟩
theorem ZeG {es:List En}{k:Str}(h:k∈Yf es):(k,look es k)∈es:=by
  unfold look fnd;cases z:es.find? λ e=>decide (e.1=k) with
  |none=>
    obtain⟨x,hx,ex⟩:=List.mem_map.mp h;have:=List.find?_eq_none.mp z x hx;simp[ex]at this
  |some w=>
    have hw:=List.mem_of_find?_eq_some z;have hk:w.1=k:=by simpa using List.find?_some z
    subst hk;exact hw
theorem ZfM {es:List En}(nd:(Yf es).Nodup){e:En}(h:e∈es):look es e.1=e.2:=by
  induction es with
  |nil=>cases h
  |cons x r ih=>
    have nd':x.1∉Yf r/\(Yf r).Nodup:=by simpa [Yf] using nd
    rcases List.mem_cons.mp h with rfl|h
    . simp[look,fnd]
    . have hne:x.1≠e.1:=λ z=>nd'.1 (z▸List.mem_map.mpr ⟨e,h,rfl⟩);have:=ih nd'.2 h;unfold look fnd at this ⊢;rw[find?_cons,decide_eq_false hne];exact this
noncomputable def Can (es es':List En):Prop:=es'.Pairwise (λ a b=>ltS a.1 b.1)/\(∀ e,e∈es'↔e∈es/\e.2.1≠0)/\es'.length<=es.length
theorem Zig {l l':List En}(h:l.Pairwise (λ a b=>ltS a.1 b.1))(h':l'.Pairwise (λ a b=>ltS a.1 b.1))(e:∀ x,x∈l↔x∈l'):l=l':=by
  induction l generalizing l' with
  |nil=>
    cases l' with
    |nil=>rfl
    |cons y r=>exact absurd ((e y).mpr (mem_cons_self ..)) (by simp)
  |cons x r ih=>
    cases l' with
    |nil=>exact absurd ((e x).mp (mem_cons_self ..)) (by simp)
    |cons y r'=>
      have p:=List.pairwise_cons.mp h;have p':=List.pairwise_cons.mp h';have hxy:x=y:=by
        rcases List.mem_cons.mp ((e x).mp (mem_cons_self ..)) with z|z
        . exact z
        . rcases List.mem_cons.mp ((e y).mpr (mem_cons_self ..)) with z'|z'
          . exact z'.symm
          . exact absurd (Zgv (p.1 y z') (p'.1 x z)) (X3 _)
      subst hxy;have:r=r':=ih p.2 p'.2 λ z=>by
        have q:=e z;simp only[mem_cons]at q;constructor
        . intro hz;rcases q.mp (.inr hz) with w|w
          . subst w;exact absurd (p.1 z hz) (X3 _)
          . exact w
        . intro hz;rcases q.mpr (.inr hz) with w|w
          . subst w;exact absurd (p'.1 z hz) (X3 _)
          . exact w
      rw[this]
theorem Can.uniq {es a b:List En}(h:Can es a)(h':Can es b):a=b:=Zig h.1 h'.1 λ x=>(h.2.1 x).trans (h'.2.1 x).symm
noncomputable def ZdI (es:List En)(ss:List Str):List En:=(ss.filter λ s=>decide ((look es s).1≠0)).map λ s=>(s,look es s)
theorem ZhX {es:List En}{ss:List Str}(nd:(Yf es).Nodup)(hp:ss.Perm (Yf es))(hs:sortedS ss=true):Can es (ZdI es ss):=by
  have r:=Zep hs (hp.nodup_iff.mpr nd);refine⟨List.pairwise_map.mpr ((r.sublist List.filter_sublist).imp λ z=>z),λ e=>?_,?_⟩
  rotate_left
  . unfold ZdI;rw[length_map];refine le_trans (length_filter_le _ _) ?_;rw[hp.length_eq];unfold Yf;rw[length_map];exact le_refl _
  unfold ZdI;rw[mem_map];constructor
  . rintro⟨s,h1,rfl⟩;obtain⟨h2,h3⟩:=List.mem_filter.mp h1;exact⟨ZeG (hp.mem_iff.mp h2),of_decide_eq_true h3⟩
  . rintro⟨h1,h2⟩;have hk:e.1∈ss:=hp.mem_iff.mpr (List.mem_map.mpr ⟨e,h1,rfl⟩);have he:=ZfM nd h1;refine⟨e.1,List.mem_filter.mpr ⟨hk,decide_eq_true (by rw[he];exact h2)⟩,by rw[he]⟩
noncomputable def enD (e:En):PyData:=.tuple [.str e.1, .int e.2.1, .int e.2.2]
noncomputable def ZbQ (es:List En):PyData:=.list (es.map enD)
theorem Zih {K:Frag}{H:Hp}{ws:Ws}(h:∀ w∈ws,H w.2=some (.tup [.str w.1.1, .int w.1.2.1, .int w.1.2.2])):RdsAll K H (ws.map λ w=>V.ref w.2) ((ws.map (·.1)).map enD):=by
  induction ws with
  |nil=>exact .nil
  |cons w r ih=>exact .cons (.tuple (SqT.of (h w (mem_cons_self ..))) (.cons (.str _) (.cons (.int _) (.cons (.int _) .nil)))) (ih λ x hx=>h x (mem_cons_of_mem _ hx))
theorem Led.rds {K:Frag}{H:Hp}{l:Addr}{es:List En}(h:Led H l es):Rds K H (.ref l) (ZbQ es):=by
 obtain⟨ws,rfl,h2,h3⟩:=h;exact .list (SqL.of h2) (Zih h3)
theorem ZiA {es:List En}(h:∀ e∈es,PyData.strOk e.1=true):PyData.canLayAll0 (es.map enD)=true/\PyData.depthAll (es.map enD)<=1:=by
  induction es with
  |nil=>exact⟨rfl,by decide⟩
  |cons e r ih=>
    have h1:=h e (mem_cons_self ..);obtain⟨i1,i2⟩:=ih λ x hx=>h x (mem_cons_of_mem _ hx);refine⟨?_,?_⟩
    . simp only[map_cons,PyData.canLayAll0,enD,PyData.canLay0,h1,Bool.and_true,Bool.true_and];exact i1
    . simp only[map_cons,PyData.depthAll,enD,PyData.depth];omega
theorem Y5 {es:List En}(h:∀ e∈es,PyData.strOk e.1=true):SeqAt.shaped (ZbQ es)=true:=by
  obtain⟨h1,h2⟩:=ZiA h;unfold SeqAt.shaped;rw[and_eq_true];refine⟨?_,decide_eq_true ?_⟩
  . show PyData.canLayAll0 (es.map enD)=true;exact h1
  . show PyData.depthAll (es.map enD)+1<=64;omega
theorem ZiK {es:List En}(h:∀ e∈es,PyData.strOk e.1=true):PyData.eqv (ZbQ es) (ZbQ es)=true:=SeqAt.eqv_refl _ (SeqAt.canLay_of_shaped (Y5 h))
noncomputable def shD (n d:Int):PyData:=.tuple [.int n, .int d]
theorem Zg6 {K:Frag}{H:Hp}{p:Addr}{n d:Int}(h:SqT K H p [.int n, .int d]):Rds K H (.ref p) (shD n d):=.tuple h (.cons (.int _) (.cons (.int _) .nil))
theorem Zc9 (n d:Int):SeqAt.shaped (shD n d)=true:=rfl
theorem eqv_sh (a b c d:Int):PyData.eqv (shD a b) (shD c d)=(a == c && (b == d && true)):=rfl
end L2
namespace L2
open PySem PySem.Spec PyProof.Rows
theorem ZhN {K:Frag}{a:Addr}{xs:List V}{g:TG}{tb:TS}{D:Ends}{σ:St}{H:Hp}(Pv:Nat->St->Hp->Prop)(h0:Pv 0 σ H)(hl:∀ i σ H,i<=xs.length->Pv i σ H->SqL K H a xs)(hs:∀ i x σ H T,xs[i]? = some x->Pv i σ H->H T=none->g (.ref T) σ (upd H T (.tup [.int i,x])) λ σ2 H2=>tb { D with nx:=Pv (i+1),ct:=Pv (i+1),bk:=D.nx } σ2 H2)(hd:∀ σ H,Pv xs.length σ H->D.nx σ H) :
    ∃ W:Nat->Nat->St->Hp->Prop,(∃ m,W 0 m σ H)/\∀ i m σ H,W i m σ H ->
      ((Ite K a).stop i H/\D.nx σ H)\/((Ite K a).go i H/\∃ N:St->Hp->Prop,(∀ σ' H',N σ' H'->∃ m',m'<m/\W (i+1) m' σ' H')/\∀ x H',(Ite K a).yld i H x H'->g x σ H' λ σ2 H2=>tb { D with nx:=N,ct:=N,bk:=D.nx } σ2 H2):=by
  refine⟨λ i m σ H=>m=xs.length - i/\i<=xs.length/\Pv i σ H,⟨xs.length,by simp,zero_le _,h0⟩,?_⟩;rintro i m σ H ⟨rfl,hi,p⟩;have q:=hl i σ H hi p
  by_cases hlt:i<xs.length
  . refine .inr ⟨⟨xs,xs[i],q,by simp[hlt]⟩,Pv (i+1),λ σ' H' p'=>⟨xs.length - (i+1),by omega,rfl,hlt,p'⟩,λ x H' y=>?_⟩;obtain⟨T,z,hT,rfl,hz,rfl⟩:=y;exact hs i z σ H T (hz xs q) p hT
  . have e:i=xs.length:=by omega
    subst e;exact .inl ⟨⟨xs,q,le_refl _⟩,hd σ H p⟩
theorem Zij {es:List En}{k:Str}{n d:Int}(h:k∉Yf es):Ze7 es k n d=es++[(k,n,d)]:=by
 unfold Ze7;rw[if_neg λ z=>h (ZiO.mp z)]
theorem XN {α:Type}{l:List α}{i:Nat}(hi:i<l.length):l.take i++[l[i]]=l.take (i+1):=by
 rw[take_succ,getElem?_eq_getElem hi];rfl
theorem Zcn {G H:Hp}{p D:Addr}{o u:HO}(sm:Zv G H)(hD:G D=none)(hp:H p=none):Zv G (upd (upd H p o) D u):=λ b x e=>by
 rw[Zc (Zk e hD),Zc (Zk (sm b x e) hp)];exact sm b x e
theorem Z1 {G H:Hp}{D:Addr}{u:HO}(sm:Zv G H)(hD:G D=none):Zv G (upd H D u):=λ b x e=>by
 rw[Zc (Zk e hD)];exact sm b x e
theorem Dic.step {K:Frag}{H:Hp}{D p:Addr}{es:List En}{i:Nat}(hD:Dic K H D (es.take i))(hi:i<es.length)(nd:(Yf es).Nodup)(hp:H p=none) :
    ∃ kvs:List (Key×V),kvs.length<=i/\upd H p (.tup [.int es[i].2.1, .int es[i].2.2]) D=some (.dK kvs)/\Dic K (upd (upd H p (.tup [.int es[i].2.1, .int es[i].2.2])) D (.dK (X0 kvs (Sum.inr es[i].1) (V.ref p)))) D (es.take (i+1)):=by
  obtain⟨ws,e,hw⟩:=hD;have dW:DicW K (upd H p (.tup [.int es[i].2.1, .int es[i].2.2])) D ws:=⟨by rw[Zc (Zk hw.1 hp)];exact hw.1,λ w hx=>(Zi hp _).tupq (hw.2 w hx)⟩;have q:=Dic.put (k:=es[i].1) e dW (SqT.of (Zb (H:=H) (a:=p) (o:=.tup [.int es[i].2.1, .int es[i].2.2])));refine⟨_,?_,dW.1,?_⟩
  . rw[length_map,<- length_map (f:=(·.1)) (as:=ws),e,length_take];omega
  . have nk:es[i].1∉Yf (es.take i):=λ z=>by
      unfold Yf at z nd;rw[List.map_take]at z;have hi':i<(es.map (·.1)).length:=by simpa using hi
      have d1:((es.map (·.1)).take i++(es.map (·.1)).drop i).Nodup:=by rw[List.take_append_drop];exact nd
      rw[nodup_append]at d1;refine d1.2.2 _ z _ ?_ rfl;rw[List.drop_eq_getElem_cons hi'];simp
    rw[Zij nk,XN hi]at q;exact q
theorem Led.push {H:Hp}{D p:Addr}{es:List En}{e:En}(h:Led H D es)(hp:H p=none) :
    ∃ ys:List V,ys.length=es.length/\upd H p (.tup [.str e.1, .int e.2.1, .int e.2.2]) D=some (.lst ys)/\Led (upd (upd H p (.tup [.str e.1, .int e.2.1, .int e.2.2])) D (.lst (ys++[V.ref p]))) D (es++[e]):=by
  obtain⟨ws,rfl,h1,h2⟩:=h;have e0:D≠p:=Zk h1 hp;refine⟨ws.map λ w=>V.ref w.2,by simp,by rw[Zc e0];exact h1,ws++[(e,p)],by simp,by rw[Zb];simp,λ w hw=>?_⟩;rcases List.mem_append.mp hw with hw|hw
  . have z:=h2 w hw;rw[Zc (Za5 z h1 (by intro y;cases y)),Zc (Zk z hp)];exact z
  . rw[List.mem_singleton.mp hw];have n:p≠D:=Ne.symm e0;rw[Zc n,Zb]
theorem Zdd {es:List En}{ss:List Str}{i:Nat}(hi:i<ss.length):ZdI es (ss.take (i+1))=if (look es ss[i]).1≠0 then ZdI es (ss.take i)++[(ss[i],look es ss[i])] else ZdI es (ss.take i):=by
  rw[<- XN hi];unfold ZdI;rw[filter_append,map_append];split
  . rename_i h;simp[h]
  . rename_i h;simp only[ne_eq,Decidable.not_not]at h;simp[h]
theorem Led.len {H:Hp}{l:Addr}{es:List En}(h:Led H l es):∃ xs,H l=some (.lst xs)/\xs.length=es.length:=by
 obtain⟨ws,rfl,h1,_⟩:=h;exact⟨_,h1,by simp⟩
theorem Led.at {H:Hp}{l:Addr}{es:List En}{xs:List V}{i:Nat}{x:V}(h:Led H l es)(hl:H l=some (.lst xs))(hx:xs[i]? = some x):∃(p:Addr)(e:En),x = .ref p/\es[i]? = some e/\H p=some (.tup [.str e.1, .int e.2.1, .int e.2.2]):=by
  obtain⟨ws,rfl,h1,h2⟩:=h;rw[h1]at hl;cases hl;rw[getElem?_map]at hx;cases z:ws[i]? with
  |none=>rw[z]at hx;cases hx
  |some w=>
    rw[z]at hx;refine⟨w.2,w.1,(Option.some.inj hx).symm,by rw[getElem?_map,z];rfl,h2 w (mem_of_getElem? z)⟩
end L2
namespace L2
open PySem PySem.Spec PyProof.Rows
section
variable {P:Program}{w:World}{K:Frag}{mg:Str->Option Value}{base:Heap}{N:List Str}{qual:Str}{scope:Scope}{f:Addr}{cd:Value}{A:Around}{outer:List Env}{s0:Shared}{H0:Hp}{E:XK}
theorem Xf:YF (CXR P w base) (YW (CXR P w base) P w K mg base N qual scope f cd A outer s0 H0 E) E:=by
  intro pins σ H s e s2 I h;obtain⟨ex,T0,C,H2,rfl,os,bare,un,hok,fly,Ha,HT,ha,hT,q2⟩:=h;have I2:Inv (YW (CXR P w base) P w K mg base N qual scope f cd A outer s0 H0 E) pins σ H2 s2:=I.call' (ch:=[]) os un hok bare λ b z=>absurd z (by simp);obtain⟨y1,y2,y3,a0,oe0,vs0,oT0,ts0,z1,z2,z3,z4,z5,z6,z7,z8,z9⟩:=fly
  let fr:=frs (envOfC qual scope s0.heap.objs.size f cd::outer)
  let B:=hideAll s2.heap (ex::T0::fr)
  have hin:∀ env∈(envOfC qual scope s0.heap.objs.size f cd::outer),∀ b,env.frame=some b->b∈ex::T0::fr:=λ env he b hb=>mem_cons_of_mem _ (mem_cons_of_mem _ (List.mem_filterMap.mpr ⟨env,he,hb⟩));have stk:s2.heap.FunFrames base (envOfC qual scope s0.heap.objs.size f cd::outer):=I2.stack;have notL:∀ b o,s0.heap.get? b=some o->b≠s0.heap.objs.size:=λ b o e=>ne_of_lt (Heap.lt_size e);have inB:∀ b o,s2.heap.get? b=some o->b∉ex::T0::fr->B.get? b=some o:=λ b o e n=>PySem.W.hideAll_get _ e n;have hid:∀ b,b∈ex::T0::fr->B.get? b=none:=λ b hb=>PySem.W.hideAll_none _ hb;have up:∀ b o,s0.heap.get? b=some o->∃ o',s.heap.get? b=some o':=λ b o z=>I.base.there b o z (λ q=>absurd (show b∈([]:List Addr) from q) (by simp));have no0:∀ b,s.heap.get? b=none->s0.heap.get? b=none:=λ b n=>by
    cases z:s0.heap.get? b with
    |none=>rfl
    |some o=>
      obtain⟨o',z'⟩:=up b o z;rw[n]at z';cases z'
  have no2:∀ b,s2.heap.get? b=none->s0.heap.get? b=none:=λ b n=>by
    cases z:s0.heap.get? b with
    |none=>rfl
    |some o=>
      obtain⟨o',z'⟩:=I2.base.there b o z (λ q=>absurd (show b∈([]:List Addr) from q) (by simp));rw[n]at z';cases z'
  have nex:∀ b,b∉(YW (CXR P w base) P w K mg base N qual scope f cd A outer s0 H0 E).ex:=λ b q=>absurd (show b∈([]:List Addr) from q) (by simp);have notIn:∀ b o,s0.heap.get? b=some o->b∉frs outer->b∉ex::T0::fr:=λ b o z n hb=>by
    rcases List.mem_cons.mp hb with r|hb
    . rw[r,no0 _ ha]at z;cases z
    . rcases List.mem_cons.mp hb with r|hb
      . rw[r,no0 _ hT]at z;cases z
      . exact I2.stkNo (notL b o z) n hb
  show wpAny (model P w) (A.deeper (envOfC qual scope s0.heap.objs.size f cd)) (leaving (envOfC qual scope s0.heap.objs.size f cd) (.ref ex)) (λ _ s''=>CXR P w base outer H0 s0 E (.ref ex) s'') (λ e' s''=>CXR P w base outer H0 s0 E e' s'') s2;refine wpAny_leaves_onW (base:=B) (L:=s0.heap.objs.size) (cls:=C) (a0:=a0) I2.ok.frames rfl ⟨λ b o z=>PySem.W.of_hideAll _ z,hid ex (mem_cons_self ..),PySem.W.funFrames_hide stk hin,oe0,vs0,T0,oT0,ts0,z1,z2,z3,z4,hid T0 (mem_cons_of_mem _ (mem_cons_self ..)),z6,z7,z8,z9⟩ λ h'' fl U=>?_;obtain⟨f1,f2,f3,oe,vs,Tr,oT,ts,g1,g2,g3,g4,g5,g6,g7,g8,g9⟩:=fl;have U2:∀ b o,s2.heap.get? b=some o->(∀ vs,o.data ≠ .fields vs)->∃ sl,h''.get? b=some { o with slots:=sl }:=λ b o z n=>U b o z n;have baseB:base.StaysIn B:=λ b o z=>inB b o (I2.bk b o z) λ hb=>by
    rcases List.mem_cons.mp hb with r|hb
    . rw[r,y2]at z;cases z
    . rcases List.mem_cons.mp hb with r|hb
      . rw[r,z5]at z;cases z
      . rw[(stk.mem hb).1]at z;cases z
  have trN:H2 Tr=none/\s0.heap.get? Tr=none:=by
    cases z:s2.heap.get? Tr with
    |none=>exact⟨I2.untr z,no2 _ z⟩
    |some o=>
      by_cases hb:Tr∈ex::T0::fr
      . rcases List.mem_cons.mp hb with r|hb
        . exact absurd r g6
        . rcases List.mem_cons.mp hb with r|hb
          . rw[r];exact⟨HT,no0 _ hT⟩
          . obtain⟨_,o',ho',d'⟩:=stk.mem hb;obtain⟨sl,z2'⟩:=U2 Tr o' ho' d';rw[g7]at z2';have z3':=congrArg (λ q:Option Obj=>q.map (·.data)) z2';simp only[map_some,g8]at z3';exact absurd (Option.some.inj z3').symm (d' ts)
      . rw[inB Tr o z hb]at g5;cases g5
  refine⟨ex,Tr,C,H2,rfl,I2.os,I2.bare,⟨λ b o z n hb _=>?_,λ b o z n hb _=>?_,λ b o z n _=>I2.base.free b o z n (nex b),λ b o z _=>?_,I2.base.tups,I2.base.frzs,I2.base.tbls⟩,λ b u z=>?_,⟨λ b o z=>f1 b o (baseB b o z),y2,PySem.W.funFrames_base baseB f3,a0,oe,vs,oT,ts,g1,g2,g3,g4,?_,g6,g7,g8,g9⟩,Ha,trN.1,no0 _ ha,trN.2,q2⟩
  . exact f1 b o (inB b o (I2.base.keep b o z n hb (nex b)) (notIn b o z hb))
  . obtain⟨sl,w1⟩:=I2.base.slot b o z n hb (nex b);obtain⟨_,o',ho',d'⟩:=I2.ok.funs.mem hb;have:o'=o:=by rw[show(YW (CXR P w base) P w K mg base N qual scope f cd A outer s0 H0 E).s₀.heap.get? b=some o from z]at ho';exact(Option.some.inj ho').symm
    subst this;obtain⟨sl',w2⟩:=U2 b _ w1 (λ vs=>d' vs);exact⟨sl',w2⟩
  . by_cases hb:b∈fr
    . obtain⟨_,o',ho',d'⟩:=stk.mem hb;obtain⟨sl,w2⟩:=U2 b o' ho' d';exact⟨_,w2⟩
    . obtain⟨o',z'⟩:=I2.base.there b o z (nex b);refine⟨o',f1 b o' (inB b o' z' λ hb'=>?_)⟩;rcases List.mem_cons.mp hb' with r|hb'
      . rw[r,no0 _ ha]at z;cases z
      . rcases List.mem_cons.mp hb' with r|hb'
        . rw[r,no0 _ hT]at z;cases z
        . exact hb hb'
  . refine(I2.hok b u z).stay (λ c v hc q=>?_) (λ _ q=>q) λ _ _ q=>q;have tr:∀ c v,H2 c=some v->c∉ex::T0::fr:=λ c v q n=>by
      rcases List.mem_cons.mp n with r|n
      . rw[r,Ha]at q;cases q
      . rcases List.mem_cons.mp n with r|n
        . rw[r,HT]at q;cases q
        . rw[I2.stkFree c n]at q;cases q
    rcases hc with hc|hc
    . rw[hc]at q ⊢;exact f1 b v (inB b v q (tr b u z))
    . exact f1 c v (inB c v q (tr c _ hc))
  . cases z:base.get? Tr with
    |none=>rfl
    |some o=>
      rw[baseB Tr o z]at g5;cases g5
end
noncomputable def tFnX (sp:Sp)(E:XK)(t:TA):TE:=λ σ H Q=>t σ H λ vs H1=>sp vs H1 Q E
theorem JN {X:Cx}{k:Nat}{x:Str}{ps:List Str}{sp:Sp}{E:XK}{p pos:Pos}{e:Expr}{es:List Expr}{t:TA}(hx:YF (CXR X.prog X.w X.base) X E)(D:Dx X.prog X.w X.K X.mg X.base k x ps sp)(hr:Room k X.A)(ha:PA X (e::es) t)(hg:Gl X x:=by rfl)(hdb:(x == ("__debug__":Str))=false:=by decide)(he:starEach (e::es) X.env=(false,eval e X.env)::starEach es X.env:=by rfl)(hpl:(backTo pos (starEach es X.env)).any (·.1)=false:=by rfl) :
    PE X (.Call (.Name x p) (e::es) [] pos) (tFnX sp E t):=by
  obtain⟨f,fd,F,hm,hk,hb⟩:=D.ex;have q:=ZfF (p:=p) (pos:=pos) F hr hg hm hk hb .nil hx ha hdb he hpl;have e:ZgU sp [] E t=tFnX sp E t:=by
    funext σ H Q;show t σ H (λ vs H1=>sp (vs++[]) H1 Q E)=t σ H λ vs H1=>sp vs H1 Q E;simp only[append_nil]
  rw[<- e];exact q
end L2
namespace L2
open PySem PySem.Spec PyProof.Rows
theorem relK {k:Key}{u:Value}(h:Zbx k u=true):Zw (kV k) u:=by
  rcases ZJ h with ⟨i,t,e,rfl⟩|⟨x,t,e,rfl⟩
  . subst e;exact⟨t,rfl⟩
  . subst e;exact⟨t,rfl⟩
theorem ZhM {X:Cx}{pins:List (Addr×Obj)}{σ:St}{H:Hp}{s:Shared}{d:Addr}{o:Obj}{kvs:List (Key×V)}{es:Array DictEntry}{ep:Nat}(I:Inv X pins σ H s)(h:H d=some (.frz o (.dK kvs)))(ho:o.data = .dict es ep) :
    ∃ vs,KV kvs vs/\s.heap.DictAt (ZM X.prog X.w) d vs ep:=by
  obtain⟨g,_,_,vs,rel,dd⟩:=(show ZR X.prog X.w H s.heap d (.frz o (.dK kvs)) from I.hok d _ h);obtain⟨ep',hat⟩:=dd.dictAt;obtain⟨o',es',h1,h2,h3,h4⟩:=id hat;rw[g]at h1;cases h1;rw[ho]at h3;cases h3;exact⟨vs,rel,hat⟩
noncomputable def Itd (d:Addr)(o:Obj)(kvs:List (Key×V)):It:=
 ⟨λ i H=>H d=some (.frz o (.dK kvs))/\i<kvs.length,λ i H x H'=>H'=H/\∃ k v,kvs[i]? = some (k,v)/\x=kV k,λ i H=>H d=some (.frz o (.dK kvs))/\kvs.length<=i⟩
theorem Zge {P:Program}{w:World}{K:Frag}{tg:Expr}(d it:Addr)(o:Obj)(kvs:List (Key×V))(es:Array DictEntry)(ep:Nat)(ho:o.data = .dict es ep):Turn P w K tg (Itd d o kvs) [it] it (λ i h=>h.IsKeyIter it d i kvs.length ep) where
  mem:=by simp
  obj:=λ i h st b hb=>by
    have e:b=it:=by simpa using hb
    subst e;obtain⟨o,e,c,d⟩:=st;exact⟨o,e,λ v z=>by rw[d]at z;cases z⟩
  keep:=λ i h h' st k=>st.at λ o e=>k it (by simp) o e
  item:=by
    intro X hP hw hK hc i pins s σ H E I hf st hg;subst hP hw hK;obtain⟨hfr,hi⟩:=hg;obtain⟨vs,rel,hat⟩:=ZhM I hfr ho;have hl:kvs.length=vs.length:=rel.length;obtain⟨⟨k,x⟩,hx⟩:∃ p,vs[i]? = some p:=⟨vs[i]'(by omega),getElem?_eq_getElem (by omega)⟩;obtain⟨y,hy⟩:=ZfP rel hx;obtain⟨f0,f1,f2,f3,f4,f5⟩:=hf it (by simp);rw[hl]at st;refine wpAny_pyNext_dict_item st hat hx λ key h' hkey st' sb=>?_;have I1:Inv X pins σ H { s with heap:=h' }:=I.turned (t':=s.toks) (λ b o hb e=>(sb.2 b hb).trans e) f0 f1 f3 f4 f5;rw[<- hl]at st';obtain⟨o2,e,c,d2⟩:=id st';exact⟨key,rfl,ZfU (s:={ s with heap:=h' }) e c d2 (by decide) ⟨kV k,H,I1,relK hkey,⟨rfl,k,y,hy,rfl⟩,st',λ b hb=>(hf b hb).1⟩⟩
  done:=by
    intro X hP hw hK hc i pins s σ H E I hf st hg;subst hP hw hK;obtain⟨hfr,hi⟩:=hg;obtain⟨vs,rel,hat⟩:=ZhM I hfr ho;have hl:kvs.length=vs.length:=rel.length;obtain⟨f0,f1,f2,f3,f4,f5⟩:=hf it (by simp);rw[hl]at st;exact wpAny_pyNext_dict_end (I.ok.hd hc) st hat (by simp;omega) λ h' eb=>⟨rfl,I.turned (t':=s.toks) (λ b o hb e=>eb b o hb e) f0 f1 f3 f4 f5⟩
  self:=λ _ _ _ _ _ st h=>wpAny_pyIter_keyiter st h
noncomputable def iDict (tl:TE):TI:=λ σ H R=>tl σ H λ x H1=>∃ d kvs,x = .ref d/\H1 d=some (.dK kvs)/\∀ o,R (Itd d o kvs) (upd H1 d (.frz o (.dK kvs)))
theorem ZdJ {X:Cx}{tg l:Expr}{tl:TE}(hl:PE X l tl):PI X tg l (iDict tl):=by
 refine⟨?_⟩;intro pins s σ H R I h;refine thn (hl pins s σ H _ I h) λ v s1 zz9=>?_;obtain⟨x,H1,I1,r1,q1⟩:=zz9;obtain⟨d,kvs,e,hd,q⟩:=q1;subst e;cases r1;obtain⟨z,lo,vs,rel,dd⟩:=ZhQ I1.hok hd;obtain⟨ep,hat⟩:=dd.dictAt;obtain⟨o,es,h1,h2,h3,h4⟩:=id hat;have hl:kvs.length=vs.length:=rel.length;have I2:Inv X pins σ (upd H1 d (.frz o (.dK kvs))) s1:=I1.write (t':=s1.toks) (h':=s1.heap) (x:=d) (e:=d) (by rw[hd];exact True.intro) (.inl rfl) (λ b u _ q=>q) ⟨o,h1⟩ ⟨h1,z,lo,vs,rel,dd⟩;refine wpAny_pyIter_dict lo hat ?_;refine⟨s1.heap.objs.size,[s1.heap.objs.size],_,_,_,rfl,I2.kept (t':=s1.toks) λ b o e=>Heap.get?_push_of_some _ e,Zge d _ o kvs es ep h3,⟨_,Heap.get?_push_size _ rfl,rfl,by rw[hl];rfl⟩,λ b hb=>?_,q o⟩;have e:b=s1.heap.objs.size:=by simpa using hb
 subst e;exact I2.fpOk (le_refl _) (I2.hok.fresh (le_refl _))
end L2
namespace L2
open PySem PySem.Spec PyProof.Rows
noncomputable def rSortR:List V->Hp->VK->Prop:=λ xs H Q=>∃(d:Addr)(kvs:List (Key×V))(ss:List Str),xs=[.ref d]/\Rd H d (.dK kvs)/\kvs.map (·.1)=ss.map Sum.inr/\kvs.length<64 /\
 ∀(ss':List Str)(l:Addr),ss'.Perm ss->sortedS ss'=true->H l=none->Q (.ref l) (upd H l (.lst (ss'.map V.str)))
theorem Zed {X:Cx}(hc:X.calm=true):Xk X (.builtin "sorted") rSortR:=by
  intro pins s σ H xs us Q I r h;obtain⟨d,kvs,ss,rfl,hd,hk,h64,q⟩:=h;obtain⟨u,rfl,rx⟩:=X9 r;cases rx;obtain⟨z,lo,vs,rel,dd⟩:=Za9 I.hok hd;obtain⟨ep,hat⟩:=dd.dictAt;have hln:kvs.length=vs.length:=rel.length;refine Calls.call_function_entry kind_sorted plain_sorted entry_sorted (args_sorted1 _) ?_;unfold Builtin.«sorted»;refine wpAny_bind (m:=checkCount "sorted" 1 1 _) (wpAny_pure ?_);refine wpAny_bind (PySem.W.kdu_collect (A:=X.A.in1) (PySem.W.kdl_dict (knd:=ZM X.prog X.w) (kvs:=vs) (ep:=ep) lo) (I.ok.hd hc) hat (by omega) λ h' tk acc hkp hacc=>?_);have I1:=I.kept (h':=h') (t':=tk) hkp;have hl:acc.toList.length=vs.length:=by rw[length_toList];exact hacc.1
  refine wpAny_bind (wpAny_newList ?_ (by rw[hl];omega));have hS:StrsAre acc.toList ss:=Ze0 (by rw[hl,<- hln,<- length_map (f:=(·.1)) (as:=kvs),hk,length_map]) λ j u e=>by
    obtain⟨k,x,e1,e2⟩:=hacc.2 j u (by rw[<- getElem?_toList];exact e);obtain⟨y,e3⟩:=ZfP rel e1;have e4:(kvs.map (·.1))[j]? = some k:=by rw[getElem?_map,e3];rfl
    rw[hk,getElem?_map]at e4;cases e5:ss[j]? with
    |none=>rw[e5]at e4;cases e4
    |some x'=>
      rw[e5]at e4;have e6:Sum.inr x'=k:=Option.some.inj e4;subst e6;rcases ZJ (show Zbx (Sum.inr x') u=true from e2) with ⟨i,t,e7,rfl⟩|⟨y',t,e7,rfl⟩
      . cases e7
      . cases e7;exact⟨_,t,rfl,rfl⟩
  have hoL:(h'.push { cls:=.type "list",data:=.seq acc.toList.toArray }).get? h'.objs.size=some (seqObj "list" acc.toList.toArray 0):=Heap.get?_push_size _ rfl;refine wpAny_bind (wpAny_holding (wpAny_call_entry slot_list_sort ⟨_,hoL,rfl⟩ entry_list_sort (list_sort_treeK strKind_oneLt hoL hS.keysOf (λ v₁ v₂ Zbd e=>keyKind_strs (by rw[<- e];exact hS)) (by rw[hl,<- hln];exact h64) λ st' a1 a2=>⟨_,rfl,?_⟩) (args_list_sort _)));obtain⟨ss',b1,b2,b3⟩:=sorted_out_str hS a1 a2;refine wpAny_pure ⟨_,rfl,?_⟩;have fr:H h'.objs.size=none:=I1.fresh;refine⟨.ref h'.objs.size,upd H h'.objs.size (.lst (ss'.map V.str)),?_,rfl,q ss' _ b2 b3 fr⟩;obtain⟨en,hen⟩:=sortedHeap_at (a:=h'.objs.size) (vs:=acc.toList) (out:=(arrOf st').map (·.2)) hoL;refine I1.laid (t':=tk) (λ b u e=>?_) (le_refl _) ⟨?_,_,en,Zgb b1,?_⟩
  . have hlt:b<h'.objs.size:=Heap.lt_size e;exact(sortedHeap_old (ne_of_lt hlt) (by rw[Heap.size_push];exact lt_succ_of_lt hlt)).trans (Heap.get?_push_of_some _ e)
  . rw[length_map,b2.length_eq,<- length_map (f:=(Sum.inr:Str->Key)) (as:=ss),<- hk,length_map];exact z
  . rw[Array.toArray_toList];exact hen
end L2
namespace L2
open PySem PySem.Spec PyProof.Rows
noncomputable def vl (n d:Int):Rat:=(n:Rat) / (d:Rat)
end L2
namespace L2
open PySem PySem.Spec PyProof.Rows
theorem Zfs:∀(l:List (Str×Tok)),ZF ((l.map (·.1)).map V.str) (strValues l)
  |[] => .nil
  |(x,t)::r => .cons ⟨t,rfl⟩ (Zfs r)
section
variable {X:Cx}
theorem Zgo:OpR X (compareOp .Gt) (λ x y H Q=>∃ i j,x = .str i/\y = .str j/\Q (.bl (decide (j.cps.toList<i.cps.toList))) H):=by
 intro pins s σ H x y v u Q I rx ry h;obtain⟨i,j,rfl,rfl,q⟩:=h;obtain⟨t,rfl⟩:=rx;obtain⟨t',rfl⟩:=ry;exact PySem.P.gt_str (ZC I q rfl)
theorem Zc2:Xk X (.type "int") (λ xs H Q=>∃ z n,xs=[.str z]/\PySem.intText? z=some n/\z.length<=640/\Q (.int n) H):=by
 intro pins s σ H xs us Q I r h;obtain⟨z,n,rfl,hn,hl,q⟩:=h;obtain⟨u,rfl,t,rfl⟩:=X9 r;exact PySem.W.KIN.call_text hn hl ⟨.int n,H,I.tok _,⟨_,rfl⟩,q⟩
noncomputable def rSplit:V->List V->Hp->VK->Prop:=λ x xs H Q=>∃ z y,x = .str z/\xs=[.str y]/\(y.length == 0)=false/\z.length<=sizeLine/\(Builtin.Str.partsBetween z (Builtin.Str.occurrences z y 0 z.length (z.length+1)) y.length).length<=sizeLine /\
 ∀ l,H l=none->Q (.ref l) (upd H l (.lst ((Txt.split z y).map V.str)))
theorem Zhr:MtR X "str.split" rSplit:=by
  intro pins s σ H x xs v us Q I rx rv h;obtain⟨z,y,rfl,rfl,hy,hz,hz2,q⟩:=h;obtain⟨t,rfl⟩:=rx;obtain⟨u,rfl,t',rfl⟩:=X9 rv;have fin:∀(l:List (Str×Tok))(tk:Nat),l.map (·.1)=Txt.split z y->l.length<=sizeLine->EP X pins σ Q (.ref s.heap.objs.size) { s with heap:=s.heap.push { cls:=.type "list",data:=.seq (strValues l).toArray },toks:=tk }:=λ l tk e hl=>
    ⟨.ref s.heap.objs.size,_,I.laid (t':=tk) (o:=.lst ((Txt.split z y).map V.str)) (λ _ _ w=>Heap.get?_push_of_some _ w) (le_refl _) ⟨by rw[length_map,<- e,length_map];exact hl,strValues l,0,by rw[<- e];exact Zfs l,Heap.get?_push_size _ rfl⟩,rfl,q _ I.fresh⟩
  cases h1:(decide (z.length<y.length) || decide (Builtin.Str.strKind z<Builtin.Str.strKind y))
  . cases hf:(Builtin.Str.occurrences z y 0 z.length (z.length+1)).isEmpty
    . refine call_meets F.slot_str_split (typeIs_str _ _ _) F.entry_str_split (F.args_str_split_2 _ _) (meets_str_split_sep z y t t' h1 hy hf hz hz2) ?_;have w:=fin (numbered s.toks (Builtin.Str.partsBetween z (Builtin.Str.occurrences z y 0 z.length (z.length+1)) y.length)) (s.toks+(Builtin.Str.partsBetween z (Builtin.Str.occurrences z y 0 z.length (z.length+1)) y.length).length) ((numbered_texts _ _).trans (by unfold Txt.split;rw[h1,hf];rfl)) (by rw[<- length_map (f:=(·.1)),numbered_texts];exact hz2);rw[<- strsFrom_eq]at w;exact w
    . exact call_meets F.slot_str_split (typeIs_str _ _ _) F.entry_str_split (F.args_str_split_2 _ _) (meets_str_split_not_found z y t t' h1 hy hf) (fin [(z,t)] s.toks (by unfold Txt.split;rw[h1,hf];rfl) (by show 1<=sizeLine;decide))
  . exact call_meets F.slot_str_split (typeIs_str _ _ _) F.entry_str_split (F.args_str_split_2 _ _) (meets_str_split_cannot_occur z y t t' h1) (fin [(z,t)] s.toks (by unfold Txt.split;rw[h1];rfl) (by show 1<=sizeLine;decide))
noncomputable def rRpart:V->List V->Hp->VK->Prop:=λ x xs H Q=>∃ z y,x = .str z/\xs=[.str y]/\(y.length == 0)=false/\z.length<=sizeLine /\
 ∀ l,H l=none->Q (.ref l) (upd H l (.tup (match Builtin.Str.lastOccurrence z y 0 z.length with|some i=>[V.str (Builtin.Str.strSub z 0 i),V.str y,V.str (Builtin.Str.strSub z (i+y.length) z.length)]|none=>[V.str Str.empty,V.str Str.empty,V.str z])))
theorem Zhs:MtR X "str.rpartition" rRpart:=by
  intro pins s σ H x xs v us Q I rx rv h;obtain⟨z,y,rfl,rfl,hy,hz,q⟩:=h;obtain⟨t,rfl⟩:=rx;obtain⟨u,rfl,t',rfl⟩:=X9 rv;refine call_meets F.slot_str_rpartition (typeIs_str _ _ _) F.entry_str_rpartition (F.args_str_rpartition_2 _ _) (meets_str_rpartition z y t t' hy hz) ?_;revert q;cases Builtin.Str.lastOccurrence z y 0 z.length with
  |some i=>
    intro q;exact⟨.ref s.heap.objs.size,_,I.laid (t':=s.toks+1+1) (o:=.tup [V.str (Builtin.Str.strSub z 0 i),V.str y,V.str (Builtin.Str.strSub z (i+y.length) z.length)]) (λ _ _ w=>Heap.get?_push_of_some _ w) (le_refl _) ⟨by show 3<=sizeLine;decide,_, .cons ⟨_,rfl⟩ (.cons ⟨_,rfl⟩ (.cons ⟨_,rfl⟩ .nil)),IsTup.new _ _⟩,rfl,q _ I.fresh⟩
  |none=>
    intro q;exact⟨.ref s.heap.objs.size,_,I.laid (t':=s.toks+1) (o:=.tup [V.str Str.empty,V.str Str.empty,V.str z]) (λ _ _ w=>Heap.get?_push_of_some _ w) (le_refl _) ⟨by show 3<=sizeLine;decide,_, .cons ⟨_,rfl⟩ (.cons ⟨_,rfl⟩ (.cons ⟨_,rfl⟩ .nil)),IsTup.new _ _⟩,rfl,q _ I.fresh⟩
noncomputable def rRfind:V->List V->Hp->VK->Prop:=λ x xs H Q=>∃ z y,x = .str z/\xs=[.str y]/\Q (.int (match Builtin.Str.lastOccurrence z y 0 z.length with|some i=>(i:Int)|none => -1)) H
theorem Zht:MtR X "str.rfind" rRfind:=by
 intro pins s σ H x xs v us Q I rx rv h;obtain⟨z,y,rfl,rfl,q⟩:=h;obtain⟨t,rfl⟩:=rx;obtain⟨u,rfl,t',rfl⟩:=X9 rv;refine call_meets F.slot_str_rfind (typeIs_str _ _ _) F.entry_str_rfind (F.args_str_rfind_2 _ _) (gives_str_rfind z y t t').meets ?_;exact⟨.int _,H,I.tok _,⟨_,rfl⟩,q⟩
noncomputable def Its (x:Str):It:=⟨λ i _=>i<x.cps.size,λ i H v H'=>H'=H/\∃ c,x.cps[i]? = some c/\v = .str ⟨#[c]⟩,λ i _=>x.cps.size<=i⟩
theorem ZgL {prog:Program}{w:World}{A:Around}(hh:A.handled=none)(it:Addr)(x:Str)(t:Tok):Walks prog w A it [it] [it] x.cps.size (SignAt x) (λ i h=>h.IsStrIter it (strIterType x) x t i):=by
  cases ha:x.cps.all (· < 128) with
  |true=>
    have e:strIterType x="str_ascii_iterator":=by unfold strIterType;rw[ha];rfl
    rw[e];exact Walks.strAscii hh it x t
  |false=>
    have e:strIterType x="str_iterator":=by unfold strIterType;rw[ha];rfl
    rw[e];exact Walks.strWide hh it x t
theorem ZgQ {P:Program}{w:World}{K:Frag}{tg:Expr}(it:Addr)(x:Str)(t:Tok):Turn P w K tg (Its x) [it] it (λ i h=>h.IsStrIter it (strIterType x) x t i) where
  mem:=by simp
  obj:=λ i h st b hb=>by
    have e:b=it:=by simpa using hb
    subst e;obtain⟨o,e,c,d⟩:=st;exact⟨o,e,λ v z=>by rw[d]at z;cases z⟩
  keep:=λ i h h' st k=>by
    obtain⟨o,e,r⟩:=st;exact⟨o,k it (by simp) o e,r⟩
  item:=by
    intro X hP hw hK hc i pins s σ H E I hf st hg;subst hP hw hK;obtain⟨f0,f1,f2,f3,f4,f5⟩:=hf it (by simp);refine(ZgL (prog:=X.prog) (w:=X.w) (I.ok.hd hc) it x t).item i s _ _ hg st λ v h' tk hv st' kk=>?_;obtain⟨c,u,hc',rfl⟩:=hv;have I1:Inv X pins σ H { s with heap:=h',toks:=tk }:=I.turned (λ b o hb e=>kk b o (by simpa using hb) e) f0 f1 f3 f4 f5;obtain⟨o2,e,cl,d2⟩:=id st';refine⟨_,rfl,ZfU (s:={ s with heap:=h',toks:=tk }) e cl d2 ?_ ⟨.str ⟨#[c]⟩,H,I1,⟨u,rfl⟩,⟨rfl,c,hc',rfl⟩,st',λ b hb=>(hf b hb).1⟩⟩;unfold strIterType;cases x.cps.all (· < 128) <;> decide
  done:=by
    intro X hP hw hK hc i pins s σ H E I hf st hg;subst hP hw hK;obtain⟨f0,f1,f2,f3,f4,f5⟩:=hf it (by simp);have hn:x.cps[i]? = none:=Array.getElem?_eq_none hg;have fin:∀ h',Heap.ExtBut it s.heap h'->(none:Option Value)=none/\Inv X pins σ H { s with heap:=h' }:=λ h' eb=>⟨rfl,I.turned (t':=s.toks) (λ b o hb e=>eb b o hb e) f0 f1 f3 f4 f5⟩;cases ha:x.cps.all (· < 128) with
    |true=>
      rw[show strIterType x="str_ascii_iterator" by unfold strIterType;rw[ha];rfl]at st;exact wpAny_pyNext_ascii_end (I.ok.hd hc) st hn fin
    |false=>
      rw[show strIterType x="str_iterator" by unfold strIterType;rw[ha];rfl]at st;exact wpAny_pyNext_wide_end (I.ok.hd hc) st hn fin
  self:=λ _ i s _ _ st h=>by
    cases ha:x.cps.all (· < 128) with
    |true=>
      rw[show strIterType x="str_ascii_iterator" by unfold strIterType;rw[ha];rfl]at st;exact wpAny_pyIter_striter_ascii st h
    |false=>
      rw[show strIterType x="str_iterator" by unfold strIterType;rw[ha];rfl]at st;exact wpAny_pyIter_striter_wide st h
noncomputable def iStr (tl:TE):TI:=λ σ H R=>tl σ H λ x H1=>∃ z,x = .str z/\R (Its z) H1
theorem Ze9 {tg l:Expr}{tl:TE}(hl:PE X l tl):PI X tg l (iStr tl):=by
 refine⟨?_⟩;intro pins s σ H R I h;refine thn (hl pins s σ H _ I h) λ v s1 zz9=>?_;obtain⟨x,H1,I1,r1,q1⟩:=zz9;obtain⟨z,e,q⟩:=q1;subst e;obtain⟨t,rfl⟩:=r1;refine wpAny_pyIter_strU ?_;refine⟨s1.heap.objs.size,[s1.heap.objs.size],_,_,H1,rfl,I1.kept (t':=s1.toks) λ b o e=>Heap.get?_push_of_some _ e,ZgQ _ z t,⟨_,Heap.get?_push_size _ rfl,rfl,rfl⟩,λ b hb=>?_,q⟩;have e:b=s1.heap.objs.size:=by simpa using hb
 subst e;exact I1.fpOk (le_refl _) (I1.hok.fresh (le_refl _))
noncomputable def gStar (K:Frag)(t:TGs):TG:=λ v σ H Q=>∃ l x xs,v = .ref l/\SqL K H l (x::xs)/\xs.length<=10000/\∀ D,H D=none->t [x, .ref D] σ (upd H D (.lst xs)) Q
theorem Zio {a b:Expr}{k:Nat}{sp pos:Pos}{t:TGs}(hc:X.calm=true)(h:PGs X [a,b] t)(hn:(assignEach [a, .Starred b sp] X.env).length=2:=by rfl)(hst:(assignEach [a, .Starred b sp] X.env).findIdx? (·.1)=some 1:=by rfl)(hm:(assignEach [a, .Starred b sp] X.env).map (·.2)=(assignEach [a,b] X.env).map (·.2):=by rfl):PG X (.Tuple [a, .Starred b sp] k pos) (gStar X.K t):=by
  refine⟨?_⟩;intro pins s σ H v u Q I r hw;obtain⟨l,x,xs,e1,hq,hl,hw⟩:=hw;subst e1;cases r;obtain⟨its,rv,pl,hz⟩:=I.list hq;have hL:=pl.isList;obtain⟨vx,its',rfl,rx,rr⟩:∃ vx its',its=vx::its'/\Zw x vx/\ZF xs its':=by
    cases rv with
    |cons p q=>exact⟨_,_,rfl,p,q⟩
  have hll:l<s.heap.objs.size:=by obtain⟨_,z,_⟩:=hL;exact Heap.lt_size z
  have hne:l≠s.heap.objs.size:=ne_of_lt hll;have hsz:(vx::its').toArray.size=its'.length+1:=by simp
  have hil:its'.length=xs.length:=rr.length.symm;rw[assign_Tuple];refine wpAny_bind (wpAny_standAt ?_);unfold unpack;rw[hn,hst,hm];refine wpAny_bind (wpAny_holding ?_);unfold unpackItems notIterableAtAll;refine wpAny_bind (wpAny_bind (wpAny_specialOf hL.typeIs slot_list_iter.lookup (wpAny_pure ?_)));simp only[Bool.false_eq_true,if_false];refine wpAny_bind (wpAny_holding (wpAny_pyIter_list hL ?_));refine wpAny_bind (wpAny_holding (PySem.W.kun_draw hne 1 0 _ _ ⟨_,Heap.get?_push_size _ rfl,rfl,rfl⟩ (hL.push _) (by rw[hsz];omega) λ g1 hit1 sb1=>?_));have hL1:g1.IsList l (vx::its').toArray:=(hL.push _).extBut sb1.extBut hne;obtain⟨oi,hoi,_⟩:=id hit1;obtain⟨ol,hol,_⟩:=id hL1;have tk1:(((vx::its').toArray.toList.drop 0).take 1)=[vx]:=rfl;rw[tk1];rw[if_neg (show ¬ ([vx].length<1) by simp)];refine wpAny_bind (wpAny_holding (PySem.W.kun_collect (s:={ s with heap:=g1 }) (T:="list_iterator") (.inr (.inr (.inl rfl))) (Walks.list (A:=X.A.in1) (I.ok.hd hc) s.heap.objs.size l hne (vx::its').toArray) (λ j w st=>st.1.typeIs) (k:=1) (by rw[hsz];omega) ⟨hit1,hL1⟩ (Heap.lt_size hoi) (Heap.lt_size hol) (λ g2 tk kp=>?_) (by rw[hsz,sizeLine_eq];omega)));have dr:(vx::its').toArray.toList.drop 1=its':=rfl;rw[dr];show wpAny _ _ (if its'.length<2 - 1 - 1 then _ else _) _ _ _;rw[if_neg (by omega)];show wpAny _ _ (newList (its'.take (its'.length - (2 - 1 - 1))) >>= λ d=>pure ([vx]++[d]++its'.drop (its'.length - (2 - 1 - 1)))) _ _ _;rw[show its'.length - (2 - 1 - 1)=its'.length by omega,take_length,List.drop_length];have keep:∀ b o,s.heap.get? b=some o->g2.get? b=some o:=λ b o e=>kp b o (ne_of_lt (Heap.lt_size e)) (sb1.extBut b o (ne_of_lt (Heap.lt_size e)) (Heap.get?_push_of_some _ e));have I1:Inv X pins σ H { s with heap:=g2,toks:=tk }:=I.kept keep;refine wpAny_bind (wpAny_newList ?_ (by rw[sizeLine_eq];omega));refine wpAny_pure ?_;have I2:=Inv.laid (s:={ s with heap:=g2,toks:=tk }) (h':=g2.push { cls:=.type "list",data:=.seq its'.toArray }) (t':=tk) (o:=.lst xs) I1 (λ _ _ w=>Heap.get?_push_of_some _ w) (le_refl _) ⟨by rw[sizeLine_eq];omega,its',0,rr,Heap.get?_push_size _ rfl⟩;exact h pins _ σ _ [x, .ref g2.objs.size] [vx, .ref g2.objs.size] Q I2 (.cons rx (.cons rfl .nil)) (hw _ I1.fresh)
end
end L2
namespace L2
open PySem PySem.Spec PyProof.Rows PySem.StrLaws
noncomputable def dot:Str:="."
noncomputable def inR (a b c:Nat):Bool:=decide (a<=c) && decide (c<=b)
noncomputable def gw (x:Str):Bool:=decide (1<=x.length) && decide (x.length<=8) && x.cps.toList.all (inR 97 122) && !(decide (x="crown") || decide (x="kids"))
noncomputable def gn (x:Str):Bool:=decide (1<=x.length) && decide (x.length<=2) && x.cps.toList.all (inR 48 57) && !decide (x.cps.toList.head? = some 48)
noncomputable def iv (x:Str):Int:=(PySem.intText? x).getD 0
theorem ZhI:(∀ c∈List.range 9,PySem.intText? ⟨#[49+c]⟩=some (iv ⟨#[49+c]⟩)/\1<=iv ⟨#[49+c]⟩)/\∀ c∈List.range 9,∀ d∈List.range 10,PySem.intText? ⟨#[49+c,48+d]⟩=some (iv ⟨#[49+c,48+d]⟩)/\1<=iv ⟨#[49+c,48+d]⟩:=by decide +kernel
theorem iv_gn {x:Str}(h:gn x=true):PySem.intText? x=some (iv x)/\1<=iv x:=by
  unfold gn at h;simp only[and_eq_true,decide_eq_true_eq,Bool.not_eq_true',decide_eq_false_iff_not]at h;obtain⟨⟨⟨h1,h2⟩,h3⟩,h4⟩:=h;obtain⟨⟨l⟩⟩:=x;have h1':1<=l.length:=h1;have h2':l.length<=2:=h2
  match l,h1',h2',h3,h4 with
  |[c],_,_,h3,h4=>
    simp[inR]at h3 h4;have e:c=49+(c - 49):=by omega
    rw[e];exact ZhI.1 (c - 49) (List.mem_range.mpr (by omega))
  |[c,d],_,_,h3,h4=>
    simp[inR]at h3 h4;have e:c=49+(c - 49):=by omega
    have e':d=48+(d - 48):=by omega
    rw[e,e'];exact ZhI.2 (c - 49) (List.mem_range.mpr (by omega)) (d - 48) (List.mem_range.mpr (by omega))
noncomputable def pcs (x:Str):List Str:=Txt.split x dot
noncomputable def wd (x:Str):Str:=(pcs x).headD ""
noncomputable def nms (x:Str):List Str:=(pcs x).tail
theorem Xe (x:Str):pcs x=wd x::nms x:=by
  have h:1<=(pcs x).length:=split_pos x dot;unfold wd nms;cases e:pcs x with
  |nil=>rw[e]at h;simp at h
  |cons a r=>rfl
theorem Zix (x:Str):(nms x).length<=x.length+1:=by
 have h:(pcs x).length<=x.length+2:=split_le x dot;rw[Xe,length_cons]at h;omega
theorem Zhg {x p:Str}(h:p∈pcs x):p.length<=x.length:=by
  unfold pcs Txt.split at h;split at h
  . rw[List.mem_singleton.mp h];exact le_refl _
  . split at h
    . rw[List.mem_singleton.mp h];exact le_refl _
    . unfold Builtin.Str.partsBetween at h;obtain⟨q,_,rfl⟩:=List.mem_map.mp h;exact le_strSub x q.1 q.2
noncomputable def pok (x:Str):Bool:=gw (wd x) && decide ((nms x).length<=5) && (nms x).all gn
noncomputable def pvl (x:Str):List V:=.str (wd x)::(nms x).map λ p=>V.int (iv p)
theorem gw_ok {x:Str}(h:gw x=true):PyData.strOk x=true:=by
 unfold gw at h;simp only[and_eq_true]at h;unfold PyData.strOk;rw[Array.all_eq_true_iff_forall_mem];intro c hc;have z:=List.all_eq_true.mp h.1.2 c (by simpa using hc);simp[inR]at z;simp;omega
noncomputable def up (x:Str):Str:=match Builtin.Str.lastOccurrence x dot 0 x.length with|some i=>Builtin.Str.strSub x 0 i|none=>Str.empty
theorem Zbn:dot=⟨#[46]⟩:=by decide +kernel
theorem at_iff (x:Str)(i:Nat):At x dot x.length i↔x.cps.toList[i]? = some 46:=by
 rw[Zbn];exact subAt_one x 46 i
theorem Zd1 (c a:Nat):((⟨#[c]⟩:Str).cps.toList<(⟨#[a]⟩:Str).cps.toList)↔c<a:=by
 show [c]<[a]↔c<a;have:=StrLaws.lt_cons_cons c a [] [];rw[StrLaws.lt_nil_nil,Bool.and_false,Bool.or_false]at this;simpa using this
theorem ZiH {x:Str}{g:TG}{tb:TS}{D:Ends}{σ:St}{H:Hp}(Pv:Nat->St->Hp->Prop)(h0:Pv 0 σ H)(hs:∀ i c σ H,x.cps.toList[i]? = some c->Pv i σ H->g (.str ⟨#[c]⟩) σ H λ σ2 H2=>tb { D with nx:=Pv (i+1),ct:=Pv (i+1),bk:=D.nx } σ2 H2)(hd:∀ σ H,Pv x.cps.toList.length σ H->D.nx σ H) :
    ∃ W:Nat->Nat->St->Hp->Prop,(∃ m,W 0 m σ H)/\∀ i m σ H,W i m σ H ->
      ((Its x).stop i H/\D.nx σ H)\/((Its x).go i H/\∃ N:St->Hp->Prop,(∀ σ' H',N σ' H'->∃ m',m'<m/\W (i+1) m' σ' H')/\∀ v H',(Its x).yld i H v H'->g v σ H' λ σ2 H2=>tb { D with nx:=N,ct:=N,bk:=D.nx } σ2 H2):=by
  have hl:x.cps.toList.length=x.cps.size:=length_toList;refine⟨λ i m σ H=>m=x.cps.size - i/\i<=x.cps.size/\Pv i σ H,⟨x.cps.size,by simp,zero_le _,h0⟩,?_⟩;rintro i m σ H ⟨rfl,hi,p⟩
  by_cases hlt:i<x.cps.size
  . refine .inr ⟨hlt,Pv (i+1),λ σ' H' p'=>⟨x.cps.size - (i+1),by omega,rfl,hlt,p'⟩,λ v H' y=>?_⟩;obtain⟨rfl,c,hc,rfl⟩:=y;exact hs i c σ _ (by rw[getElem?_toList];exact hc) p
  . have e:i=x.cps.toList.length:=by omega
    subst e;exact .inl ⟨by show x.cps.size<=_;omega,hd σ H p⟩
theorem ZhZ {l:List Nat}{f:Nat->Bool}{i c:Nat}(h:(l.take i).all f=true)(hc:l[i]? = some c)(hf:f c=true):(l.take (i+1)).all f=true:=by
 rw[take_succ,hc,all_append,h];simp[hf]
theorem Zf9 {l:List Nat}{f:Nat->Bool}{i c:Nat}(hc:l[i]? = some c)(hf:f c=false):l.all f=false:=by
  cases e:l.all f with
  |false=>rfl
  |true=>
    have:=List.all_eq_true.mp e c (mem_of_getElem? hc);rw[hf]at this;cases this
end L2
namespace L2
open PySem PySem.Spec PyProof.Rows
section
variable {X:Cx}
noncomputable def Zha:V->List V->Hp->VK->Prop:=λ x xs H Q=>∃ z y,x = .str z/\xs=[.str y]/\Q (.int (Builtin.Str.occurrences z y 0 z.length (z.length+1)).length) H
theorem ZcI:MtR X "str.count" Zha:=by
 intro pins s σ H x xs v us Q I rx rv h;obtain⟨z,y,rfl,rfl,q⟩:=h;obtain⟨t,rfl⟩:=rx;obtain⟨u,rfl,t',rfl⟩:=X9 rv;refine call_meets F.slot_str_count (typeIs_str _ _ _) F.entry_str_count (F.args_str_count_2 _ _) (gives_str_count z y t t').meets ?_;exact⟨.int _,H,I.tok _,⟨_,rfl⟩,q⟩
theorem Zft:∀ {xs:List V} {us:List Value},xs.length=us.length->(∀(j:Nat)(x:V)(u:Value),xs[j]? = some x->us[j]? = some u->Zw x u)->ZF xs us
  |[],[],_,_ => .nil
  |x::xs,u::us,h,k => .cons (k 0 x u rfl rfl) (Zft (Nat.succ.inj h) λ j y w e1 e2=>k (j+1) y w e1 e2)
noncomputable def rListD:List V->Hp->VK->Prop:=λ xs H Q=>∃(d:Addr)(kvs:List (Key×V)),xs=[.ref d]/\Rd H d (.dK kvs)/\∀ l,H l=none->Q (.ref l) (upd H l (.lst (kvs.map λ p=>kV p.1)))
theorem ZcY {X:Cx}(hc:X.calm=true):Xk X (.type "list") rListD:=by
  intro pins s σ H xs us Q I r h;obtain⟨d,kvs,rfl,hd,q⟩:=h;obtain⟨u,rfl,rx⟩:=X9 r;cases rx;obtain⟨z,lo,vs,rel,dd⟩:=Za9 I.hok hd;obtain⟨ep,hat⟩:=dd.dictAt;have hln:kvs.length=vs.length:=rel.length;refine PySem.W.kdl_call (PySem.W.kdl_dict (knd:=ZM X.prog X.w) (kvs:=vs) (ep:=ep) lo) (I.ok.hd hc) hat (by omega) λ h' tk acc c' hk hS hacc=>?_;have hl:acc.toList.length=vs.length:=by rw[length_toList];exact hacc.1
  have hV:ZF (kvs.map λ p=>kV p.1) acc.toList:=by
    refine Zft (by rw[length_map,hln,hl]) λ j x u e1 e2=>?_;obtain⟨k,w,e3,e4⟩:=hacc.2 j u (by rw[<- getElem?_toList];exact e2);obtain⟨y,e5⟩:=ZfP rel e3;rw[getElem?_map,e5]at e1;cases e1;exact relK e4
  refine⟨.ref s.heap.objs.size,_,I.laid (t':=tk) hk (le_refl _) (show ZR X.prog X.w _ h' _ (.lst _) from⟨by rw[length_map];exact z,acc.toList,c',hV,by rw[Array.toArray_toList];exact hS⟩),rfl,q _ (I.hok.fresh (le_refl _))⟩
theorem ZfY (z:Str):Str.empty++z=z:=by
 refine Yp ?_;show(Str.empty.cps++z.cps).toList=z.cps.toList;simp[Str.empty]
noncomputable def tFs (ta tb:TE)(sep:Str):TE:=λ σ H Q=>ta σ H λ x H1=>∃ z:Str,x = .str z/\z.length<=sizeLine/\(z++sep).length<=sizeLine/\tb σ H1 λ y H2=>∃ n:Int,y = .int n/\n.natAbs.log2<1920/\(z++sep++toString n:Str).length<=sizeLine/\Q (.str (z++sep++toString n)) H2
theorem pe_fs {X:Cx}{a b:Expr}{ta tb:TE}{sep:Str}{j}{p1 p2 p3 p4:Pos}(ha:PE X a ta)(hb:PE X b tb):PE X (.JoinedStr [.FormattedValue a (-1) none p1, .Constant (.str sep) j p2, .FormattedValue b (-1) none p3] p4) (tFs ta tb sep):=by
 refine⟨?_⟩;intro pins s σ H Q I h;refine JoinedStr_many (joinParts_cons (FormattedValue_plain (thn (ha pins s σ H _ I h) λ u s1 zz9=>?_)));obtain⟨x,H1,I1,rx,z,ex,h1,h2,q1⟩:=zz9;subst ex;obtain⟨t,rfl⟩:=rx;refine formatField_str (λ t' tk=>?_) h1;refine⟨by rw[ZfY];exact h1,?_⟩;rw[ZfY];refine joinParts_cons (Calls.Constant_str ⟨h2,?_⟩);have I2:Inv X pins σ H1 { s1 with toks:=tk+1 }:=I1.tok _;refine joinParts_cons (FormattedValue_plain (thn (hb pins _ σ H1 _ I2 q1) λ u s2 zz9=>?_));obtain⟨y,H2,I3,ry,n,ey,h3,h4,q2⟩:=zz9;subst ey;obtain⟨t2,rfl⟩:=ry;refine formatField_int_small h3 ⟨h4,joinParts_nil ?_ h4⟩;exact⟨.str _,H2,I3.tok _,⟨_,rfl⟩,q2⟩
structure Dm (P:Program)(w:World)(K:Frag)(mg:Str->Option Value)(base:Heap)(CX:CXT)(C:Addr)(k:Nat)(m:Str)(ps:List Str)(sp:Sp):Prop where
  cls:Cls K C
  ex:∃ f fd,FnOk P w K mg base CX k f fd ps sp/\Meth K C m f/\Xt K fd ps []
noncomputable def tMt (C:Addr)(m:Str)(sp:Sp)(E:XK)(ta:TE)(t:TA):TE:=λ σ H Q=>ta σ H λ x H1=>∃ a dx fs,x = .ref a/\H1 a=some (.ins C dx fs)/\fs.lookup m=none/\t σ H1 λ vs H2=>sp (x::vs) H2 Q E
theorem tMt_eq {C:Addr}{m:Str}{sp:Sp}{E:XK}{ta:TE}{t:TA}:ZgT C m sp [] E ta t=tMt C m sp E ta t:=by
 funext σ H Q;unfold ZgT tMt;simp only[append_nil]
theorem Yc {X:Cx}{CX:CXT}{k:Nat}{C:Addr}{m:Str}{ps:List Str}{sp:Sp}{E:XK}{o e:Expr}{es:List Expr}{apos pos:Pos}{ta:TE}{t:TA}{pl:Sem Bool}(hx:YF CX X E)(D:Dm X.prog X.w X.K X.mg X.base CX C k m ps sp)(hr:Room k X.A)(he:PE X o ta)(ha:PA X (e::es) t)(hst:starEach (e::es) X.env=(false,eval e X.env)::starEach es X.env:=by rfl)(hpl:(backTo pos (starEach es X.env)).any (·.1)=false:=by rfl)(ht:eval (.Call (.Attribute o m apos) (e::es) [] pos) X.env=(do
      let ov <- eval o X.env
      standAt apos.atName
      let (f,first) <- holding [ov] (getMethod ov m pl)
      callWith pos f first (backTo pos (starEach (e::es) X.env)) (backToKw pos (keywordEach [] X.env))):=by rfl) :
    PE X (.Call (.Attribute o m apos) (e::es) [] pos) (tMt C m sp E ta t):=by
  obtain⟨f,fd,F,hm,hb⟩:=D.ex;rw[<- tMt_eq];exact Ziq (pl:=pl) he D.cls hm F hr hb .nil hx ha hst hpl ht
end
end L2
namespace L2
open PySem PySem.Spec
noncomputable def yrs (bs:List (Str×Int)):List (Key×V):=bs.map λ p=>((Sum.inr p.1:Key),V.int p.2)
noncomputable def yr (bs:List (Str×Int))(n:Str):Option Int:=(bs.find? λ p=>decide (p.1=n)).map (·.2)
noncomputable def has (bs:List (Str×Int))(n:Str):Bool:=(yr bs n).isSome
noncomputable def kid (n:Str)(i:Nat):Str:=n++dot++(toString ((i:Int)+1):Str)
noncomputable def YL (n:Str)(c:Nat):List V:=(List.range c).map λ i=>V.str (kid n i)
noncomputable def brs (ws:List (Str×Addr×Nat)):List (Key×V):=ws.map λ p=>((Sum.inr p.1:Key),V.ref p.2.1)
structure Book (C:Addr)(H:Hp)(b d1 d2 d3:Addr)(bs ds:List (Str×Int))(ws:List (Str×Addr×Nat)):Prop where
  obj:∃ dx,H b=some (.ins C dx [("births", .ref d1),("deaths", .ref d2),("broods", .ref d3)])
  h1:H d1=some (.dK (yrs bs))
  h2:H d2=some (.dK (yrs ds))
  h3:H d3=some (.dK (brs ws))
  n12:d1≠d2
  n13:d1≠d3
  n23:d2≠d3
  kids:∀ p∈ws,H p.2.1=some (.lst (YL p.1 p.2.2))
  nod:(ws.map λ p=>p.2.1).Nodup
theorem Zb2 (bs:List (Str×Int))(n:Str):Z4 (yrs bs) (Sum.inr n:Key)=(yr bs n).map V.int:=by
  induction bs with
  |nil=>rfl
  |cons p r ih=>
    by_cases h:p.1=n
    . rw[show yrs (p::r)=((Sum.inr p.1:Key),V.int p.2)::yrs r from rfl,XL (by rw[h])];unfold yr;simp[find?_cons,h]
    . rw[show yrs (p::r)=((Sum.inr p.1:Key),V.int p.2)::yrs r from rfl,XM (by simpa using h),ih];unfold yr;simp[find?_cons,h]
theorem ZZ (bs:List (Str×Int))(n:Str):(Z4 (yrs bs) (Sum.inr n:Key)).isSome=has bs n:=by
 rw[Zb2];unfold has;cases yr bs n <;> rfl
theorem Book.births {C:Addr}{H:Hp}{b d1 d2 d3:Addr}{bs ds:List (Str×Int)}{ws:List (Str×Addr×Nat)}(B:Book C H b d1 d2 d3 bs ds ws)(n:Str):Z3 H d1 (.str n) (Z4 (yrs bs) (Sum.inr n:Key)):=Z3.k (k:=Sum.inr n) B.h1
theorem Book.deaths {C:Addr}{H:Hp}{b d1 d2 d3:Addr}{bs ds:List (Str×Int)}{ws:List (Str×Addr×Nat)}(B:Book C H b d1 d2 d3 bs ds ws)(n:Str):Z3 H d2 (.str n) (Z4 (yrs ds) (Sum.inr n:Key)):=Z3.k (k:=Sum.inr n) B.h2
noncomputable def ZS (xs:List Addr)(H H':Hp):Prop:=(∀ a o,a∉xs->H a=some o->H' a=some o)/\∀ a,H' a=none->H a=none
theorem ZA {H:Hp}{a b:Addr}{o u:HO}(h:H a=some o)(h':H b=some u)(n:o≠u):a≠b:=λ e=>by
 subst e;rw[h]at h';exact n (Option.some.inj h')
theorem Book.bne {C:Addr}{H:Hp}{b d1 d2 d3:Addr}{bs ds:List (Str×Int)}{ws:List (Str×Addr×Nat)}(B:Book C H b d1 d2 d3 bs ds ws):b≠d1/\b≠d2/\b≠d3:=by
 obtain⟨dx,hb⟩:=B.obj;exact⟨ZA hb B.h1 (λ z=>by cases z),ZA hb B.h2 (λ z=>by cases z),ZA hb B.h3 (λ z=>by cases z)⟩
theorem Book.entered {C:Addr}{H:Hp}{b d1 d2 d3 l:Addr}{bs ds:List (Str×Int)}{ws:List (Str×Addr×Nat)}{n:Str}{y:Int}{o1 o3:HO}(B:Book C H b d1 d2 d3 bs ds ws)(hl:upd H d1 o1 l=none)(e1:o1 = .dK (yrs (bs++[(n,y)])))(e3:o3 = .dK (brs (ws++[(n,l,0)]))) :
    Book C (upd (upd (upd H d1 o1) l (.lst [])) d3 o3) b d1 d2 d3 (bs++[(n,y)]) ds (ws++[(n,l,0)])/\ZS [d1,d3] H (upd (upd (upd H d1 o1) l (.lst [])) d3 o3):=by
  obtain⟨nb1,nb2,nb3⟩:=B.bne;have l1:d1≠l:=λ e=>by rw[<- e,Zb]at hl;cases hl
  have hl0:H l=none:=by rw[<- hl,Zc (Ne.symm l1)]
  have l3:d3≠l:=λ e=>by rw[<- e,B.h3]at hl0;cases hl0
  have kp:∀ a o,a≠d1->a≠d3->H a=some o->upd (upd (upd H d1 o1) l (.lst [])) d3 o3 a=some o:=λ a o n1 n3 e=>by
    have nl:a≠l:=λ z=>by rw[z,hl0]at e;cases e
    rw[Zc n3,Zc nl,Zc n1];exact e
  obtain⟨dx,hb⟩:=B.obj;refine⟨⟨⟨dx,kp _ _ nb1 nb3 hb⟩,?_,kp _ _ (Ne.symm B.n12) B.n23 B.h2,?_,B.n12,B.n13,B.n23,?_,?_⟩,λ a o hn e=>kp a o (λ z=>hn (by simp[z])) (λ z=>hn (by simp[z])) e,λ a e=>?_⟩
  . rw[Zc B.n13,Zc l1,Zb,e1]
  . rw[Zb,e3]
  . intro p hp;rcases List.mem_append.mp hp with hp|hp
    . have hk:=B.kids p hp;exact kp _ _ (ZA hk B.h1 (λ z=>by cases z)) (ZA hk B.h3 (λ z=>by cases z)) hk
    . rw[List.mem_singleton.mp hp];show upd (upd (upd H d1 o1) l (.lst [])) d3 o3 l=some (.lst (YL n 0));rw[Zc (Ne.symm l3),Zb];rfl
  . rw[map_append,nodup_append];refine⟨B.nod,by simp,λ a ha c hc e=>?_⟩;rw[map_cons,map_nil,List.mem_singleton]at hc;obtain⟨p,hp,rfl⟩:=List.mem_map.mp ha;have hk:=B.kids p hp;rw[show p.2.1=l from e.trans hc]at hk;rw[hl0]at hk;cases hk
  . by_cases h3:a=d3
    . rw[h3,Zb]at e;cases e
    . rw[Zc h3]at e
      by_cases hL:a=l
      . rw[hL,Zb]at e;cases e
      . rw[Zc hL]at e
        by_cases h1:a=d1
        . rw[h1,Zb]at e;cases e
        . rw[Zc h1]at e;exact e
theorem Book.died {C:Addr}{H:Hp}{b d1 d2 d3:Addr}{bs ds ds':List (Str×Int)}{ws:List (Str×Addr×Nat)}(B:Book C H b d1 d2 d3 bs ds ws):Book C (upd H d2 (.dK (yrs ds'))) b d1 d2 d3 bs ds' ws/\ZS [d2] H (upd H d2 (.dK (yrs ds'))):=by
  obtain⟨nb1,nb2,nb3⟩:=B.bne;obtain⟨dx,hb⟩:=B.obj;refine⟨⟨⟨dx,by rw[Zc nb2];exact hb⟩,by rw[Zc B.n12];exact B.h1,Zb,by rw[Zc (Ne.symm B.n23)];exact B.h3,B.n12,B.n13,B.n23,λ p hp=>?_,B.nod⟩,λ a o hn e=>?_,λ a e=>?_⟩
  . have hk:=B.kids p hp;rw[Zc (ZA hk B.h2 (λ z=>by cases z))];exact hk
  . rw[Zc (λ z=>hn (by simp[z]))];exact e
  . by_cases h2:a=d2
    . rw[h2,Zb]at e;cases e
    . rw[Zc h2]at e;exact e
theorem J5 {bs:List (Str×Int)}{n:Str}(h:has bs n=false):Z4 (yrs bs) (Sum.inr n:Key)=none:=by
  have z:=ZZ bs n;rw[h]at z;cases e:Z4 (yrs bs) (Sum.inr n:Key) with
  |none=>rfl
  |some v=>rw[e]at z;cases z
theorem J2 (bs:List (Str×Int))(n:Str)(y:Int):yrs bs++[((Sum.inr n:Key),V.int y)]=yrs (bs++[(n,y)]):=by unfold yrs;rw[map_append];rfl
noncomputable def bro (ws:List (Str×Addr×Nat))(n:Str):Option (Addr×Nat):=(ws.find? λ p=>decide (p.1=n)).map (·.2)
theorem Zb3 (ws:List (Str×Addr×Nat))(n:Str):Z4 (brs ws) (Sum.inr n:Key)=(bro ws n).map λ p=>V.ref p.1:=by
  induction ws with
  |nil=>rfl
  |cons p r ih=>
    by_cases h:p.1=n
    . rw[show brs (p::r)=((Sum.inr p.1:Key),V.ref p.2.1)::brs r from rfl,XL (by rw[h])];unfold bro;simp[find?_cons,h]
    . rw[show brs (p::r)=((Sum.inr p.1:Key),V.ref p.2.1)::brs r from rfl,XM (by simpa using h),ih];unfold bro;simp[find?_cons,h]
theorem Zb1 {ws:List (Str×Addr×Nat)}{n:Str}{a:Addr}{c:Nat}(h:bro ws n=some (a,c)):(n,a,c)∈ws:=by
 unfold bro at h;obtain⟨p,hp,e⟩:=Option.map_eq_some_iff.mp h;have h1:=List.mem_of_find?_eq_some hp;have h2:=List.find?_some hp;rw[<- of_decide_eq_true h2,<- e];exact h1
noncomputable def bump (ws:List (Str×Addr×Nat))(n:Str):List (Str×Addr×Nat):=ws.map λ p=>if p.1=n then (p.1,p.2.1,p.2.2+1) else p
theorem Zdh (n:Str)(c:Nat):YL n c++[V.str (kid n c)]=YL n (c+1):=by
 unfold YL;rw[List.range_succ,map_append];rfl
theorem ZeR (ws:List (Str×Addr×Nat))(n:Str):brs (bump ws n)=brs ws:=by
 unfold brs bump;rw[map_map];refine map_congr_left λ p _=>?_;show((Sum.inr (if p.1=n then (p.1,p.2.1,p.2.2+1) else p).1:Key),V.ref (if p.1=n then (p.1,p.2.1,p.2.2+1) else p).2.1)=_;split <;> rfl
theorem ZeT (ws:List (Str×Addr×Nat))(n:Str):(bump ws n).map (λ p=>p.2.1)=ws.map λ p=>p.2.1:=by
 unfold bump;rw[map_map];refine map_congr_left λ p _=>?_;show(if p.1=n then (p.1,p.2.1,p.2.2+1) else p).2.1=_;split <;> rfl
theorem Zdk {ws:List (Str×Addr×Nat)}{α:Type}{f:Str×Addr×Nat->α}(h:(ws.map f).Nodup){p q:Str×Addr×Nat}(hp:p∈ws)(hq:q∈ws)(e:f p=f q):p=q:=by
  induction ws with
  |nil=>cases hp
  |cons x r ih=>
    rw[map_cons,List.nodup_cons]at h;rcases List.mem_cons.mp hp with rfl|hp' <;> rcases List.mem_cons.mp hq with rfl|hq'
    . rfl
    . exact absurd (List.mem_map.mpr ⟨q,hq',e.symm⟩) h.1
    . exact absurd (List.mem_map.mpr ⟨p,hp',e⟩) h.1
    . exact ih h.2 hp' hq'
theorem Book.grown {C:Addr}{H:Hp}{b d1 d2 d3 a:Addr}{bs ds:List (Str×Int)}{ws:List (Str×Addr×Nat)}{n:Str}{c:Nat}(B:Book C H b d1 d2 d3 bs ds ws)(hk:(ws.map λ p=>p.1).Nodup)(hw:(n,a,c)∈ws) :
    Book C (upd H a (.lst (YL n (c+1)))) b d1 d2 d3 bs ds (bump ws n):=by
  obtain⟨dx,hb⟩:=B.obj;have ha:H a=some (.lst (YL n c)):=B.kids _ hw;refine⟨⟨dx,by rw[Zc (ZA hb ha (λ z=>by cases z))];exact hb⟩,by rw[Zc (ZA B.h1 ha (λ z=>by cases z))];exact B.h1,by rw[Zc (ZA B.h2 ha (λ z=>by cases z))];exact B.h2,by rw[Zc (ZA B.h3 ha (λ z=>by cases z)),ZeR];exact B.h3,B.n12,B.n13,B.n23,λ p hp=>?_,by rw[ZeT];exact B.nod⟩;obtain⟨q,hq,rfl⟩:=List.mem_map.mp hp
  by_cases e:q.1=n
  . have z:q=(n,a,c):=Zdk hk hq hw e;subst z;rw[if_pos rfl];exact Zb
  . rw[if_neg e];have na:q.2.1≠a:=λ z=>e (by rw[Zdk B.nod hq hw z]);rw[Zc na];exact B.kids q hq
end L2
namespace L2
open PySem PySem.Spec
theorem Inv.thaw {X:Cx}{pins:List (Addr×Obj)}{σ:St}{H:Hp}{s:Shared}{d:Addr}{o:Obj}{u:HO}(I:Inv X pins σ H s)(h:H d=some (.frz o u))(hn:∀ o' u',X.H₀ d≠some (.frz o' u')):Inv X pins σ (upd H d u) s:=by
  have nn:∀ b,H b=none->b≠d:=λ b e z=>by rw[z,h]at e;cases e
  have kp:∀ b,b≠d->upd H d u b=H b:=λ b z=>Zc z;have nt:∀ b xs,H b=some (.tup xs)->b≠d:=λ b xs e z=>by rw[z,h]at e;cases e
  have no:∀ b a,H b=some (.own a)->b≠d:=λ b a e z=>by rw[z,h]at e;cases e
  refine⟨I.ok,I.os,I.bare,⟨I.base.keep,I.base.slot,λ b ob q n hx=>?_,I.base.there,λ b xs q=>?_,λ b ob v q=>?_,λ b ps q=>?_⟩,I.loc,I.cell,?_,λ x c e=>?_,λ p hp=>?_,λ a ob e=>?_,I.len⟩
  . have z:=I.base.free b ob q n hx;rw[kp b (nn b z)];exact z
  . have z:=I.base.tups b xs q;rw[kp b (nt b xs z)];exact z
  . have z:=I.base.frzs b ob v q;rw[kp b (λ e=>hn ob v (by rw[<- e];exact q))];exact z
  . obtain⟨more,z⟩:=I.base.tbls b ps q;exact⟨more,by rw[kp b (λ e=>by rw[e,h]at z;cases z)];exact z⟩
  . rw[kp _ (nn _ I.free)];exact I.free
  . have z:=I.freeC x c e;rw[kp _ (nn _ z)];exact z
  . obtain⟨z1,z2,z3⟩:=I.pin p hp;exact⟨z1,by rw[kp _ (nn _ z2)];exact z2,z3⟩
  . by_cases ha:a=d
    . subst ha;rw[Zb]at e;cases e;obtain⟨_,q⟩:=(show ZR X.prog X.w H s.heap a (.frz o u) from I.hok a _ h);exact q.stay (λ _ _ _ q=>q) (λ b e=>by rw[kp b (no b _ e)];exact e) λ b xs e=>by rw[kp b (nt b xs e)];exact e
    . rw[kp a ha]at e;exact(I.hok a ob e).stay (λ _ _ _ q=>q) (λ b e=>by rw[kp b (no b _ e)];exact e) λ b xs e=>by rw[kp b (nt b xs e)];exact e
noncomputable def tThaw (d:Addr)(kvs:List (Key×V))(t:TE):TE:=λ σ H Q=>H d=some (.dK kvs)/\t σ H λ v H2=>∃ o,H2 d=some (.frz o (.dK kvs))/\Q v (upd H2 d (.dK kvs))
theorem Zip {X:Cx}{e:Expr}{t:TE}{d:Addr}{kvs:List (Key×V)}(he:PE X e t):PE X e (tThaw d kvs t):=by
  refine⟨?_⟩;rintro pins s σ H Q I ⟨hd,h⟩;have hn:∀ o' u',X.H₀ d≠some (.frz o' u'):=λ o' u' z=>by
    have q:=I.base.frzs d o' u' z;rw[hd]at q;cases q
  exact thn (he pins s σ H _ I h) λ u s' ⟨v,H2,I2,r,o,h2,q⟩=>⟨v,_,I2.thaw h2 hn,r,q⟩
end L2
namespace L2
open PySem PySem.Spec
structure Mdl (H:Hp)(m c e1 e2 e3:Addr)(y:Int)(bs ds cs:List (Str×Int)):Prop where
  tup:H m=some (.tup [.ref c, .ref e1, .ref e2, .ref e3])
  clk:H c=some (.lst [.int y])
  h1:H e1=some (.dK (yrs bs))
  h2:H e2=some (.dK (yrs ds))
  h3:H e3=some (.dK (yrs cs))
  n12:e1≠e2
  n13:e1≠e3
  n23:e2≠e3
theorem Mdl.keep {H H':Hp}{m c e1 e2 e3:Addr}{y:Int}{bs ds cs:List (Str×Int)}(M:Mdl H m c e1 e2 e3 y bs ds cs)(s:Zv H H'):Mdl H' m c e1 e2 e3 y bs ds cs:=
 ⟨s _ _ M.tup,s _ _ M.clk,s _ _ M.h1,s _ _ M.h2,s _ _ M.h3,M.n12,M.n13,M.n23⟩
end L2
namespace L2
open PySem PySem.Spec PyProof.Rows PySem.StrLaws
theorem ZhV {a b s t:List Nat}(h:a++46::s=b++46::t)(hs:46∉s)(ht:46∉t):a=b/\s=t:=by
  rcases List.append_eq_append_iff.mp h with ⟨c,e1,e2⟩|⟨c,e1,e2⟩
  . cases c with
    |nil=>simp at e1 e2;exact⟨e1.symm,e2⟩
    |cons x r=>
      simp at e2;exact absurd (show 46∈s by rw[e2.2];simp) hs
  . cases c with
    |nil=>simp at e1 e2;exact⟨e1,e2.symm⟩
    |cons x r=>
      simp at e2;exact absurd (show 46∈t by rw[e2.2];simp) ht
theorem Zdl:dot.cps.toList=[46]:=by rw[Zbn]
theorem Yh (a b:Str):(a++b).cps.toList=a.cps.toList++b.cps.toList:=cps_toList_append a b
theorem XR (a b:Str):(a++b).length=a.length+b.length:=by
 show(a.cps++b.cps).size=_;rw[Array.size_append];rfl
theorem Zeb {a b s t:Str}(h:a++dot++s=b++dot++t)(hs:46∉s.cps.toList)(ht:46∉t.cps.toList):a=b/\s=t:=by
 have z:=congrArg (λ x:Str=>x.cps.toList) h;simp only[Yh,Zdl]at z;rw[append_assoc,append_assoc]at z;obtain⟨e1,e2⟩:=ZhV z hs ht;exact⟨Yp e1,Yp e2⟩
noncomputable abbrev ts (i:Nat):Str:=(toString ((i:Nat):Int):Str)
theorem J3 (i:Int):46∉(toString i:Str).cps.toList:=int_text_free' 46 ⟨by decide,by decide⟩ i
theorem ts_inj {i j:Int}(h0:0<=i)(h1:i<10 ^ 10)(g0:0<=j)(g1:j<10 ^ 10)(h:(toString i:Str)=(toString j:Str)):i=j:=by
 have a:=PySem.W.KIN.num_reads h0 h1;have b:=PySem.W.KIN.num_reads g0 g1;rw[show PySem.Str.ofString (toString i)=PySem.Str.ofString (toString j) from h,b]at a;exact(Option.some.inj a).symm
theorem Zd3 {n m:Str}{i j:Nat}(hi:i<10 ^ 9)(hj:j<10 ^ 9)(h:kid n i=kid m j):n=m/\i=j:=by
 obtain⟨e1,e2⟩:=Zeb h (J3 _) (J3 _);exact⟨e1,by have:=ts_inj (by omega) (by omega) (by omega) (by omega) e2;omega⟩
theorem ZhC {n m:Str}{i j:Nat}(h:kid n i=kid m j):n=m:=(Zeb h (J3 _) (J3 _)).1
theorem Y4 (s:Str):∀(l:List Str)(_:l≠[]),Str.join dot (l++[s])=Str.join dot l++dot++s
  |[a],_=>rfl
  | a::b::r,_=>by
    show a++dot++Str.join dot ((b::r)++[s])=(a++dot++Str.join dot (b::r))++dot++s;rw[Y4 s (b::r) (by simp)];refine Yp ?_;simp only[Yh,append_assoc]
theorem ZcN:∀(l m:List Str),l≠[]->m≠[]->(∀ p∈l,46∉p.cps.toList)->(∀ p∈m,46∉p.cps.toList)->Str.join dot l=Str.join dot m->l=m:=by
  have key:∀(n:Nat)(l m:List Str),l.length=n->l≠[]->m≠[]->(∀ p∈l,46∉p.cps.toList)->(∀ p∈m,46∉p.cps.toList)->Str.join dot l=Str.join dot m->l=m:=by
    intro n
    induction n with
    |zero=>intro l m h hl;exact absurd (List.length_eq_zero_iff.mp h) hl
    |succ n ih=>
      intro l m h hl hm fl fm e;rcases eq_nil_or_concat l with rfl|⟨l',a,rfl⟩
      . exact absurd rfl hl
      rcases eq_nil_or_concat m with rfl|⟨m',b,rfl⟩
      . exact absurd rfl hm
      simp only[List.concat_eq_append]at h hl hm fl fm e ⊢;have noDot:∀ x:Str,46∉x.cps.toList->∀(k:List Str)(y:Str),k≠[]->x≠Str.join dot (k++[y]):=λ x hx k y hk z=>by
        apply hx;rw[z,Y4 y k hk,Yh,Yh,Zdl];simp
      by_cases h1:l'=[]
      . subst h1
        by_cases h2:m'=[]
        . subst h2;have:a=b:=e;rw[this]
        . exact absurd e (noDot a (fl a (by simp)) m' b h2)
      . by_cases h2:m'=[]
        . subst h2;exact absurd e.symm (noDot b (fm b (by simp)) l' a h1)
        . rw[Y4 a l' h1,Y4 b m' h2]at e;obtain⟨e1,e2⟩:=Zeb e (fl a (by simp)) (fm b (by simp));rw[e2,ih l' m' (by simp at h;omega) h1 h2 (λ p hp=>fl p (by simp[hp])) (λ p hp=>fm p (by simp[hp])) e1]
  exact λ l m=>key l.length l m rfl
theorem XU {x p:Str}(h:p∈pcs x):46∉p.cps.toList:=split_free x 46 p (by have z:p∈Txt.split x dot:=h;rw[Zbn]at z;exact z)
theorem Ye (x:Str):Str.join dot (pcs x)=x:=join_split x dot
theorem ZaC (x:Str):pcs x≠[]:=by rw[Xe];simp
theorem ZdM (n:Str)(i:Nat):pcs (kid n i)=pcs n++[(toString ((i:Int)+1):Str)]:=by
  refine ZcN _ _ (ZaC _) (by simp) (λ p hp=>XU hp) (λ p hp=>?_) ?_
  . rcases List.mem_append.mp hp with h|h
    . exact XU h
    . rw[List.mem_singleton.mp h];exact J3 _
  . rw[Ye,Y4 _ _ (ZaC n),Ye];rfl
theorem ZfG {x:Str}(h:46∉x.cps.toList):pcs x=[x]:=by
  refine ZcN _ _ (ZaC _) (by simp) (λ p hp=>XU hp) (λ p hp=>?_) ?_
  . rw[List.mem_singleton.mp hp];exact h
  . rw[Ye];rfl
theorem ZbZ {x:Str}(h:gw x=true):46∉x.cps.toList:=λ hm=>by
 unfold gw at h;simp only[and_eq_true]at h;have z:=List.all_eq_true.mp h.1.2 46 hm;revert z
 decide
theorem Zfn {x:Str}(h:gw x=true):1<=x.length/\x.length<=8:=by
 unfold gw at h;simp only[and_eq_true,decide_eq_true_eq]at h;exact⟨h.1.1.1,h.1.1.2⟩
theorem ZfQ (n:Str)(i:Nat):46∈(kid n i).cps.toList:=by
 unfold kid;rw[Yh,Yh,Zdl];simp
theorem Zfo {x n:Str}{i:Nat}(h:gw x=true):x≠kid n i:=λ e=>ZbZ h (e▸ZfQ n i)
theorem wd_kid (n:Str)(i:Nat):wd (kid n i)=wd n:=by
  unfold wd;rw[ZdM];cases e:pcs n with
  |nil=>exact absurd e (ZaC n)
  |cons a r=>rfl
theorem ZfK (n:Str)(i:Nat):nms (kid n i)=nms n++[(toString ((i:Int)+1):Str)]:=by
  unfold nms;rw[ZdM];cases e:pcs n with
  |nil=>exact absurd e (ZaC n)
  |cons a r=>rfl
theorem wd_gw {x:Str}(h:gw x=true):wd x=x:=by unfold wd;rw[ZfG (ZbZ h)];rfl
theorem Zho {x:Str}(h:gw x=true):nms x=[]:=by unfold nms;rw[ZfG (ZbZ h)];rfl
theorem pok_gw {x:Str}(h:gw x=true):pok x=true:=by
 unfold pok;rw[wd_gw h,Zho h,h];rfl
theorem gn_tab:∀ k∈List.range 99,gn (ts (k+1))=true/\(ts (k+1)).length<=2:=by decide +kernel
theorem gn_ts {i:Nat}(h:i<99):gn (toString ((i:Int)+1):Str)=true/\(toString ((i:Int)+1):Str).length<=2:=gn_tab i (List.mem_range.mpr h)
noncomputable def ZN (x:Str):Nat:=(Builtin.Str.occurrences x dot 0 x.length (x.length+1)).length
theorem ZhP (x:Str):(ZN x:Int)=cnt 46 x.cps.toList:=by
 have h:=count_is x 46;unfold ZN;rw[Zbn];exact h
theorem Y2 (x:Str):ZN x=(nms x).length:=by
 have h:=cnt_join dot 46 (by rw[Zdl];rfl) (pcs x) (λ t ht=>XU ht);rw[Ye,<- ZhP,Xe]at h;simp at h;omega
theorem YN (n:Str)(i:Nat):ZN (kid n i)=ZN n+1:=by rw[Y2,Y2,ZfK];simp
theorem ZiL {x:Str}(h:gw x=true):ZN x=0:=by rw[Y2,Zho h];rfl
theorem Zim {n:Str}{i:Nat}(h:pok n=true)(hd:ZN n<5)(hi:i<99):pok (kid n i)=true:=by
 unfold pok at h ⊢;simp only[and_eq_true,decide_eq_true_eq]at h ⊢;rw[wd_kid,ZfK];rw[Y2]at hd;refine⟨⟨h.1.1,by simp;omega⟩,?_⟩;rw[all_append,h.2];have z:=(gn_ts hi).1;simp only[List.all_cons,List.all_nil,Bool.and_true,Bool.true_and];exact z
theorem ZhG (B:Nat)(n:Nat):∀(l:List Str),l.length=n->l≠[]->(∀ p∈l.tail,p.length<=B)->(Str.join dot l).length+B+1<=(l.headD Str.empty).length+l.length * (B+1):=by
  induction n with
  |zero=>intro l h hl;exact absurd (List.length_eq_zero_iff.mp h) hl
  |succ n ih=>
    intro l hn hl hB;rcases eq_nil_or_concat l with rfl|⟨l,s,rfl⟩
    . exact absurd rfl hl
    simp only[List.concat_eq_append]at hn hl hB ⊢
    by_cases h:l=[]
    . subst h;show s.length+B+1<=s.length+1 * (B+1);omega
    . have z:=ih l (by simp at hn;omega) h (λ p hp=>hB p (by cases l with|nil=>exact absurd rfl h|cons a r=>simp at hp ⊢;exact .inl hp));have zs:s.length<=B:=hB s (by cases l with|nil=>exact absurd rfl h|cons a r=>simp);rw[Y4 s l h,XR,XR];have hd:(l++[s]).headD Str.empty=l.headD Str.empty:=by cases l with|nil=>exact absurd rfl h|cons a r=>rfl
      have d1:dot.length=1:=by rw[Zbn];rfl
      rw[hd,d1,length_append,length_singleton,Nat.add_mul];omega
theorem X2 {x:Str}(h:pok x=true):x.length<=23:=by
  unfold pok at h;simp only[and_eq_true,decide_eq_true_eq]at h;have hl:=ZhG 2 _ (pcs x) rfl (ZaC x) (λ p hp=>by
    have z:=List.all_eq_true.mp h.2 p hp;unfold gn at z;simp only[and_eq_true,decide_eq_true_eq]at z;exact z.1.1.2)
  rw[Ye]at hl;have hw:=(Zfn h.1.1).2;have e:(pcs x).headD Str.empty=wd x:=by rw[Xe];rfl
  have e2:(pcs x).length=(nms x).length+1:=by rw[Xe];simp
  rw[e,e2]at hl;omega
end L2
namespace L2
open PySem PySem.Spec PyProof.Rows
theorem yr_app (bs:List (Str×Int))(m:Str)(y:Int)(n:Str):yr (bs++[(m,y)]) n=(yr bs n).or (if m=n then some y else none):=by
  unfold yr;rw[List.find?_append];cases e:bs.find? (λ p=>decide (p.1=n)) with
  |some p=>rfl
  |none=>
    by_cases h:m=n
    . simp[h,find?_cons]
    . simp[h,find?_cons]
theorem ZK (bs:List (Str×Int))(m:Str)(y:Int)(n:Str):has (bs++[(m,y)]) n=(has bs n || decide (m=n)):=by
  unfold has;rw[yr_app];cases yr bs n with
  |some v=>rfl
  |none=>by_cases h:m=n <;> simp[h]
theorem Z2 (bs:List (Str×Int))(n:Str):has bs n=true↔n∈bs.map (·.1):=by
  unfold has yr;rw[isSome_map,List.find?_isSome,mem_map];constructor
  . rintro⟨p,hp,e⟩;exact⟨p,hp,of_decide_eq_true e⟩
  . rintro⟨p,hp,e⟩;exact⟨p,hp,decide_eq_true e⟩
theorem Zd8 (bs:List (Str×Int))(n:Str):has bs n=false↔n∉bs.map (·.1):=by
 rw[<- Z2];cases has bs n <;> simp
theorem ZiF (n:Str):has [] n=false:=rfl
noncomputable def nk (bs:List (Str×Int))(n:Str):Nat:=(List.range 1000).findIdx λ i => !has bs (kid n i)
theorem Zhp {bs:List (Str×Int)}{n:Str}{k:Nat}(hk:k<1000)(h1:∀ i,i<k->has bs (kid n i)=true)(h2:has bs (kid n k)=false):nk bs n=k:=by
  unfold nk;refine(List.findIdx_eq (by rw[length_range];exact hk)).mpr ⟨?_,λ j hj=>?_⟩
  . rw[List.getElem_range,h2];rfl
  . rw[List.getElem_range,h1 j hj];rfl
theorem ZeC {bs bs':List (Str×Int)}{n:Str}(h:∀ i,has bs (kid n i)=has bs' (kid n i)):nk bs n=nk bs' n:=by
 unfold nk;congr 1;funext i;rw[h i]
structure Wf (bs ds:List (Str×Int)):Prop where
  nod:(bs.map (·.1)).Nodup
  sub:∀ n,has ds n=true->has bs n=true
  wrt:∀ n,has bs n=true->pok n=true
  par:∀ n i,has bs (kid n i)=true->has bs n=true
  cnt:∀ n i,i<1000->(has bs (kid n i)=true↔i<nk bs n)
  lim:bs.length<1000
  few:∀ n,nk bs n<=bs.length
theorem Wf.nil:Wf [] [] where
 nod:=by simp
 sub:=λ n h=>by cases h
 wrt:=λ n h=>by cases h
 par:=λ n i h=>by cases h
 cnt:=λ n i _=>by rw[Zhp (k:=0) (by decide) (λ i h=>by omega) rfl];simp[ZiF]
 lim:=by decide
 few:=λ n=>by rw[Zhp (k:=0) (by decide) (λ i h=>by omega) rfl];exact zero_le _
theorem Wf.no_kid {bs ds:List (Str×Int)}(W:Wf bs ds)(n:Str):has bs (kid n (nk bs n))=false:=by
  cases e:has bs (kid n (nk bs n)) with
  |false=>rfl
  |true=>exact absurd ((W.cnt n _ (by have:=W.few n;have:=W.lim;omega)).mp e) (lt_irrefl _)
theorem Wf.nk_none {bs ds:List (Str×Int)}(W:Wf bs ds){n:Str}(h:has bs n=false):nk bs n=0:=by
  cases e:nk bs n with
  |zero=>rfl
  |succ k=>
    have z:=W.par n 0 ((W.cnt n 0 (by omega)).mpr (by omega));rw[h]at z;cases z
theorem ZdZ {bs:List (Str×Int)}{w:Str}{y:Int}(hw:gw w=true)(n:Str):nk (bs++[(w,y)]) n=nk bs n:=ZeC λ i=>by
 rw[ZK,decide_eq_false (Zfo hw),Bool.or_false]
theorem ZdY {bs:List (Str×Int)}{m:Str}{y:Int}(h:(bs.map (·.1)).Nodup)(hm:has bs m=false):((bs++[(m,y)]).map (·.1)).Nodup:=by
 rw[map_append,nodup_append];refine⟨h,by simp,λ a ha b hb e=>?_⟩;rw[map_cons,map_nil,List.mem_singleton]at hb;have hb':b=m:=hb;exact(Zd8 bs m).mp hm (by rw[<- hb',<- e];exact ha)
theorem Wf.arrive {bs ds:List (Str×Int)}{w:Str}{y:Int}(W:Wf bs ds)(hw:gw w=true)(h:has bs w=false)(hl:bs.length<900):Wf (bs++[(w,y)]) ds where
  nod:=ZdY W.nod h
  sub:=λ n hn=>by rw[ZK,W.sub n hn];rfl
  wrt:=λ n hn=>by
    rw[ZK,or_eq_true]at hn;rcases hn with e|e
    . exact W.wrt n e
    . rw[<- of_decide_eq_true e];exact pok_gw hw
  par:=λ n i hn=>by
    rw[ZK,decide_eq_false (Zfo hw),Bool.or_false]at hn;rw[ZK,W.par n i hn];rfl
  cnt:=λ n i hi=>by rw[ZdZ hw,ZK,decide_eq_false (Zfo hw),Bool.or_false];exact W.cnt n i hi
  lim:=by rw[length_append,length_singleton];omega
  few:=λ n=>by rw[ZdZ hw,length_append];have:=W.few n;omega
theorem ZhD {n m:Str}{i j:Nat}(h:n≠m):kid n i≠kid m j:=λ e=>h (ZhC e)
theorem Zd0 {bs ds:List (Str×Int)}(W:Wf bs ds){n:Str}{y:Int}(hl:bs.length<900)(m:Str):nk (bs++[(kid n (nk bs n),y)]) m=if m=n then nk bs n+1 else nk bs m:=by
  have hf:=W.few n
  by_cases h:m=n
  . subst h;rw[if_pos rfl];refine Zhp (by omega) (λ i hi=>?_) ?_
    . rw[ZK]
      by_cases e:i<nk bs m
      . rw[(W.cnt m i (by omega)).mpr e];rfl
      . rw[show i=nk bs m by omega];simp
    . rw[ZK];have z:has bs (kid m (nk bs m+1))=false:=by
        cases e:has bs (kid m (nk bs m+1)) with
        |false=>rfl
        |true=>have:=(W.cnt m _ (by omega)).mp e;omega
      rw[z,decide_eq_false (λ e=>by have:=(Zd3 (by omega) (by omega) e).2;omega)];rfl
  . rw[if_neg h];exact ZeC λ i=>by rw[ZK,decide_eq_false (ZhD (Ne.symm h)),Bool.or_false]
theorem Wf.birth {bs ds:List (Str×Int)}{n:Str}{y:Int}(W:Wf bs ds)(hn:has bs n=true)(hd:ZN n<5)(hl:bs.length<900)(h99:nk bs n<99):Wf (bs++[(kid n (nk bs n),y)]) ds where
  nod:=ZdY W.nod (W.no_kid n)
  sub:=λ m h=>by rw[ZK,W.sub m h];rfl
  wrt:=λ m h=>by
    rw[ZK,or_eq_true]at h;rcases h with e|e
    . exact W.wrt m e
    . rw[<- of_decide_eq_true e];exact Zim (W.wrt n hn) hd h99
  par:=λ m i h=>by
    rw[ZK,or_eq_true]at h;rcases h with e|e
    . rw[ZK,W.par m i e];rfl
    . rw[<- ZhC (of_decide_eq_true e),ZK,hn];rfl
  cnt:=λ m i hi=>by
    rw[Zd0 W hl,ZK]
    by_cases h:m=n
    . subst h;rw[if_pos rfl]
      by_cases e:i=nk bs m
      . subst e;simp
      . have hf:=W.few m;rw[decide_eq_false (λ z=>e (Zd3 (by omega) (by omega) z).2.symm),Bool.or_false,W.cnt m i hi];omega
    . rw[if_neg h,decide_eq_false (ZhD (Ne.symm h)),Bool.or_false];exact W.cnt m i hi
  lim:=by rw[length_append,length_singleton];omega
  few:=λ m=>by
    rw[Zd0 W hl,length_append,length_singleton];have a:=W.few m;have b:=W.few n;split <;> omega
theorem Wf.death {bs ds:List (Str×Int)}{n:Str}{y:Int}(W:Wf bs ds)(hn:has bs n=true):Wf bs (ds++[(n,y)]) where
  nod:=W.nod
  sub:=λ m h=>by
    rw[ZK,or_eq_true]at h;rcases h with e|e
    . exact W.sub m e
    . rw[<- of_decide_eq_true e];exact hn
  wrt:=W.wrt
  par:=W.par
  cnt:=W.cnt
  lim:=W.lim
  few:=W.few
theorem Zv.kp {H H':Hp}(s:Zv H H'):ZS [] H H':=⟨λ a o _ e=>s a o e,λ a e=>s.free e⟩
theorem ZS.refl (X:List Addr)(H:Hp):ZS X H H:=⟨λ _ _ _ e=>e,λ _ e=>e⟩
theorem ZS.tr {X Y:List Addr}{H1 H2 H3:Hp}(k:ZS X H1 H2)(q:ZS Y H2 H3)(h:∀ a∈Y,a∈X\/H1 a=none):ZS X H1 H3:=
 ⟨λ a o hn e=>q.1 a o (λ hy=>(h a hy).elim hn λ z=>by rw[z]at e;cases e) (k.1 a o hn e),λ a e=>k.2 a (q.2 a e)⟩
theorem ZS.same {X:List Addr}{H1 H2 H3:Hp}(k:ZS X H1 H2)(q:Zv H2 H3):ZS X H1 H3:=k.tr q.kp (λ a h=>nomatch h)
theorem Zv.keep {Y:List Addr}{H1 H2 H3:Hp}(k:Zv H1 H2)(q:ZS Y H2 H3)(h:∀ a∈Y,H1 a=none):Zv H1 H3:=λ b o e=>(k.kp.tr q (λ a ha => .inr (h a ha))).1 b o (λ h=>nomatch h) e
noncomputable def Xl (H:Hp)(R R':List Addr):Prop:=∀ a∈R',a∈R\/H a=none
theorem Xl.refl (H:Hp)(R:List Addr):Xl H R R:=λ _ h => .inl h
theorem Xl.tr {H H':Hp}{R R' R'':List Addr}(g:Xl H R R')(k:∀ a,H' a=none->H a=none)(g':Xl H' R' R''):Xl H R R'':=λ a h=>(g' a h).elim (g a) λ z => .inr (k a z)
noncomputable def ZeV (H:Hp)(R:List Addr):Prop:=∀ a∈R,∃ o,H a=some o
noncomputable def Dj (R S:List Addr):Prop:=∀ a∈R,a∉S
theorem Dj.symm {R S:List Addr}(h:Dj R S):Dj S R:=λ a ha hb=>h a hb ha
theorem Dj.grow {H:Hp}{R S S':List Addr}(h:Dj R S)(l:ZeV H R)(g:Xl H S S'):Dj R S':=λ a ha hb=>(g a hb).elim (h a ha) λ z=>by
 obtain⟨o,e⟩:=l a ha;rw[z]at e;cases e
theorem ZeV.dj {H:Hp}{R S:List Addr}(l:ZeV H R)(h:∀ a∈S,H a=none):Dj R S:=λ a ha hb=>by
 obtain⟨o,e⟩:=l a ha;rw[h a hb]at e;cases e
noncomputable def JT (b d1 d2 d3:Addr)(ws:List (Str×Addr×Nat)):List Addr:=b::d1::d2::d3::ws.map (·.2.1)
structure LivesAt (C:Addr)(H:Hp)(b:Addr)(bs ds:List (Str×Int))(R:List Addr):Prop where
  ex:∃ d1 d2 d3 ws,Book C H b d1 d2 d3 bs ds ws/\ws.map (·.1)=bs.map (·.1)/\(∀ p∈ws,p.2.2=nk bs p.1)/\R=JT b d1 d2 d3 ws
  wf:Wf bs ds
theorem LivesAt.live {C:Addr}{H:Hp}{b:Addr}{bs ds:List (Str×Int)}{R:List Addr}(L:LivesAt C H b bs ds R):ZeV H R:=by
  obtain⟨d1,d2,d3,ws,B,_,_,rfl⟩:=L.ex;obtain⟨dx,hb⟩:=B.obj;intro a ha;rcases List.mem_cons.mp ha with rfl|ha
  . exact⟨_,hb⟩
  rcases List.mem_cons.mp ha with rfl|ha
  . exact⟨_,B.h1⟩
  rcases List.mem_cons.mp ha with rfl|ha
  . exact⟨_,B.h2⟩
  rcases List.mem_cons.mp ha with rfl|ha
  . exact⟨_,B.h3⟩
  obtain⟨p,hp,rfl⟩:=List.mem_map.mp ha;exact⟨_,B.kids p hp⟩
theorem LivesAt.mv {C:Addr}{H H':Hp}{b:Addr}{bs ds:List (Str×Int)}{R:List Addr}(L:LivesAt C H b bs ds R)(h:∀ a∈R,∀ o,H a=some o->H' a=some o):LivesAt C H' b bs ds R:=by
  obtain⟨d1,d2,d3,ws,B,k1,k2,rfl⟩:=L.ex;obtain⟨dx,hb⟩:=B.obj;refine⟨⟨d1,d2,d3,ws,⟨⟨dx,h _ ?_ _ hb⟩,h _ ?_ _ B.h1,h _ ?_ _ B.h2,h _ ?_ _ B.h3,B.n12,B.n13,B.n23,λ p hp=>h _ ?_ _ (B.kids p hp),B.nod⟩,k1,k2,rfl⟩,L.wf⟩
  all_goals unfold JT
  . simp
  . simp
  . simp
  . simp
  . exact mem_cons_of_mem _ (mem_cons_of_mem _ (mem_cons_of_mem _ (mem_cons_of_mem _ (List.mem_map.mpr ⟨p,hp,rfl⟩))))
theorem LivesAt.same {C:Addr}{H H':Hp}{b:Addr}{bs ds:List (Str×Int)}{R:List Addr}(L:LivesAt C H b bs ds R)(s:Zv H H'):LivesAt C H' b bs ds R:=L.mv λ a _ o e=>s a o e
noncomputable def Xh (m c e1 e2 e3:Addr):List Addr:=[m,c,e1,e2,e3]
structure MdlAt (H:Hp)(m:Addr)(y:Int)(bs ds cs:List (Str×Int))(R:List Addr):Prop where
  ex:∃ c e1 e2 e3,Mdl H m c e1 e2 e3 y bs ds cs/\R=Xh m c e1 e2 e3
theorem MdlAt.live {H:Hp}{m:Addr}{y:Int}{bs ds cs:List (Str×Int)}{R:List Addr}(L:MdlAt H m y bs ds cs R):ZeV H R:=by
  obtain⟨c,e1,e2,e3,B,rfl⟩:=L.ex;intro a ha;rcases List.mem_cons.mp ha with rfl|ha
  . exact⟨_,B.tup⟩
  rcases List.mem_cons.mp ha with rfl|ha
  . exact⟨_,B.clk⟩
  rcases List.mem_cons.mp ha with rfl|ha
  . exact⟨_,B.h1⟩
  rcases List.mem_cons.mp ha with rfl|ha
  . exact⟨_,B.h2⟩
  rw[List.mem_singleton.mp ha];exact⟨_,B.h3⟩
theorem MdlAt.mv {H H':Hp}{m:Addr}{y:Int}{bs ds cs:List (Str×Int)}{R:List Addr}(L:MdlAt H m y bs ds cs R)(h:∀ a∈R,∀ o,H a=some o->H' a=some o):MdlAt H' m y bs ds cs R:=by
 obtain⟨c,e1,e2,e3,B,rfl⟩:=L.ex;exact⟨c,e1,e2,e3,⟨h _ (by simp[Xh]) _ B.tup,h _ (by simp[Xh]) _ B.clk,h _ (by simp[Xh]) _ B.h1,h _ (by simp[Xh]) _ B.h2,h _ (by simp[Xh]) _ B.h3,B.n12,B.n13,B.n23⟩,rfl⟩
theorem MdlAt.same {H H':Hp}{m:Addr}{y:Int}{bs ds cs:List (Str×Int)}{R:List Addr}(L:MdlAt H m y bs ds cs R)(s:Zv H H'):MdlAt H' m y bs ds cs R:=L.mv λ a _ o e=>s a o e
theorem MdlAt.keep {H H':Hp}{m:Addr}{y:Int}{bs ds cs:List (Str×Int)}{R X:List Addr}(L:MdlAt H m y bs ds cs R)(k:ZS X H H')(d:Dj R X):MdlAt H' m y bs ds cs R:=L.mv λ a ha o e=>k.1 a o (d a ha) e
end L2
namespace L2
open PySem PySem.Spec
set_option genInjectivity false in
set_option genSizeOfSpec false in
structure Ga where
  LandError:Addr:=0
  NoText:Addr:=0
  OutOfBound:Addr:=0
  Taken:Addr:=0
  NoPerson:Addr:=0
  Gone:Addr:=0
  TooDeep:Addr:=0
  Lives:Addr:=0
  World:Addr:=0
  BARRED:Addr:=0
  NOUGHT:Addr:=0
  LONGEST_WORD:Tok:=0
  LONGEST_NUMBER:Tok:=0
  MOST_NUMBERS:Tok:=0
  LAST_FIRST_YEAR:Tok:=0
  MOST_YEARS:Tok:=0
  OLDEST:Tok:=0
theorem Zal {X:Cx}:YF (CXR X.prog X.w X.base) X (λ _ _ _=>False):=λ _ _ _ _ _ _ _ h=>by
 obtain⟨_,_,_,_,_,_,_,_,_,_,_,_,_,_,q⟩:=h;exact q.elim
structure Dk (P:Program)(w:World)(K:Frag)(mg:Str->Option Value)(base:Heap)(CX:CXT)(C:Addr)(k:Nat)(x:Str)(ps:List Str)(sp:Sp):Prop where
  mgx:mg x=some (.ref C)
  ex:∃ f fd,FnOk P w K mg base CX k f fd ps sp/\Mk K C f/\Xt K fd ps []
noncomputable def tMk (C:Addr)(sp:Sp)(E:XK)(t:TA):TE:=λ σ H Q=>t σ H λ vs H1=>∀ x dx,H1 x=none->H1 dx=none->dx≠x ->
 sp (.ref x::vs) (upd (upd H1 dx (.own x)) x (.ins C dx [])) (λ v H2=>v = .non/\Q (.ref x) H2) E
theorem ZgS {C:Addr}{sp:Sp}{E:XK}{t:TA}:Zfw C sp [] E t=tMk C sp E t:=by
 funext σ H Q;unfold Zfw tMk;simp only[append_nil]
theorem pe_mk {X:Cx}{CX:CXT}{k:Nat}{C:Addr}{x:Str}{ps:List Str}{sp:Sp}{E:XK}{e:Expr}{es:List Expr}{p pos:Pos}{t:TA}(hx:YF CX X E)(D:Dk X.prog X.w X.K X.mg X.base CX C k x ps sp)(hr:Room (k+1) X.A)(hg:Gl X x)(ha:PA X (e::es) t)(hdb:(x == ("__debug__":Str))=false:=by decide)(he:starEach (e::es) X.env=(false,eval e X.env)::starEach es X.env:=by rfl)(hpl:(backTo pos (starEach es X.env)).any (·.1)=false:=by rfl) :
    PE X (.Call (.Name x p) (e::es) [] pos) (tMk C sp E t):=by
  obtain⟨f,fd,F,M,hb⟩:=D.ex;rw[<- ZgS];exact Zir M F hr hg D.mgx hb .nil hx ha hdb he hpl
theorem pe_mk0 {X:Cx}{CX:CXT}{k:Nat}{C:Addr}{x:Str}{ps:List Str}{sp:Sp}{E:XK}{p pos:Pos}(hx:YF CX X E)(D:Dk X.prog X.w X.K X.mg X.base CX C k x ps sp)(hr:Room (k+1) X.A)(hg:Gl X x)(hdb:(x == ("__debug__":Str))=false:=by decide):PE X (.Call (.Name x p) [] [] pos) (tMk C sp E tNil):=by
 obtain⟨f,fd,F,M,hb⟩:=D.ex;rw[<- ZgS];exact Zhe M F hr hg D.mgx hb .nil hx hdb
end L2
namespace L2
open PySem PySem.Spec PyProof.Rows
section
variable {X:Cx}
noncomputable def Zg8 (K:Frag):List V->Hp->VK->Prop:=λ xs H Q=>∃ p ys,xs=[.ref p]/\(SqL K H p ys\/SqT K H p ys)/\∀ l,H l=none->Q (.ref l) (upd H l (.lst ys))
theorem Zfr:Xk X (.type "list") (Zg8 X.K):=Zee
end
end L2
namespace L2
open PySem PySem.Spec PyProof.Rows
theorem Zhv (ws:List (Str×Addr×Nat))(n:Str):(bump ws n).map (·.1)=ws.map (·.1):=by
 unfold bump;rw[map_map];refine map_congr_left λ p _=>?_;show(if p.1=n then (p.1,p.2.1,p.2.2+1) else p).1=p.1;split <;> rfl
theorem ZhY {ws:List (Str×Addr×Nat)}{bs:List (Str×Int)}{n:Str}(k1:ws.map (·.1)=bs.map (·.1))(k2:∀ p∈ws,p.2.2=nk bs p.1)(h:has bs n=true):∃ a,bro ws n=some (a,nk bs n):=by
  have hm:n∈ws.map (·.1):=by rw[k1];exact(Z2 bs n).mp h
  unfold bro;obtain⟨p,hp,e⟩:=List.mem_map.mp hm;have z:(ws.find? λ p=>decide (p.1=n)).isSome=true:=List.find?_isSome.mpr ⟨p,hp,decide_eq_true e⟩;cases q:ws.find? (λ p=>decide (p.1=n)) with
  |none=>rw[q]at z;cases z
  |some r=>
    have r0:decide (r.1=n)=true:=List.find?_some (p:=λ p:Str×Addr×Nat=>decide (p.1=n)) q;have r1:=of_decide_eq_true r0;have r2:=k2 r (List.mem_of_find?_eq_some q);refine⟨r.2.1,?_⟩;rw[<- r1,<- r2];rfl
theorem Zhn {ws:List (Str×Addr×Nat)}{bs:List (Str×Int)}{n:Str}(k1:ws.map (·.1)=bs.map (·.1))(h:has bs n=false):Z4 (brs ws) (Sum.inr n:Key)=none:=by
  rw[Zb3];unfold bro;have z:ws.find? (λ p=>decide (p.1=n))=none:=by
    rw[List.find?_eq_none];intro p hp e;exact(Zd8 bs n).mp h (by rw[<- k1];exact List.mem_map.mpr ⟨p,hp,of_decide_eq_true e⟩)
  rw[z];rfl
theorem ZeN {ws:List (Str×Addr×Nat)}{bs ds:List (Str×Int)}{w:Str}{y:Int}{l:Addr}(W:Wf bs ds)(k1:ws.map (·.1)=bs.map (·.1))(k2:∀ p∈ws,p.2.2=nk bs p.1)(hw:gw w=true)(h:has bs w=false) :
    (ws++[(w,l,0)]:List (Str×Addr×Nat)).map (λ p=>p.1)=(bs++[(w,y)]).map (λ p=>p.1)/\∀ p∈ws++[(w,l,0)],p.2.2=nk (bs++[(w,y)]) p.1:=by
  refine⟨by rw[map_append,map_append,k1];rfl,λ p hp=>?_⟩;rw[ZdZ hw];rcases List.mem_append.mp hp with hp|hp
  . exact k2 p hp
  . rw[List.mem_singleton.mp hp];exact(W.nk_none h).symm
theorem ZeO {ws:List (Str×Addr×Nat)}{bs ds:List (Str×Int)}{n:Str}{y:Int}{l:Addr}(W:Wf bs ds)(k1:ws.map (·.1)=bs.map (·.1))(k2:∀ p∈ws,p.2.2=nk bs p.1)(hn:has bs n=true)(hl:bs.length<900) :
    (bump ws n++[(kid n (nk bs n),l,0)]:List (Str×Addr×Nat)).map (λ p=>p.1)=(bs++[(kid n (nk bs n),y)]).map (λ p=>p.1)/\∀ p∈bump ws n++[(kid n (nk bs n),l,0)],p.2.2=nk (bs++[(kid n (nk bs n),y)]) p.1:=by
  refine⟨by rw[map_append,map_append,Zhv,k1];rfl,λ p hp=>?_⟩;rw[Zd0 W hl];rcases List.mem_append.mp hp with hp|hp
  . unfold bump at hp;obtain⟨q,hq,rfl⟩:=List.mem_map.mp hp;have z:=k2 q hq
    by_cases e:q.1=n
    . rw[if_pos e,if_pos e];show q.2.2+1=_;rw[z,e]
    . rw[if_neg e,if_neg e];exact z
  . rw[List.mem_singleton.mp hp];have ne:¬ kid n (nk bs n)=n:=λ e=>by
      have z:=W.no_kid n;rw[e,hn]at z;cases z
    rw[if_neg ne];exact(W.nk_none (W.no_kid n)).symm
theorem J8 {b d1 d2 d3:Addr}{ws:List (Str×Addr×Nat)}:b∈JT b d1 d2 d3 ws/\d1∈JT b d1 d2 d3 ws/\d2∈JT b d1 d2 d3 ws/\d3∈JT b d1 d2 d3 ws/\∀ p∈ws,p.2.1∈JT b d1 d2 d3 ws:=
 ⟨by simp[JT],by simp[JT],by simp[JT],by simp[JT],λ p hp=>mem_cons_of_mem _ (mem_cons_of_mem _ (mem_cons_of_mem _ (mem_cons_of_mem _ (List.mem_map.mpr ⟨p,hp,rfl⟩))))⟩
theorem Zdj {H:Hp}{b d1 d2 d3 l:Addr}{ws ws':List (Str×Addr×Nat)}{x:Str}(h:ws'.map (·.2.1)=ws.map (·.2.1))(hl:H l=none):Xl H (JT b d1 d2 d3 ws) (JT b d1 d2 d3 (ws'++[(x,l,0)])):=by
  intro a ha;unfold JT at ha ⊢;rw[map_append,h]at ha;simp only[mem_cons,mem_append,map_cons,map_nil,not_mem_nil,or_false]at ha ⊢;rcases ha with rfl|rfl|rfl|rfl|ha|rfl
  . exact .inl (.inl rfl)
  . exact .inl (.inr (.inl rfl))
  . exact .inl (.inr (.inr (.inl rfl)))
  . exact .inl (.inr (.inr (.inr (.inl rfl))))
  . exact .inl (.inr (.inr (.inr (.inr ha))))
  . exact .inr hl
theorem ZS.wide {X Y:List Addr}{H H':Hp}(k:ZS X H H')(h:∀ a∈X,a∈Y):ZS Y H H':=⟨λ a o hn e=>k.1 a o (λ z=>hn (h a z)) e,k.2⟩
theorem Xi {H:Hp}{a:Addr}{o:HO}:ZS [a] H (upd H a o):=⟨λ b u hn e=>by rw[Zc (λ z=>hn (by simp[z]))];exact e,λ b e=>by
  by_cases z:b=a
  . rw[z,Zb]at e;cases e
  . rw[Zc z]at e;exact e⟩
noncomputable def al (bs ds:List (Str×Int))(n:Str):Bool:=has bs n && !has ds n
end L2
set_option maxHeartbeats 0
namespace L2
open PySem PySem.Spec
theorem XG {names:List (Str×NameKind)}{cl:List (Str×Addr)}(h:names.all (λ p => !(p.2 == .cell || p.2 == .free) || (cl.map (·.1)).contains p.1)=true):∀ x,(names.lookup x=some .cell\/names.lookup x=some .free)->∃ c,cl.lookup x=some c:=by
  intro x hx;have key:∀ k,names.lookup x=some k->(k == NameKind.cell || k == NameKind.free)=true->∃ c,cl.lookup x=some c:=λ k e hk=>by
    have m:=PySem.mem_of_lookup e;have q:=List.all_eq_true.mp h _ m;simp only[hk,Bool.not_true,Bool.false_or]at q;have q':x∈cl.map (·.1):=by simpa using q
    clear q h m e
    induction cl with
    |nil=>simp at q'
    |cons p r ih=>
      obtain⟨y,c⟩:=p;rw[List.lookup_cons];cases z:x == y with
      |true=>exact⟨c,rfl⟩
      |false=>
        refine ih ?_;rcases List.mem_cons.mp (show x∈y::r.map (·.1) from q') with e|e
        . rw[e]at z;simp at z
        . exact e
  rcases hx with e|e
  . exact key _ e rfl
  . exact key _ e rfl
theorem Zdu {σ:St}{H:Hp}{A B:Hp->Prop}(h:A H):tAll σ H (λ b H3=>if b=true then A H3 else B H3):=by
 show if true=true then A H else B H
 exact Z8 h
noncomputable def abc:Str:="abcdefghijklmnopqrstuvwxyz"
theorem Zhm {a b:Str}(ha:PyData.strOk a=true)(hb:PyData.strOk b=true):PyData.strOk (a++b)=true:=by
 unfold PyData.strOk at *;show(a.cps++b.cps).all _=true;rw[Array.all_append,ha,hb];rfl
theorem Ziz (a b:Str):(a++b).length=a.length+b.length:=by
 show(a.cps++b.cps).size=_;rw[Array.size_append];rfl
theorem J9 {X:Cx}{st:List Stmt}{t t':TS}(h:PSs X st t)(i:∀ D σ H,t' D σ H->t D σ H):PSs X st t':=⟨λ pins s σ H D I q=>h pins s σ H D I (i D σ H q)⟩
theorem Zf8 (a x:Str):(a == x)=decide (x=a):=by
  by_cases h:x=a
  . subst h;rw[decide_eq_true rfl];exact beq_self_eq_true x
  . rw[decide_eq_false h];exact beq_eq_false_iff_ne.mpr λ z=>h z.symm
theorem ZG {n:Nat}(h:n<=500):n<=sizeLine:=le_of_lt (Zs (by omega))
theorem ts_tab:∀ k∈List.range 131,(Str.ofString (toString ((k:Nat):Int))).length<=4:=by decide +kernel
theorem ZeY {i:Int}(h0:0<=i)(h1:i<131):(Str.ofString (toString i)).length<=4:=by
 have:=ts_tab i.toNat (List.mem_range.mpr (by omega));rw[show((i.toNat:Nat):Int)=i by omega]at this;exact this
theorem J6 {i:Int}(h0:0<=i)(h1:i<131):i.natAbs.log2<1920:=by
 have:i.natAbs.log2<=i.natAbs:=Nat.log2_le_self _;omega
open PySem PySem.Spec
theorem abc_in {i:Int}(h0:0<=i)(h1:i<26):∃ c:Nat,atI abc.cps.toList i=some c/\inR 97 122 c=true:=by
 have hl:abc.cps.toList.length=26:=by decide +kernel
 have hi:i.toNat<abc.cps.toList.length:=by omega
 have e:atI abc.cps.toList ((i.toNat:Nat):Int)=some (abc.cps.toList[i.toNat]):=X8 (getElem?_eq_getElem hi);rw[show((i.toNat:Nat):Int)=i by omega]at e;refine⟨_,e,?_⟩;have a:abc.cps.toList.all (inR 97 122)=true:=by decide +kernel
 exact List.all_eq_true.mp a _ (getElem_mem hi)
end L2
namespace L2
open PySem PySem.Spec
inductive Deed where
  | arrive (w:Str) (a:Int)
  | birth (n:Str)
  | death (n:Str)
  | comes (w:Str)
  | years (k:Int)
noncomputable def Deed.vals:Deed->List V
  |.arrive w a=>[.str "arrive", .str w, .int a]
  |.birth n=>[.str "birth", .str n]
  |.death n=>[.str "death", .str n]
  |.comes w=>[.str "comes", .str w]
  |.years k=>[.str "years", .int k]
structure Mo where
  y:Int
  bs:List (Str×Int)
  ds:List (Str×Int)
  cs:List (Str×Int)
noncomputable def Mo.step (S:Mo):Deed->Mo
  |.arrive w a=>{ S with bs:=S.bs++[(w,S.y - a)] }
  |.birth n=>{ S with bs:=S.bs++[(kid n (nk S.bs n),S.y)] }
  |.death n=>{ S with ds:=S.ds++[(n,S.y)] }
  |.comes w=>{ S with cs:=S.cs++[(w,S.y)] }
  |.years k=>{ S with y:=S.y+k }
noncomputable def Mo.good (S:Mo)(far:Int):Deed->Prop
  |.arrive w a=>gw w=true/\has S.bs w=false/\0<=a/\a<=120
  |.birth n=>has S.bs n=true/\has S.ds n=false/\ZN n<5
  |.death n=>has S.bs n=true/\has S.ds n=false
  |.comes w=>gw w=true/\has S.cs w=false
  |.years k=>1<=k/\k<=far
structure Mo.Ok (S:Mo)(k:Nat):Prop where
  wf:Wf S.bs S.ds
  cw:∀ w,has S.cs w=true->gw w=true
  lb:S.bs.length<=k
  ld:S.ds.length<=k
  lc:S.cs.length<=k
noncomputable def YR (H:Hp)(m:Addr)(S:Mo)(R:List Addr):Prop:=MdlAt H m S.y S.bs S.ds S.cs R
theorem YR.live {H:Hp}{m:Addr}{S:Mo}{R:List Addr}(L:YR H m S R):ZeV H R:=MdlAt.live L
theorem YR.same {H H':Hp}{m:Addr}{S:Mo}{R:List Addr}(L:YR H m S R)(s:Zv H H'):YR H' m S R:=MdlAt.same L s
theorem YR.keep {H H':Hp}{m:Addr}{S:Mo}{R X:List Addr}(L:YR H m S R)(k:ZS X H H')(d:Dj R X):YR H' m S R:=MdlAt.keep L k d
noncomputable def mo0 (y:Int):Mo:=⟨y,[],[],[]⟩
theorem Mo.Ok.zero (y:Int):(mo0 y).Ok 0:=⟨Wf.nil,(λ _ h=>Bool.noConfusion h),le_refl _,le_refl _,le_refl _⟩
theorem Mo.Ok.step {S:Mo}{k:Nat}{far:Int}{d:Deed}(O:S.Ok k)(h:S.good far d)(hk:k<98):(S.step d).Ok (k+1):=by
  have a:=O.lb;have b:=O.ld;have c:=O.lc;cases d with
  |arrive w a0=>exact⟨O.wf.arrive h.1 h.2.1 (by omega),O.cw,by show(S.bs++[_]).length<=_;rw[length_append,length_singleton];omega,by show S.ds.length<=_;omega,by show S.cs.length<=_;omega⟩
  |birth n=>exact⟨O.wf.birth h.1 h.2.2 (by omega) (by have:=O.wf.few n;omega),O.cw,by show(S.bs++[_]).length<=_;rw[length_append,length_singleton];omega,by show S.ds.length<=_;omega,by show S.cs.length<=_;omega⟩
  |death n=>exact⟨O.wf.death h.1,O.cw,by show S.bs.length<=_;omega,by show(S.ds++[_]).length<=_;rw[length_append,length_singleton];omega,by show S.cs.length<=_;omega⟩
  | comes w=>exact⟨O.wf,λ x hx=>by
      rw[show(S.step (.comes w)).cs=S.cs++[(w,S.y)] from rfl,ZK,or_eq_true]at hx;rcases hx with e|e
      . exact O.cw x e
      . rw[<- of_decide_eq_true e];exact h.1,by show S.bs.length<=_;omega,by show S.ds.length<=_;omega,by show(S.cs++[_]).length<=_;rw[length_append,length_singleton];omega⟩
  |years k0=>exact⟨O.wf,O.cw,by show S.bs.length<=_;omega,by show S.ds.length<=_;omega,by show S.cs.length<=_;omega⟩
theorem Zd4 {a:V}{A B:Prop}(k:A):if decide (a=a)=true then A else B:=by rw[if_pos (decide_eq_true rfl)];exact k
theorem Yo {a b:Str}{A B:Prop}(h:(a == b)=false)(k:B):if decide (V.str a=V.str b)=true then A else B:=by
  rw[if_neg]
  . exact k
  . intro e;have e':a=b:=by injection (of_decide_eq_true e)
    rw[e']at h;simp at h
noncomputable def ZcK (bs ds:List (Str×Int)):List V:=(bs.filter λ p => !has ds p.1).map λ p=>V.str p.1
theorem Ziy {bs ds:List (Str×Int)}{i:Int}{v:V}(h:atI (ZcK bs ds) i=some v):∃ n,v = .str n/\has bs n=true/\has ds n=false:=by
  have hm:v∈ZcK bs ds:=by
    unfold atI at h;obtain⟨j,_,e⟩:=Option.bind_eq_some_iff.mp h;exact mem_of_getElem? e
  unfold ZcK at hm;obtain⟨p,hp,rfl⟩:=List.mem_map.mp hm;obtain⟨h1,h2⟩:=List.mem_filter.mp hp;exact⟨p.1,rfl,(Z2 bs p.1).mpr (List.mem_map.mpr ⟨p,h1,rfl⟩),by simpa using h2⟩
structure DeedsAt (H:Hp)(l:Addr)(ds:List Deed)(ps:List Addr):Prop where
  lst:H l=some (.lst (ps.map V.ref))
  len:ps.length=ds.length
  at_:∀(i:Nat)(p:Addr)(d:Deed),ps[i]? = some p->ds[i]? = some d->H p=some (.tup d.vals)
theorem DeedsAt.mv {H H':Hp}{l:Addr}{ds:List Deed}{ps:List Addr}(D:DeedsAt H l ds ps)(h:∀ a∈l::ps,∀ o,H a=some o->H' a=some o):DeedsAt H' l ds ps:=
 ⟨h _ (by simp) _ D.lst,D.len,λ i p d e1 e2=>h _ (mem_cons_of_mem _ (mem_of_getElem? e1)) _ (D.at_ i p d e1 e2)⟩
theorem DeedsAt.keep {H H':Hp}{l:Addr}{ds:List Deed}{ps X:List Addr}(D:DeedsAt H l ds ps)(k:ZS X H H')(d:Dj (l::ps) X):DeedsAt H' l ds ps:=D.mv λ a ha o e=>k.1 a o (d a ha) e
theorem DeedsAt.live {H:Hp}{l:Addr}{ds:List Deed}{ps:List Addr}(D:DeedsAt H l ds ps):ZeV H (l::ps):=λ a ha=>by
  rcases List.mem_cons.mp ha with rfl|ha
  . exact⟨_,D.lst⟩
  . obtain⟨i,hi⟩:=List.mem_iff_getElem?.mp ha;have:i<ds.length:=by rw[<- D.len];exact(List.getElem?_eq_some_iff.mp hi).1
    exact⟨_,D.at_ i a _ hi (getElem?_eq_getElem this)⟩
open PySem PySem.Spec
section
variable {H:Hp}{m c e1 e2 e3 p:Addr}{y:Int}{bs ds cs:List (Str×Int)}{R:List Addr}{xs:List V}
theorem Mdl.put1 {bs':List (Str×Int)}(B:Mdl H m c e1 e2 e3 y bs ds cs)(eR:R=Xh m c e1 e2 e3)(hp:H p=some (.tup xs)) :
    upd H e1 (.dK (yrs bs')) p=some (.tup xs)/\ZS R H (upd H e1 (.dK (yrs bs')))/\MdlAt (upd H e1 (.dK (yrs bs'))) m y bs' ds cs R:=
  ⟨by rw[Zc (ZA hp B.h1 (λ z=>by cases z))];exact hp,Xi.wide (λ a ha=>by rw[List.mem_singleton.mp ha,eR];simp[Xh]),⟨c,e1,e2,e3,⟨by rw[Zc (ZA B.tup B.h1 (λ z=>by cases z))];exact B.tup,by rw[Zc (ZA B.clk B.h1 (λ z=>by cases z))];exact B.clk,Zb,by rw[Zc (Ne.symm B.n12)];exact B.h2,by rw[Zc (Ne.symm B.n13)];exact B.h3,B.n12,B.n13,B.n23⟩,eR⟩⟩
theorem Mdl.put2 {ds':List (Str×Int)}(B:Mdl H m c e1 e2 e3 y bs ds cs)(eR:R=Xh m c e1 e2 e3)(hp:H p=some (.tup xs)) :
    upd H e2 (.dK (yrs ds')) p=some (.tup xs)/\ZS R H (upd H e2 (.dK (yrs ds')))/\MdlAt (upd H e2 (.dK (yrs ds'))) m y bs ds' cs R:=
  ⟨by rw[Zc (ZA hp B.h2 (λ z=>by cases z))];exact hp,Xi.wide (λ a ha=>by rw[List.mem_singleton.mp ha,eR];simp[Xh]),⟨c,e1,e2,e3,⟨by rw[Zc (ZA B.tup B.h2 (λ z=>by cases z))];exact B.tup,by rw[Zc (ZA B.clk B.h2 (λ z=>by cases z))];exact B.clk,by rw[Zc B.n12];exact B.h1,Zb,by rw[Zc (Ne.symm B.n23)];exact B.h3,B.n12,B.n13,B.n23⟩,eR⟩⟩
theorem Mdl.put3 {cs':List (Str×Int)}(B:Mdl H m c e1 e2 e3 y bs ds cs)(eR:R=Xh m c e1 e2 e3)(hp:H p=some (.tup xs)) :
    upd H e3 (.dK (yrs cs')) p=some (.tup xs)/\ZS R H (upd H e3 (.dK (yrs cs')))/\MdlAt (upd H e3 (.dK (yrs cs'))) m y bs ds cs' R:=
  ⟨by rw[Zc (ZA hp B.h3 (λ z=>by cases z))];exact hp,Xi.wide (λ a ha=>by rw[List.mem_singleton.mp ha,eR];simp[Xh]),⟨c,e1,e2,e3,⟨by rw[Zc (ZA B.tup B.h3 (λ z=>by cases z))];exact B.tup,by rw[Zc (ZA B.clk B.h3 (λ z=>by cases z))];exact B.clk,by rw[Zc B.n13];exact B.h1,by rw[Zc B.n23];exact B.h2,Zb,B.n12,B.n13,B.n23⟩,eR⟩⟩
end
end L2
namespace L2
open PySem PySem.Spec
theorem pok_ok {x:Str}(h:pok x=true):PyData.strOk x=true:=by
  have hp:∀ p∈pcs x,PyData.strOk p=true:=λ p hp=>by
    unfold pok at h;simp only[and_eq_true]at h;rw[Xe]at hp;rcases List.mem_cons.mp hp with rfl|hp
    . exact gw_ok h.1.1
    . have z:=List.all_eq_true.mp h.2 p hp;unfold gn at z;simp only[and_eq_true]at z;unfold PyData.strOk;rw[Array.all_eq_true_iff_forall_mem];intro c hc;have z2:=List.all_eq_true.mp z.1.2 c (by simpa using hc);simp[inR]at z2;simp;omega
  have key:∀ l:List Str,(∀ p∈l,PyData.strOk p=true)->PyData.strOk (Str.join dot l)=true:=by
    intro l
    induction l with
    |nil=>intro _;decide +kernel
    |cons a r ih=>
      intro hl;cases r with
      |nil=>exact hl a (by simp)
      |cons b r'=>
        show PyData.strOk (a++dot++Str.join dot (b::r'))=true;exact Zhm (Zhm (hl a (by simp)) (by decide +kernel)) (ih (λ p hp=>hl p (mem_cons_of_mem _ hp)))
  rw[<- Ye x];exact key _ hp
theorem Wf.ok {bs ds:List (Str×Int)}(W:Wf bs ds){n:Str}(h:has bs n=true):PyData.strOk n=true:=pok_ok (W.wrt n h)
noncomputable def Y0 (bs:List (Str×Int)):List Str:=bs.map (·.1)
noncomputable def JR (n:Str)(c:Nat):List Str:=(List.range c).map λ i=>kid n i
theorem kidVL (n:Str)(c:Nat):YL n c=(JR n c).map V.str:=by unfold YL JR;rw[map_map];rfl
theorem ZgM {κ:Type}[DecidableEq κ](kvs:List (κ×V))(k:κ):(Z4 kvs k).isSome=true↔k∈kvs.map (·.1):=by
  unfold Z4;rw[isSome_map,List.find?_isSome,mem_map];constructor
  . rintro⟨p,hp,e⟩;exact⟨p,hp,of_decide_eq_true e⟩
  . rintro⟨p,hp,e⟩;exact⟨p,hp,decide_eq_true e⟩
theorem pick4 {z:Str}(hz:gw z=true){i:Int}(h0:0<=i)(h1:i<4):∃ y:Str,atI [V.str "war",V.str "flood",V.str "a",V.str z] i=some (.str y)/\gw y=true:=by
  rcases(show i=0\/i=1\/i=2\/i=3 by omega) with rfl|rfl|rfl|rfl
  . exact⟨_,rfl,by decide +kernel⟩
  . exact⟨_,rfl,by decide +kernel⟩
  . exact⟨_,rfl,by decide +kernel⟩
  . exact⟨_,rfl,hz⟩
theorem atI_in {xs:List V}{i:Int}(h0:0<=i)(h1:i<xs.length):∃ v,atI xs i=some v:=by
 have gi:i.toNat<xs.length:=by omega
 have e:atI xs ((i.toNat:Nat):Int)=some (xs[i.toNat]):=X8 (getElem?_eq_getElem gi);rw[show((i.toNat:Nat):Int)=i by omega]at e;exact⟨_,e⟩
theorem LivesAt.no_tup {C:Addr}{H:Hp}{b p:Addr}{bs ds:List (Str×Int)}{R:List Addr}{xs:List V}(L:LivesAt C H b bs ds R)(hp:H p=some (.tup xs)):p∉R:=by
  obtain⟨d1,d2,d3,ws,B,_,_,rfl⟩:=L.ex;obtain⟨dx,hb⟩:=B.obj;intro ha;rcases List.mem_cons.mp ha with rfl|ha
  . rw[hb]at hp;cases hp
  rcases List.mem_cons.mp ha with rfl|ha
  . rw[B.h1]at hp;cases hp
  rcases List.mem_cons.mp ha with rfl|ha
  . rw[B.h2]at hp;cases hp
  rcases List.mem_cons.mp ha with rfl|ha
  . rw[B.h3]at hp;cases hp
  obtain⟨q,hq,rfl⟩:=List.mem_map.mp ha;rw[B.kids q hq]at hp;cases hp
theorem YR.tup_of {H:Hp}{m:Addr}{S:Mo}{R:List Addr}(M:YR H m S R):∃ c e1 e2 e3,Mdl H m c e1 e2 e3 S.y S.bs S.ds S.cs:=by
 obtain⟨c,e1,e2,e3,B,_⟩:=MdlAt.ex M;exact⟨c,e1,e2,e3,B⟩
theorem DeedsAt.push {H H':Hp}{l p:Addr}{ds:List Deed}{ps:List Addr}{d:Deed}(D:DeedsAt H l ds ps)(s:Zv H H')(hp:H' p=some (.tup d.vals)):DeedsAt (upd H' l (.lst (ps.map V.ref++[V.ref p]))) l (ds++[d]) (ps++[p]):=by
  have hl:=s _ _ D.lst;refine⟨by rw[Zb,map_append];rfl,by simp[D.len],λ i q e h1 h2=>?_⟩;have key:H' q=some (.tup e.vals):=by
    by_cases hi:i<ps.length
    . rw[getElem?_append_left hi]at h1;rw[getElem?_append_left (by rw[<- D.len];exact hi)]at h2;exact s _ _ (D.at_ i q e h1 h2)
    . rw[getElem?_append_right (by omega)]at h1;rw[getElem?_append_right (by rw[<- D.len];omega),<- D.len]at h2;have h3:=(List.getElem?_eq_some_iff.mp h1).1;simp at h3;rw[show i - ps.length=0 by omega]at h1 h2;simp at h1 h2;rw[<- h1,<- h2];exact hp
  rw[Zc (ZA key hl (λ z=>by cases z))];exact key
structure First (was:List (Str×Int)):Prop where
  nod:(was.map (·.1)).Nodup
  len:was.length<=3
  ok:∀ p∈was,gw p.1=true/\0<=p.2/\p.2<=120
noncomputable def arr (p:Str×Int):Deed:=.arrive p.1 p.2
noncomputable def Zej (was:List (Str×Int)):List (Key×V):=was.map λ p=>((Sum.inr p.1:Key),V.bl true)
theorem Zei (was:List (Str×Int))(w:Str):(Z4 (Zej was) (Sum.inr w:Key)).isSome=decide (w∈was.map (·.1)):=by
  rw[Bool.eq_iff_iff,ZgM,decide_eq_true_iff];unfold Zej;rw[map_map,mem_map,mem_map];constructor
  . rintro⟨p,hp,e⟩;exact⟨p,hp,by simpa using e⟩
  . rintro⟨p,hp,e⟩;exact⟨p,hp,by simpa using e⟩
open PySem PySem.Spec
theorem keysK (bs:List (Str×Int)):(yrs bs).map (λ p=>kV p.1)=(Y0 bs).map V.str:=by
 unfold yrs Y0;rw[map_map,map_map];rfl
open PySem PySem.Spec
section
variable {H H2:Hp}{x dx C:Addr}
theorem Zdg {a:Addr}(h:upd (upd H dx (.own x)) x (.ins C dx []) a=none):H a=none:=by
 have n1:a≠x:=λ e=>by rw[e,Zb]at h;cases h
 rw[Zc n1]at h;have n2:a≠dx:=λ e=>by rw[e,Zb]at h;cases h
 rw[Zc n2]at h;exact h
theorem made (nx:H x=none)(ndx:H dx=none)(kp:ZS [x] (upd (upd H dx (.own x)) x (.ins C dx [])) H2):Zv H H2:=λ b o e=>by
 have n1:b≠x:=Zk e nx;refine kp.1 b o (by simpa using n1) ?_;rw[Zc n1,Zc (Zk e ndx)];exact e
end
theorem Mo.Ok.mono {S:Mo}{k j:Nat}(O:S.Ok k)(h:k<=j):S.Ok j:=⟨O.wf,O.cw,le_trans O.lb h,le_trans O.ld h,le_trans O.lc h⟩
theorem First.good {was:List (Str×Int)}(F:First was){S:Mo}{i:Nat}(hi:i<was.length)(hS:S.bs.map (·.1)=(was.take i).map (·.1)){far:Int}:S.good far (arr was[i])/\(S.step (arr was[i])).bs.map (·.1)=(was.take (i+1)).map (·.1):=by
  have hm:=getElem_mem hi;obtain⟨h1,h2,h3⟩:=F.ok _ hm;refine⟨⟨h1,?_,h2,h3⟩,?_⟩
  . rw[Zd8,hS];intro z;obtain⟨p,hp,e⟩:=List.mem_map.mp z;have hnd:=F.nod;obtain⟨j,hj,e2⟩:=List.mem_iff_getElem.mp hp;have hj1:j<i:=by rw[length_take]at hj;omega
    rw[List.getElem_take]at e2;have key:(was.map (·.1))[j]'(by rw[length_map];omega)=(was.map (·.1))[i]'(by rw[length_map];omega):=by
      rw[List.getElem_map,List.getElem_map,e2];exact e
    exact(List.pairwise_iff_getElem.mp hnd) j i (by rw[length_map];omega) (by rw[length_map];omega) hj1 key
  . show(S.bs++[_]).map _=_;rw[map_append,hS,take_succ,getElem?_eq_getElem hi,map_append];rfl
open PySem PySem.Spec
theorem LivesAt.obj {C:Addr}{H:Hp}{b:Addr}{bs ds:List (Str×Int)}{R:List Addr}(L:LivesAt C H b bs ds R):∃ dx d1 d2 d3,H b=some (.ins C dx [("births", .ref d1),("deaths", .ref d2),("broods", .ref d3)]):=by
 obtain⟨d1,d2,d3,ws,B,_⟩:=L.ex;obtain⟨dx,hb⟩:=B.obj;exact⟨dx,d1,d2,d3,hb⟩
theorem Mo.Ok.few {S:Mo}{k:Nat}(O:S.Ok k)(n:Str):nk S.bs n<=k:=le_trans (O.wf.few n) O.lb
end L2
namespace L2
open PySem PySem.Spec PyProof.Rows PySem.W
structure RoomU (k:Nat)(A:Around):Prop where
  dp:A.depth+3 * k+5<recursionLimit
  un:A.units+16 * k+200<cLine
section
variable {X:Cx}
noncomputable def del (H:Hp)(a:Addr):Hp:=λ b=>if b=a then none else H b
end
end L2
namespace L2
open PySem PySem.Spec
noncomputable def tThawS (d:Addr)(kvs:List (Key×V))(t:TS):TS:=λ D σ H=>H d=some (.dK kvs)/\t
  { nx:=λ σ2 H2=>∃ o,H2 d=some (.frz o (.dK kvs))/\D.nx σ2 (upd H2 d (.dK kvs)),rt:=λ v H2=>∃ o,H2 d=some (.frz o (.dK kvs))/\D.rt v (upd H2 d (.dK kvs)),
    bk:=λ σ2 H2=>∃ o,H2 d=some (.frz o (.dK kvs))/\D.bk σ2 (upd H2 d (.dK kvs)),ct:=λ σ2 H2=>∃ o,H2 d=some (.frz o (.dK kvs))/\D.ct σ2 (upd H2 d (.dK kvs)) } σ H
theorem Zil {X:Cx}{st:Stmt}{t:TS}{d:Addr}{kvs:List (Key×V)}(he:PS X st t):PS X st (tThawS d kvs t):=by
  refine⟨?_⟩;rintro pins s σ H D I ⟨hd,h⟩;have hn:∀ o' u',X.H₀ d≠some (.frz o' u'):=λ o' u' z=>by
    have q:=I.base.frzs d o' u' z;rw[hd]at q;cases q
  refine thn (he pins s σ H _ I h) λ f s' q=>?_;cases f with
  |next=>obtain⟨σ2,H2,I2,o,h2,q⟩:=q;exact⟨σ2,_,I2.thaw h2 hn,q⟩
  |brk=>obtain⟨σ2,H2,I2,o,h2,q⟩:=q;exact⟨σ2,_,I2.thaw h2 hn,q⟩
  |cont=>obtain⟨σ2,H2,I2,o,h2,q⟩:=q;exact⟨σ2,_,I2.thaw h2 hn,q⟩
  |ret u=>obtain⟨v,σ2,H2,I2,r,o,h2,q⟩:=q;exact⟨v,σ2,_,I2.thaw h2 hn,r,q⟩
end L2
namespace L2
open PySem PySem.Spec
inductive Er where
  | gone|none_|text|taken|deep|bound
deriving DecidableEq
noncomputable def Er.txt:Er->Str
  |.gone=>"gone"|.none_=>"none"|.text=>"text"|.taken=>"taken"|.deep=>"deep"|.bound=>"bound"
noncomputable def Er.ad (g:Ga):Er->Addr
  |.gone=>g.Gone|.none_=>g.NoPerson|.text=>g.NoText|.taken=>g.Taken|.deep=>g.TooDeep|.bound=>g.OutOfBound
noncomputable def askB (bs ds:List (Str×Int))(way n:Str):Option Er:=
 if way="arrive" then (if gw n=false then some .text else if has bs n=true then some .taken else none)
 else if has bs n=false then some .none_
 else if way="birth" then (if has ds n=true then some .gone else if 5<=ZN n then some .deep else none)
 else if way="death" then (if has ds n=true then some .gone else none)
 else none
noncomputable def ways:List Str:=["arrive","birth","death","born","died","kids"]
theorem Er.ok (e:Er):PyData.strOk e.txt=true:=by cases e <;> decide +kernel
open PySem PySem.Spec
section
variable {bs ds:List (Str×Int)}{n:Str}{y:Int}
end
noncomputable abbrev Bad:=Str×Str×Er
structure BadsAt (H:Hp)(l:Addr)(its:List Bad)(ps:List Addr):Prop where
  lst:H l=some (.lst (ps.map V.ref))
  len:ps.length=its.length
  at_:∀(i:Nat)(p:Addr)(it:Bad),ps[i]? = some p->its[i]? = some it->∃ q,q≠l/\H p=some (.tup [.str it.1, .str it.2.1, .ref q])/\H q=some (.lst [.str it.2.2.txt])
noncomputable def Gd (S:Mo)(its:List Bad):Prop:=∀ it∈its,it.1∈ways/\it.2.1.length<=200/\askB S.bs S.ds it.1 it.2.1=some it.2.2
end L2
namespace L2
open PySem PySem.Spec
section
variable {K:Frag}{caps:List (Str×Nat)}{tt:TT}{te:TE}{σ:St}{H H1:Hp}{Q:VK}{a d:Addr}{xs:List V}{kvs:List (Key×V)}{o:Obj}
end
open PySem PySem.Spec
open PySem PySem.Spec
section
variable {K:Frag}{caps:List (Str×Nat)}{tl te:TE}{tt:TT}{σ:St}{H:Hp}{Q:VK}{d:Addr}{kvs:List (Key×V)}
end
end L2
namespace L2
open PySem PySem.Spec PySem.StrLaws
theorem cut_to (z:Str)(k:Nat):(Txt.slice z none (some (k:Int))).cps.toList=z.cps.toList.take k:=by
  have hz:z.cps.toList.length=z.length:=length_toList;have key:∀ j:Nat,j<=z.length->(Txt.slice z none (some (j:Int))).cps.toList=z.cps.toList.take j:=λ j hj=>by
    have q:=sliceText_to (x:=z) (j:=(j:Int)) ⟨by omega,by omega⟩;have e:Txt.slice z none (some (j:Int))=sliceText z none (some (j:Int)):=rfl;rw[e,q];simp
  by_cases h:k<=z.length
  . exact key k h
  . have e:Builtin.Str.strSliceIndices none (some (k:Int)) 1 z.length=Builtin.Str.strSliceIndices none (some ((z.length:Nat):Int)) 1 z.length:=by
      have a1:¬ ((k:Int)<0):=by omega
      have a2:¬ (((z.length:Nat):Int)<0):=by omega
      have a3:max (0:Int) (min (k:Int) ((z.length:Nat):Int))=((z.length:Nat):Int):=by omega
      have a4:max (0:Int) (min ((z.length:Nat):Int) ((z.length:Nat):Int))=((z.length:Nat):Int):=by omega
      simp only[Builtin.Str.strSliceIndices,if_neg a1,if_neg a2,a3,a4,show(1:Int)>0 from by decide,if_true]
    have e2:Txt.slice z none (some (k:Int))=Txt.slice z none (some ((z.length:Nat):Int)):=by
      unfold Txt.slice;rw[e]
    rw[e2,key z.length (le_refl _),<- hz,take_length,List.take_of_length_le (by omega)]
theorem in_dot (x:Str):(!(Builtin.Str.occurrences x "." 0 x.length 1).isEmpty)=decide (46∈x.cps.toList):=by
 rw[show(".":Str)=⟨#[46]⟩ from Zbn,StrLaws.found_one]
noncomputable def Zeh (S:Mo):Prop:=∃ w,has S.bs w=true/\46∉w.cps.toList
theorem Zeh.step {S:Mo}(h:Zeh S)(d:Deed):Zeh (S.step d):=by
  obtain⟨w,h1,h2⟩:=h;refine⟨w,?_,h2⟩;cases d with
  |arrive x a=>show has (S.bs++_) w=true;rw[ZK,h1];rfl
  |birth x=>show has (S.bs++_) w=true;rw[ZK,h1];rfl
  |death x=>exact h1
  |comes x=>exact h1
  |years x=>exact h1
theorem First.root {was:List (Str×Int)}(F:First was)(hne:was≠[]){S:Mo}{i:Nat}(hi:0<i)(hS:S.bs.map (·.1)=(was.take i).map (·.1)):Zeh S:=by
  cases was with
  |nil=>exact absurd rfl hne
  |cons p r=>
    refine⟨p.1,?_,ZbZ (F.ok p (by simp)).1⟩;rw[Z2,hS];cases i with
    |zero=>exact absurd hi (lt_irrefl 0)
    |succ i=>simp
end L2
namespace L2
open PySem PySem.Spec PySem.StrLaws
theorem Zb5 {x:Str}(h:x.length≠0):(up x).length<x.length:=by
  unfold up;rcases last_spec x dot with ⟨e,_⟩|⟨i,e,z,_⟩
  . rw[e];show 0<x.length;omega
  . rw[e];show(Builtin.Str.strSub x 0 i).length<x.length;have hi:i<x.cps.toList.length:=(List.getElem?_eq_some_iff.mp ((at_iff x i).mp z)).1;have hl:x.cps.toList.length=x.length:=length_toList;have:(Builtin.Str.strSub x 0 i).length=(Builtin.Str.strSub x 0 i).cps.toList.length:=(length_toList).symm;rw[this,strSub_toList];simp;omega
theorem Zau (n:Str)(i:Nat):up (kid n i)=n:=by
  have hl:(kid n i).cps.toList=n.cps.toList++46::(toString ((i:Int)+1):Str).cps.toList:=by
    unfold kid;rw[Yh,Yh,Zdl,append_assoc];rfl
  unfold up;rcases last_spec (kid n i) dot with ⟨e,z⟩|⟨j,e,z,w⟩
  . exfalso;refine z n.cps.toList.length ((at_iff _ _).mpr ?_);rw[hl,getElem?_append_right (le_refl _)];simp
  . rw[e];have hj:=(at_iff _ _).mp z;have e0:j=n.cps.toList.length:=by
      rcases Nat.lt_trichotomy j n.cps.toList.length with h|h|h
      . exfalso;refine w n.cps.toList.length h ((at_iff _ _).mpr ?_);rw[hl,getElem?_append_right (le_refl _)];simp
      . exact h
      . exfalso;rw[hl,getElem?_append_right (by omega)]at hj;cases e2:j - n.cps.toList.length with
        |zero=>omega
        |succ k=>
          rw[e2,List.getElem?_cons_succ]at hj;exact J3 ((i:Int)+1) (mem_of_getElem? hj)
    show Builtin.Str.strSub (kid n i) 0 j=n;refine Yp ?_;rw[strSub_toList,hl,e0];simp
noncomputable def nr (bs:List (Str×Int))(x:Str):Str:=if h:x.length=0 then Str.empty else if has bs x=true then x else nr bs (up x)
termination_by x.length
decreasing_by exact Zb5 h
theorem len0 {x:Str}(h:x.length=0):x=Str.empty:=by
 refine Yp ?_;have:x.cps.toList.length=0:=by rw[length_toList];exact h
 rw[List.length_eq_zero_iff.mp this];rfl
theorem ZiB (n:Str)(i:Nat):(kid n i).length≠0:=λ e=>by
 have h:=ZfQ n i;rw[len0 e]at h;cases h
end L2
namespace L2
open PySem PySem.Spec
section
variable {X:Cx}
end
structure WorldAt (g:Ga)(H:Hp)(w:Addr)(S:Mo)(R:List Addr):Prop where
  ex:∃ dx b hd RL,H w=some (.ins g.World dx [("year", .int S.y),("lives", .ref b),("happened", .ref hd)])/\LivesAt g.Lives H b S.bs S.ds RL/\H hd=some (.dK (yrs S.cs))/\R=w::hd::RL/\w∉RL/\hd∉RL
section
variable {g:Ga}{H H':Hp}{w:Addr}{S:Mo}{R X:List Addr}
theorem WorldAt.live (W:WorldAt g H w S R):ZeV H R:=by
  obtain⟨dx,b,hd,RL,h1,L,h3,rfl,_,_⟩:=W.ex;intro a ha;rcases List.mem_cons.mp ha with rfl|ha
  . exact⟨_,h1⟩
  rcases List.mem_cons.mp ha with rfl|ha
  . exact⟨_,h3⟩
  exact L.live a ha
theorem WorldAt.mv (W:WorldAt g H w S R)(h:∀ a∈R,∀ o,H a=some o->H' a=some o):WorldAt g H' w S R:=by
 obtain⟨dx,b,hd,RL,h1,L,h3,rfl,n1,n2⟩:=W.ex;exact⟨dx,b,hd,RL,h _ (by simp) _ h1,L.mv (λ a ha o e=>h a (mem_cons_of_mem _ (mem_cons_of_mem _ ha)) o e),h _ (by simp) _ h3,rfl,n1,n2⟩
theorem WorldAt.same (W:WorldAt g H w S R)(s:Zv H H'):WorldAt g H' w S R:=W.mv λ a _ o e=>s a o e
theorem WorldAt.keep (W:WorldAt g H w S R)(k:ZS X H H')(d:Dj R X):WorldAt g H' w S R:=W.mv λ a ha o e=>k.1 a o (d a ha) e
theorem WorldAt.no_tup {p:Addr}{xs:List V}(W:WorldAt g H w S R)(hp:H p=some (.tup xs)):p∉R:=by
  obtain⟨dx,b,hd,RL,h1,L,h3,rfl,n1,n2⟩:=W.ex;intro ha;rcases List.mem_cons.mp ha with rfl|ha
  . rw[h1]at hp;cases hp
  rcases List.mem_cons.mp ha with rfl|ha
  . rw[h3]at hp;cases hp
  exact L.no_tup hp ha
theorem WorldAt.book {dx b hd:Addr}{RL RL':List Addr}{bs' ds':List (Str×Int)}(h1:H w=some (.ins g.World dx [("year", .int S.y),("lives", .ref b),("happened", .ref hd)]))(h3:H hd=some (.dK (yrs S.cs)))(n1:w∉RL)(n2:hd∉RL)(k:ZS RL H H')(gr:Xl H RL RL')(L':LivesAt g.Lives H' b bs' ds' RL'):WorldAt g H' w { S with bs:=bs',ds:=ds' } (w::hd::RL')/\ZS (w::hd::RL) H H'/\Xl H (w::hd::RL) (w::hd::RL'):=by
  have f1:∀ a o,H a=some o->a∉RL->a∉RL':=λ a o e n z=>(gr a z).elim n λ q=>by rw[q]at e;cases e
  refine⟨⟨dx,b,hd,RL',k.1 _ _ n1 h1,L',k.1 _ _ n2 h3,rfl,f1 _ _ h1 n1,f1 _ _ h3 n2⟩,k.wide (λ a ha=>mem_cons_of_mem _ (mem_cons_of_mem _ ha)),λ a ha=>?_⟩;rcases List.mem_cons.mp ha with rfl|ha
  . exact .inl (by simp)
  rcases List.mem_cons.mp ha with rfl|ha
  . exact .inl (by simp)
  exact(gr a ha).imp (λ z=>mem_cons_of_mem _ (mem_cons_of_mem _ z)) id
end
open PySem PySem.Spec
section
variable {S:Mo}{k:Int}{x:Str}
end
noncomputable def Er.W (e:Er):Prop:=e = .bound\/e = .taken\/e = .text
end L2
namespace L2
open PySem PySem.Spec
inductive Atm where
  | year (y:Int)
  | comes (w:Str)
  | born (n:Str)
  | dead (n:Str)
  | age (n:Str) (a:Int)
noncomputable def Atm.vals:Atm->List V
  |.year y=>[.str "year", .int y]
  |.comes w=>[.str "comes", .str w]
  |.born n=>[.str "born", .str n]
  |.dead n=>[.str "dead", .str n]
  |.age n a=>[.str "age", .str n, .int a]
noncomputable def Atm.met (S:Mo):Atm->V
  |.year y => .int y
  |.comes w=>((yr S.cs w).map V.int).getD .non
  |.born n=>((yr S.bs n).map V.int).getD .non
  |.dead n=>((yr S.ds n).map V.int).getD .non
  |.age n a=>((yr S.bs n).map λ y=>V.int (y+a)).getD .non
section
variable {S:Mo}{t:Atm}{n:Str}
theorem ZfB {x:Str}(h:pok x=true):x.length≠0:=by
 intro e;obtain⟨c⟩:=x;obtain rfl:c = #[]:=Array.eq_empty_of_size_eq_zero e;exact absurd h (by decide +kernel)
end
end L2
namespace L2
open PySem PySem.Spec
noncomputable def fl (f:Nat->Bool)(n:Nat):List Nat:=(List.range n).filter f
section
variable {K:Frag}{caps:List (Str×Nat)}{tt:TT}{tl te:TE}{σ:St}{H H1:Hp}{Q:VK}
end
open PySem PySem.Spec
section
variable {K:Frag}{caps:List (Str×Nat)}{tt:TT}{tl te:TE}{ta:TA}{σ:St}{H:Hp}{Q:VK}
end
end L2
namespace L2
open PySem PySem.Spec
noncomputable def okN (S:Mo)(n:Str):Prop:=pok n=true/\nr S.bs n≠Str.empty
noncomputable def Atm.ok (S:Mo):Atm->Prop
  |.year y=>0<=y/\y<10000
  |.comes w=>gw w=true
  |.born n=>okN S n
  |.dead n=>okN S n
  |.age n a=>okN S n/\0<=a/\a<=120
section
variable {S:Mo}{t:Atm}{n:Str}
end
structure AtmsAt (H:Hp)(l:Addr)(ts:List Atm)(ps:List Addr):Prop where
  lst:H l=some (.lst (ps.map V.ref))
  len:ps.length=ts.length
  at_:∀(i:Nat)(p:Addr)(t:Atm),ps[i]? = some p->ts[i]? = some t->H p=some (.tup t.vals)
section
variable {H H':Hp}{l:Addr}{ts:List Atm}{ps X:List Addr}
end
open PySem PySem.Spec
theorem cl_sub {cl cells:List (Str×Addr)}(h:∀ p∈cl,cells.lookup p.1=some p.2):∀ x c,cl.lookup x=some c->cells.lookup x=some c:=by
  intro x c e
  induction cl with
  |nil=>cases e
  |cons p r ih=>
    obtain⟨k,v⟩:=p;rw[List.lookup_cons]at e;cases q:x == k with
    |true=>
      rw[q]at e;have e':some v=some c:=e;have hk:x=k:=eq_of_beq q;rw[hk,<- e'];exact h (k,v) (by simp)
    |false=>
      rw[q]at e;exact ih (λ p hp=>h p (mem_cons_of_mem _ hp)) e
open PySem PySem.Spec
noncomputable def Er.nm:Er->Str
  |.none_=>"person"|.text=>"text"|_=>""
open PySem PySem.Spec
theorem AtmsAt.cons {H:Hp}{l l' p:Addr}{t:Atm}{ts:List Atm}{ps:List Addr}(A:AtmsAt H l ts ps)(hp:H p=some (.tup t.vals))(hl:H l'=some (.lst ((p::ps).map V.ref))):AtmsAt H l' (t::ts) (p::ps):=
  ⟨hl,by rw[length_cons,length_cons,A.len],λ i q u e1 e2=>by
    cases i with
    |zero=>cases e1;cases e2;exact hp
    |succ i=>exact A.at_ i q u e1 e2⟩
theorem Zgu {w:Str}(h:gw w=true):46∉w.cps.toList:=λ hm=>by
 unfold gw at h;simp only[and_eq_true]at h;have z:=List.all_eq_true.mp h.1.2 46 hm;exact absurd z (by decide)
theorem ZgO {w:Str}(h:gw w=true):up w=Str.empty:=by
  unfold up;rcases StrLaws.last_spec w dot with ⟨e,_⟩|⟨i,e,z,_⟩
  . rw[e]
  . exact absurd (mem_of_getElem? ((L2.at_iff w i).mp z)) (Zgu h)
end L2
namespace L2
open PySem PySem.Spec
noncomputable def Atm.data:Atm->PyData
  |.year y => .tuple [.str "year", .int y]
  |.comes w => .tuple [.str "comes", .str w]
  |.born n => .tuple [.str "born", .str n]
  |.dead n => .tuple [.str "dead", .str n]
  |.age n a => .tuple [.str "age", .str n, .int a]
open PySem PySem.Spec
end L2
namespace L2
open PySem PySem.Spec
section
variable {K:Frag}{caps:List (Str×Nat)}{tl te:TE}{tt:TT}{σ:St}{H:Hp}{Q:VK}
end
noncomputable def ZX (S:Mo)(n:Str):List Str:=JR n (nk S.bs n)
section
variable {S:Mo}{n c:Str}{a:Int}{os:List Str}
theorem ZeS (h:has S.bs c=true):al S.bs S.ds c = !has S.ds c:=by unfold al;rw[h];rfl
end
end L2
namespace L2
open PySem PySem.Spec
theorem fig1:∀ c∈List.range 9,(⟨#[49+c]⟩:Str)=(toString ((c:Int)+1):Str):=by decide +kernel
theorem fig2:∀ c∈List.range 9,∀ d∈List.range 10,(⟨#[49+c,48+d]⟩:Str)=(toString (((10 * (c+1)+d - 1:Nat):Int)+1):Str):=by decide +kernel
theorem gn_is {p:Str}(h:gn p=true):∃ i:Nat,i<99/\p=(toString ((i:Int)+1):Str):=by
  unfold gn at h;simp only[and_eq_true,decide_eq_true_eq]at h;obtain⟨⟨⟨h1,h2⟩,h3⟩,h4⟩:=h;have hl:p.cps.toList.length=p.length:=length_toList;have ep:p=⟨p.cps.toList.toArray⟩:=Yp (by simp);rcases hc:p.cps.toList with _|⟨c,_|⟨d,_|⟨e,r⟩⟩⟩
  . rw[hc]at hl;simp at hl;omega
  . rw[hc]at h3 h4 ep;simp[inR]at h3 h4;obtain⟨k,hk,rfl⟩:∃ k,k<9/\c=49+k:=⟨c - 49,by omega,by omega⟩;exact⟨k,by omega,ep.trans (fig1 k (List.mem_range.mpr hk))⟩
  . rw[hc]at h3 h4 ep;simp[inR]at h3 h4;obtain⟨k,hk,rfl⟩:∃ k,k<9/\c=49+k:=⟨c - 49,by omega,by omega⟩;obtain⟨j,hj,rfl⟩:∃ j,j<10/\d=48+j:=⟨d - 48,by omega,by omega⟩;exact⟨10 * (k+1)+j - 1,by omega,ep.trans (fig2 k (List.mem_range.mpr hk) j (List.mem_range.mpr hj))⟩
  . rw[hc]at hl;simp at hl;omega
theorem Zbf {x:Str}(h:pok x=true):gw x=true\/∃(n:Str)(i:Nat),i<99/\x=kid n i/\pok n=true/\ZN n<5:=by
  have h':=h;unfold pok at h;simp only[and_eq_true,decide_eq_true_eq]at h;obtain⟨⟨hw,h5⟩,hg⟩:=h;rcases eq_nil_or_concat (nms x) with e|⟨m,p,e⟩
  . left;have:pcs x=[wd x]:=by rw[Xe,e]
    have e2:Str.join dot [wd x]=x:=by rw[<- this];exact Ye x
    have:wd x=x:=e2;rw[<- this];exact hw
  . right;rw[List.concat_eq_append]at e;obtain⟨i,hi,hp⟩:=gn_is (List.all_eq_true.mp hg p (by rw[e];simp));have hpc:pcs x=(wd x::m)++[p]:=by rw[Xe,e];rfl
    have fr:∀ q∈wd x::m,46∉q.cps.toList:=λ q hq=>XU (x:=x) (by rw[hpc];exact mem_append_left _ hq);have pn:pcs (Str.join dot (wd x::m))=wd x::m:=ZcN _ _ (ZaC _) (by simp) (λ q hq=>XU hq) fr (by rw[Ye]);have wn:wd (Str.join dot (wd x::m))=wd x:=by show(pcs (Str.join dot (wd x::m))).headD ""=wd x;rw[pn];rfl
    have nn:nms (Str.join dot (wd x::m))=m:=by unfold nms;rw[pn];rfl
    have ml:m.length<5:=by rw[e,length_append,length_singleton]at h5;omega
    refine⟨Str.join dot (wd x::m),i,hi,?_,?_,by rw[Y2,nn];exact ml⟩
    . have e3:pcs (kid (Str.join dot (wd x::m)) i)=pcs x:=by rw[ZdM,pn,hpc,hp]
      exact(Ye x).symm.trans ((congrArg (Str.join dot) e3.symm).trans (Ye _))
    . unfold pok;rw[wn,nn,hw];simp only[Bool.true_and,and_eq_true,decide_eq_true_eq];exact⟨by omega,List.all_eq_true.mpr λ q hq=>List.all_eq_true.mp hg q (by rw[e];exact mem_append_left _ hq)⟩
open PySem PySem.Spec
end L2
namespace L2
open PySem PySem.Spec
structure Cl where
  n:Str
  a:Int
  os:List Str
  day:Int
noncomputable def Cl.ok (S:Mo)(c:Cl):Prop:=okN S c.n/\0<=c.a/\c.a<=120/\(∀ s∈c.os,PyData.strOk s=true)/\c.os.length<=98
structure MadeAt (tl:Cl->List V)(H:Hp)(lm:Addr)(cs:List Cl)(qs:List (Addr×Addr)):Prop where
  lst:H lm=some (.lst (qs.map λ q=>V.ref q.1))
  len:qs.length=cs.length
  at_:∀(i:Nat) q c,qs[i]? = some q->cs[i]? = some c->H q.1=some (.tup ([.str c.n, .int c.a, .ref q.2]++tl c))/\H q.2=some (.lst (c.os.map V.str))
  ne:∀ q∈qs,q.2≠lm
noncomputable def rgn (lm:Addr)(qs:List (Addr×Addr)):List Addr:=lm::qs.map (·.1)++qs.map (·.2)
section
variable {tl:Cl->List V}{H H':Hp}{lm:Addr}{cs:List Cl}{qs:List (Addr×Addr)}{X:List Addr}
end
noncomputable def Zh1 (tl:Cl->List V)(H:Hp)(lm:Addr)(S:Mo)(i:Nat)(cs:List Cl)(RX:List Addr):Prop:=∃ qs,MadeAt tl H lm cs qs/\RX=rgn lm qs/\(∀ c∈cs,c.ok S)/\cs.length<=i
section
variable {tl:Cl->List V}{H H':Hp}{lm:Addr}{S:Mo}{i:Nat}{cs:List Cl}{RX X:List Addr}
theorem Zh1.mono {j:Nat}(E:Zh1 tl H lm S i cs RX)(h:i<=j):Zh1 tl H lm S j cs RX:=by obtain⟨qs,M,e,a,b⟩:=E;exact⟨qs,M,e,a,by omega⟩
end
end L2
namespace L2
open PySem PySem.Spec PyProof.Rows
structure Two (K:Frag)(H:Hp)(p q:Addr)(a b c d:Int):Prop where
  h1:SqT K H p [.int a, .int b]
  h2:SqT K H q [.int c, .int d]
  a0:0<=a
  a1:a<2 ^ 1800
  b0:0<b
  b1:b<2 ^ 1800
  c0:0<=c
  c1:c<2 ^ 1800
  d0:0<d
  d1:d<2 ^ 1800
noncomputable def Zfj (n d:Int):List V:=[.int (n / Sh.G n d), .int (d / Sh.G n d)]
theorem Two.bd {K:Frag}{H:Hp}{p q:Addr}{a b c d:Int}(t:Two K H p q a b c d):0<b * d/\b * d<2 ^ 3600:=⟨Int.mul_pos t.b0 t.d0,(Za6 (m:=1800) (n:=1800) (Int.le_of_lt t.b0) t.b1 (Int.le_of_lt t.d0) t.d1).2⟩
theorem Two.ad {K:Frag}{H:Hp}{p q:Addr}{a b c d:Int}(t:Two K H p q a b c d):0<=a * d/\a * d<2 ^ 3600:=Za6 (m:=1800) (n:=1800) t.a0 t.a1 (Int.le_of_lt t.d0) t.d1
theorem Two.cb {K:Frag}{H:Hp}{p q:Addr}{a b c d:Int}(t:Two K H p q a b c d):0<=c * b/\c * b<2 ^ 3600:=Za6 (m:=1800) (n:=1800) t.c0 t.c1 (Int.le_of_lt t.b0) t.b1
theorem Two.ac {K:Frag}{H:Hp}{p q:Addr}{a b c d:Int}(t:Two K H p q a b c d):0<=a * c/\a * c<2 ^ 3600:=Za6 (m:=1800) (n:=1800) t.a0 t.a1 t.c0 t.c1
theorem Two.ba {K:Frag}{H:Hp}{p q:Addr}{a b c d:Int}(t:Two K H p q a b c d):a.natAbs<BIG:=X7 t.a0 t.a1 (by decide)
theorem Two.bb {K:Frag}{H:Hp}{p q:Addr}{a b c d:Int}(t:Two K H p q a b c d):b.natAbs<BIG:=X7 (Int.le_of_lt t.b0) t.b1 (by decide)
theorem Two.bc {K:Frag}{H:Hp}{p q:Addr}{a b c d:Int}(t:Two K H p q a b c d):c.natAbs<BIG:=X7 t.c0 t.c1 (by decide)
theorem Two.bdd {K:Frag}{H:Hp}{p q:Addr}{a b c d:Int}(t:Two K H p q a b c d):d.natAbs<BIG:=X7 (Int.le_of_lt t.d0) t.d1 (by decide)
theorem Two.bBD {K:Frag}{H:Hp}{p q:Addr}{a b c d:Int}(t:Two K H p q a b c d):(b * d).natAbs<BIG:=X7 (Int.le_of_lt t.bd.1) t.bd.2 (by decide)
theorem Jj {x:Int}{m n:Nat}(h:x<2 ^ m)(hm:m<=n):x<2 ^ n:=by
  have q:(2:Int) ^ m<=2 ^ n:=by
    have:=Nat.pow_le_pow_right (show 0<2 by decide) hm;have q2:((2 ^ m:Nat):Int)<=((2 ^ n:Nat):Int):=by omega
    rw[Int.natCast_pow,Int.natCast_pow]at q2;exact q2
  omega
theorem ZfL {k:Str}{n d:Int}(h:ZeU (k,n,d)):(!PyData.eqv (shD n d) (shD 0 1))=true↔n≠0:=by
  rw[eqv_sh];constructor
  . intro z e;subst e;have:=Sh.G_zero1 h.2.1 h.2.2;have e2:d=1:=this;subst e2;revert z
    decide
  . intro z;have:(n == 0)=false:=by simpa using z
    rw[this];rfl
noncomputable def ShB (n d:Int):Prop:=0<=n/\n<2 ^ 1800/\0<d/\d<2 ^ 1800
theorem ZgP {K:Frag}{H:Hp}{p q:Addr}{a b c d:Int}(h1:SqT K H p [.int a, .int b])(h2:SqT K H q [.int c, .int d])(x:ShB a b)(y:ShB c d):Two K H p q a b c d:=⟨h1,h2,x.1,x.2.1,x.2.2.1,x.2.2.2,y.1,y.2.1,y.2.2.1,y.2.2.2⟩
theorem ZhF {ws:Ws}{es:List En}(e:ws.map (·.1)=es):(ws.map λ w=>((Sum.inr w.1.1:Key),V.ref w.2)).map (·.1)=(Yf es).map Sum.inr:=by
 subst e;unfold Yf;simp
theorem Zfk {ws:Ws}{es:List En}(e:ws.map (·.1)=es):(ws.map λ w=>((Sum.inr w.1.1:Key),V.ref w.2)).length=es.length:=by
 subst e;simp
noncomputable def LLs (H:Hp)(L:Addr)(ls:List (List En)):Prop:=∃ ps:List (Addr×List En),ps.map (·.2)=ls/\H L=some (.lst (ps.map λ p=>V.ref p.1))/\∀ p∈ps,Led H p.1 p.2
theorem LLs.same {H H':Hp}{L:Addr}{ls:List (List En)}(h:LLs H L ls)(e:Zv H H'):LLs H' L ls:=by
 obtain⟨ps,h1,h2,h3⟩:=h;exact⟨ps,h1,e _ _ h2,λ p hp=>(h3 p hp).same e⟩
theorem LLs.len {H:Hp}{L:Addr}{ls:List (List En)}(h:LLs H L ls):∃ xs,H L=some (.lst xs)/\xs.length=ls.length:=by
 obtain⟨ps,rfl,h1,_⟩:=h;exact⟨_,h1,by simp⟩
theorem LLs.at {H:Hp}{L:Addr}{ls:List (List En)}{xs:List V}{i:Nat}{x:V}(h:LLs H L ls)(hl:H L=some (.lst xs))(hx:xs[i]? = some x):∃(p:Addr)(es:List En),x = .ref p/\ls[i]? = some es/\Led H p es:=by
  obtain⟨ps,rfl,h1,h2⟩:=h;rw[h1]at hl;cases hl;rw[getElem?_map]at hx;cases z:ps[i]? with
  |none=>rw[z]at hx;cases hx
  |some w=>
    rw[z]at hx;exact⟨w.1,w.2,(Option.some.inj hx).symm,by rw[getElem?_map,z];rfl,h2 w (mem_of_getElem? z)⟩
noncomputable abbrev Ut:=Str×Int
noncomputable def ue (e:Ut):En:=(e.1,1,e.2)
theorem G_one {d:Int}:Sh.G 1 d=1:=by
 unfold Sh.G;rw[show((1:Int).toNat)=1 from rfl,Nat.gcd_one_left];rfl
theorem Zhy {d:Int}:Zfj 1 d=[.int 1, .int d]:=by
 unfold Zfj;rw[G_one,Int.ediv_one,Int.ediv_one]
theorem Zhx {d:Int}:Zfj (0 * d+1 * 1) (1 * d)=[.int 1, .int d]:=by
 rw[show(0:Int) * d+1 * 1=1 by omega,show(1:Int) * d=d by omega];exact Zhy
theorem ZeF {d n:Int}:Zfj (1 * 1) (d * n)=[.int 1, .int (d * n)]:=Zhy
theorem ZfJ {e:Ut}(h:0<e.2):ZeU (ue e):=⟨by show(0:Int)<=1;decide,h,G_one⟩
theorem Za8 (l:List Ut):Yf (l.map ue)=l.map (·.1):=by unfold Yf;rw[map_map];rfl
theorem Zhb {es:List En}{k:Str}{n d:Int}(h:k∉Yf es):Ze7 es k n d=es++[(k,n,d)]:=by
 unfold Ze7;rw[if_neg];intro z;obtain⟨e,h1,h2⟩:=List.any_eq_true.mp z;exact h (List.mem_map.mpr ⟨e,h1,of_decide_eq_true h2⟩)
noncomputable def scU (n:Int)(e:Ut):Ut:=(e.1,e.2 * n)
structure MixOk (ls:List (List Ut)):Prop where
  pos:0<ls.length
  few:ls.length<=98
  nod:(ls.flatten.map (·.1)).Nodup
  len:ls.flatten.length<60
  den:∀ e∈ls.flatten,0<e.2/\e.2<2 ^ 100
theorem ZhE (l:List Ut)(n:Int):Yf ((l.map (scU n)).map ue)=l.map (·.1):=by rw[Za8,map_map];rfl
theorem Zh4 {l:List Ut}{i:Nat}{e:Ut}(nd:(l.map (·.1)).Nodup)(h:l[i]? = some e):e.1∉Yf ((l.take i).map ue):=by
 rw[Za8];intro z;obtain⟨u,h1,h2⟩:=List.mem_map.mp z;obtain⟨j,hj⟩:=List.mem_iff_getElem?.mp h1;obtain⟨hi,ei⟩:=List.getElem?_eq_some_iff.mp h;obtain⟨hj1,ej⟩:=List.getElem?_eq_some_iff.mp hj;rw[length_take]at hj1;rw[List.getElem_take]at ej;refine List.pairwise_iff_getElem.mp nd j i (by rw[length_map];omega) (by rw[length_map];exact hi) (by omega) ?_;rw[List.getElem_map,List.getElem_map,ei,ej];exact h2
theorem ZfX {ls:List (List Ut)}{i j:Nat}{es:List Ut}{e:Ut}(hi:ls[i]? = some es)(hj:es[j]? = some e):ls.flatten[((ls.take i).flatten++es.take j).length]? = some e/\ls.flatten.take (((ls.take i).flatten++es.take j).length)=(ls.take i).flatten++es.take j:=by
  obtain⟨h1,h2⟩:=List.getElem?_eq_some_iff.mp hi;obtain⟨h3,h4⟩:=List.getElem?_eq_some_iff.mp hj;have e1:ls.flatten=((ls.take i).flatten++es.take j)++(e::(es.drop (j+1)++(ls.drop (i+1)).flatten)):=by
    conv=>lhs;rw[<- List.take_append_drop i ls,List.drop_eq_getElem_cons h1,h2,List.flatten_append,flatten_cons]
    conv=>lhs;rw[show es=es.take j++es.drop j from(List.take_append_drop j es).symm,List.drop_eq_getElem_cons h3,h4]
    simp only[append_assoc,List.cons_append]
  rw[e1];refine⟨?_,?_⟩
  . rw[getElem?_append_right (le_refl _),Nat.sub_self];rfl
  . rw[List.take_append_of_le_length (le_refl _),take_length]
noncomputable def LLx (H:Hp)(L:Addr)(ls:List (List En)):Prop:=∃ ps:List (Addr×List En),ps.map (·.2)=ls/\H L=some (.lst (ps.map λ p=>V.ref p.1))/\∀ p∈ps,Led H p.1 p.2/\p.1≠L
theorem LLx.ll {H:Hp}{L:Addr}{ls:List (List En)}(h:LLx H L ls):LLs H L ls:=by
 obtain⟨ps,h1,h2,h3⟩:=h;exact⟨ps,h1,h2,λ p hp=>(h3 p hp).1⟩
theorem LLx.same {H H':Hp}{L:Addr}{ls:List (List En)}(h:LLx H L ls)(e:Zv H H'):LLx H' L ls:=by
 obtain⟨ps,h1,h2,h3⟩:=h;exact⟨ps,h1,e _ _ h2,λ p hp=>⟨(h3 p hp).1.same e,(h3 p hp).2⟩⟩
theorem LLx.push {H:Hp}{L p:Addr}{ls:List (List En)}{xs:List V}{es:List En}(h:LLx H L ls)(hl:H L=some (.lst xs))(hp:Led H p es)(hn:p≠L):LLx (upd H L (.lst (xs++[V.ref p]))) L (ls++[es]):=by
  obtain⟨ps,rfl,h1,h2⟩:=h;rw[h1]at hl;cases hl;refine⟨ps++[(p,es)],by simp,by rw[Zb];simp,λ w hw=>?_⟩;have z:Led H w.1 w.2/\w.1≠L:=by
    rcases List.mem_append.mp hw with hw|hw
    . exact h2 w hw
    . rw[List.mem_singleton.mp hw];exact⟨hp,hn⟩
  exact⟨z.1.at1 h1 z.2 (λ _ y=>by cases y),z.2⟩
noncomputable def upn:Nat->Str->Str
  |0,x=>x
  |j+1,x=>up (upn j x)
noncomputable def Und (n x:Str):Prop:=∃ j,upn j x=n/\ZN x=ZN n+j
theorem Und.refl (n:Str):Und n n:=⟨0,rfl,rfl⟩
theorem Und.kid {n x:Str}{i:Nat}(h:Und (kid n i) x):Und n x:=by
  obtain⟨j,h1,h2⟩:=h;refine⟨j+1,?_,?_⟩
  . show up (upn j x)=n;rw[h1,Zau]
  . rw[YN]at h2;omega
theorem Und.uniq {n x:Str}{a b:Nat}(ha:a<1000)(hb:b<1000)(h:Und (L2.kid n a) x)(h':Und (L2.kid n b) x):a=b:=by
 obtain⟨j,h1,h2⟩:=h;obtain⟨j',h1',h2'⟩:=h';rw[YN]at h2 h2';have e:j=j':=by omega
 subst e;exact(Zd3 (by omega) (by omega) (h1.symm.trans h1')).2
noncomputable def lnN (S:Mo):Nat->Str->List Ut
  |0,_=>[]
  |k+1,n=>if has S.ds n=true then (((ZX S n).map (lnN S k)).filter λ l => !l.isEmpty).flatten.map (scU ((((ZX S n).map (lnN S k)).filter λ l => !l.isEmpty).length:Nat)) else [(n,1)]
noncomputable def fil (ls:List (List Ut)):List (List Ut):=ls.filter λ l => !l.isEmpty
theorem XV {S:Mo}{k:Nat}{n:Str}(h:has S.ds n=true):lnN S (k+1) n=(fil ((ZX S n).map (lnN S k))).flatten.map (scU ((fil ((ZX S n).map (lnN S k))).length:Nat)):=by
 rw[lnN,if_pos h];rfl
theorem Za7 {S:Mo}{k:Nat}{n:Str}(h:has S.ds n=false):lnN S (k+1) n=[(n,1)]:=by rw[lnN,if_neg (by rw[h];decide)]
theorem YM:∀ ls:List (List Ut),(fil ls).flatten=ls.flatten
  |[]=>rfl
  | l::r=>by
    unfold fil;cases l with
    |nil=>rw[List.filter_cons_of_neg (by decide)];exact YM r
    |cons x t=>
      rw[List.filter_cons_of_pos rfl,flatten_cons,flatten_cons];exact congrArg _ (YM r)
theorem Zb0 (ls:List (List Ut)):(fil ls).length<=ls.length:=length_filter_le _ _
structure LnOk (S:Mo)(k:Nat)(n:Str)(l:List Ut):Prop where
  bk:∀ e∈l,has S.bs e.1=true
  dd:∀ e∈l,has S.ds e.1=false
  un:∀ e∈l,Und n e.1
  nd:(l.map (·.1)).Nodup
  dn:∀ e∈l,0<e.2/\e.2<=98 ^ k
theorem ZfW {S:Mo}{k:Nat}{n:Str}:∀(c:Nat),c<=900->(∀ i<c,LnOk S k (L2.kid n i) (lnN S k (L2.kid n i)))->((((List.range c).map λ i=>lnN S k (L2.kid n i)).flatten).map (·.1)).Nodup
  |0,_,_=>by simp
  | c+1,hc,h=>by
    rw[List.range_succ,map_append,List.flatten_append,map_append,nodup_append];refine⟨ZfW c (by omega) (λ i hi=>h i (by omega)),?_,?_⟩
    . show(List.map (·.1) (List.flatten [lnN S k (L2.kid n c)])).Nodup;rw[flatten_cons,List.flatten_nil,append_nil];exact(h c (by omega)).nd
    . intro x hx y hy e;subst e;obtain⟨u,hu,rfl⟩:=List.mem_map.mp hx;obtain⟨l,hl,hul⟩:=List.mem_flatten.mp hu;obtain⟨i,hi,rfl⟩:=List.mem_map.mp hl;rw[List.mem_range]at hi;obtain⟨v,hv,ev⟩:=List.mem_map.mp hy;have hv:v∈List.flatten [lnN S k (L2.kid n c)]:=hv;rw[flatten_cons,List.flatten_nil,append_nil]at hv;have a:=(h i (by omega)).un u hul;have b:=(h c (by omega)).un v hv;have ev:v.1=u.1:=ev;rw[ev]at b;have:=Und.uniq (by omega) (by omega) a b;omega
theorem pow98 (k:Nat):(0:Int)<98 ^ k:=Int.pow_pos (by decide)
theorem YV {S:Mo}(W:Wf S.bs S.ds)(hl:S.bs.length<=98):∀(k:Nat)(n:Str),has S.bs n=true->LnOk S k n (lnN S k n)
  |0,n,_=>⟨(λ _ h=>by cases h),(λ _ h=>by cases h),(λ _ h=>by cases h),(by show([]:List Str).Nodup;exact List.nodup_nil),(λ _ h=>by cases h)⟩
  | k+1,n,hn=>by
    cases hd:has S.ds n with
    |false=>
      rw[Za7 hd];refine⟨λ e h=>?_,λ e h=>?_,λ e h=>?_,by simp,λ e h=>?_⟩ <;> rw[List.mem_singleton.mp h]
      . exact hn
      . exact hd
      . exact Und.refl n
      . have:=pow98 (k+1);exact⟨by show(0:Int)<1;decide,by show(1:Int)<=98 ^ (k+1);omega⟩
    |true=>
      have nkl:=W.few n;have ih:∀ i<nk S.bs n,LnOk S k (L2.kid n i) (lnN S k (L2.kid n i)):=λ i hi=>YV W hl k _ ((W.cnt n i (by omega)).mpr hi);have ek:(ZX S n).map (lnN S k)=(List.range (nk S.bs n)).map λ i=>lnN S k (L2.kid n i):=by
        unfold ZX JR;rw[map_map];rfl
      rw[XV hd,YM,ek];have fl:=Zb0 ((List.range (nk S.bs n)).map λ i=>lnN S k (L2.kid n i));rw[length_map,length_range]at fl;have mem:∀ u∈(((List.range (nk S.bs n)).map λ i=>lnN S k (L2.kid n i)).flatten),∃ i,i<nk S.bs n/\u∈lnN S k (L2.kid n i):=λ u hu=>by
        obtain⟨l,h1,h2⟩:=List.mem_flatten.mp hu;obtain⟨i,hi,rfl⟩:=List.mem_map.mp h1;exact⟨i,List.mem_range.mp hi,h2⟩
      have fpos:∀ u∈(((List.range (nk S.bs n)).map λ i=>lnN S k (L2.kid n i)).flatten),0<(fil ((List.range (nk S.bs n)).map λ i=>lnN S k (L2.kid n i))).length:=λ u hu=>by
        rw[<- YM]at hu;obtain⟨l,h1,_⟩:=List.mem_flatten.mp hu;exact List.length_pos_of_mem h1
      generalize hF:(fil ((List.range (nk S.bs n)).map λ i=>lnN S k (L2.kid n i))).length=F at fl fpos;refine⟨λ e h=>?_,λ e h=>?_,λ e h=>?_,?_,λ e h=>?_⟩
      . obtain⟨u,hu,rfl⟩:=List.mem_map.mp h;obtain⟨i,hi,h2⟩:=mem u hu;exact(ih i hi).bk u h2
      . obtain⟨u,hu,rfl⟩:=List.mem_map.mp h;obtain⟨i,hi,h2⟩:=mem u hu;exact(ih i hi).dd u h2
      . obtain⟨u,hu,rfl⟩:=List.mem_map.mp h;obtain⟨i,hi,h2⟩:=mem u hu;exact((ih i hi).un u h2).kid
      . rw[map_map];exact ZfW (nk S.bs n) (by omega) ih
      . obtain⟨u,hu,rfl⟩:=List.mem_map.mp h;obtain⟨i,hi,h2⟩:=mem u hu;obtain⟨d1,d2⟩:=(ih i hi).dn u h2;have f1:=fpos u hu;refine⟨Int.mul_pos d1 (by omega),?_⟩;show u.2 * (F:Int)<=98 ^ (k+1);rw[Int.pow_succ];exact Int.mul_le_mul d2 (by omega) (by omega) (Int.le_of_lt (pow98 k))
theorem Can.perm {a b es:List En}(h:Can a es)(p:a.Perm b):Can b es:=⟨h.1,λ e=>(h.2.1 e).trans (and_congr_left λ _=>p.mem_iff),by rw[<- p.length_eq];exact h.2.2⟩
inductive PermL:List (List Ut)->List (List Ut)->Prop
  | nil:PermL [] []
  | cons {a b:List Ut} {as bs:List (List Ut)} (p:a.Perm b) (t:PermL as bs):PermL (a::as) (b::bs)
theorem PermL.fil {as bs:List (List Ut)}(h:PermL as bs):(fil as).length=(fil bs).length/\as.flatten.Perm bs.flatten:=by
  induction h with
  |nil=>exact⟨rfl, .refl _⟩
  |@cons a b as bs p t ih=>
    refine⟨?_,by rw[flatten_cons,flatten_cons];exact p.append ih.2⟩;unfold L2.fil at ih ⊢;have e:a.isEmpty=b.isEmpty:=by
      have:=p.length_eq;cases a <;> cases b <;> simp_all
    cases hb:b.isEmpty with
    |true=>rw[List.filter_cons_of_neg (by rw[e,hb];decide),List.filter_cons_of_neg (by rw[hb];decide)];exact ih.1
    |false=>rw[List.filter_cons_of_pos (by rw[e,hb];rfl),List.filter_cons_of_pos (by rw[hb];rfl),length_cons,length_cons,ih.1]
noncomputable def bk (e:En):Ut:=(e.1,e.2.2)
theorem ZeQ {us:List Ut}{es:List En}(h:Can (us.map ue) es):(es.map bk).map ue=es:=by
 rw[map_map]
 conv=>rhs;rw[<- List.map_id es]
 refine map_congr_left λ e he=>?_;obtain⟨u,_,rfl⟩:=List.mem_map.mp ((h.2.1 e).mp he).1;rfl
theorem Zfe {a b:List Ut}(ha:a.Nodup)(hb:b.Nodup)(h:∀ x,x∈a↔x∈b):a.Perm b:=by
  induction a generalizing b with
  |nil=>
    cases b with
    |nil=>exact .refl _
    |cons y t=>exact absurd ((h y).mpr (by simp)) (by simp)
  |cons x t ih=>
    rw[List.nodup_cons]at ha;obtain⟨l1,l2,rfl⟩:=List.append_of_mem ((h x).mp (by simp));refine(List.Perm.cons x (ih ha.2 (b:=l1++l2) ?_ λ y=>?_)).trans (List.perm_middle.symm)
    . rw[nodup_append]at hb ⊢;refine⟨hb.1,(List.nodup_cons.mp hb.2.1).2,λ a ha b hb'=>hb.2.2 a ha b (by simp[hb'])⟩
    . have hy:=h y;rw[mem_cons,mem_append,mem_cons]at hy;rw[mem_append];have nx:x∉l1/\x∉l2:=by
        rw[nodup_append]at hb;exact⟨λ z=>hb.2.2 x z x (by simp) rfl,(List.nodup_cons.mp hb.2.1).1⟩
      constructor
      . intro z;have ne:y≠x:=λ e=>ha.1 (by rw[<- e];exact z);rcases hy.mp (.inr z) with q|q|q
        . exact .inl q
        . exact absurd q ne
        . exact .inr q
      . intro z;have ne:y≠x:=λ e=>by
          rcases z with z|z
          . exact nx.1 (by rw[<- e];exact z)
          . exact nx.2 (by rw[<- e];exact z)
        rcases hy.mpr (z.elim .inl λ z => .inr (.inr z)) with q|q
        . exact absurd q ne
        . exact q
theorem Zdf {l:List Ut}(h:(l.map (·.1)).Nodup):l.Nodup:=by
 unfold List.Nodup at h ⊢;rw[List.pairwise_map]at h;exact h.imp λ z e=>z (by rw[e])
theorem ZcX {us:List Ut}{es:List En}(nd:(us.map (·.1)).Nodup)(h:Can (us.map ue) es):(es.map bk).Perm us:=by
  have nde:(es.map bk).Nodup:=by
    refine Zdf ?_;rw[map_map];have z:=h.1;unfold List.Nodup;rw[List.pairwise_map];exact List.Pairwise.imp (S:=λ a b:En=>a.1≠b.1) (λ {a b} w e=>X3 b.1 (by rw[e]at w;exact w)) z
  refine Zfe nde (Zdf nd) λ x=>⟨λ hx=>?_,λ hx=>?_⟩
  . obtain⟨e,he,rfl⟩:=List.mem_map.mp hx;obtain⟨u,hu,rfl⟩:=List.mem_map.mp ((h.2.1 e).mp he).1;exact hu
  . exact List.mem_map.mpr ⟨ue x,(h.2.1 _).mpr ⟨List.mem_map.mpr ⟨x,hx,rfl⟩,by show(1:Int)≠0;decide⟩,rfl⟩
theorem Zde {α:Type}{f g:α->List Ut}:∀(l:List α),(∀ x∈l,(f x).Perm (g x))->PermL (l.map f) (l.map g)
  |[],_ => .nil
  |x::r,h => .cons (h x (by simp)) (Zde r λ y hy=>h y (by simp[hy]))
theorem ZiJ (ess:List (List En)):fil (ess.map (List.map bk))=(ess.filter λ l => !l.isEmpty).map (List.map bk):=by
 unfold fil;rw[List.filter_map];congr 1;refine List.filter_congr λ l _=>?_;cases l <;> rfl
theorem Xg {α:Type}[DecidableEq α]:∀ {l m:List α},l.Nodup->(∀ x∈l,x∈m)->l.length<=m.length
  |[],_,_,_=>zero_le _
  | a::l,m,h,s=>by
    have ha:a∈m:=s a (by simp);have hn:=List.nodup_cons.mp h;have ih:=Xg (l:=l) (m:=m.erase a) hn.2 (λ x hx=>(List.mem_erase_of_ne (show x≠a from λ e=>hn.1 (by rw[<- e];exact hx))).mpr (s x (mem_cons_of_mem _ hx)));rw[List.length_erase_of_mem ha]at ih;have:0<m.length:=List.length_pos_of_mem ha;rw[length_cons];omega
theorem Zgx {S:Mo}{k:Nat}{n:Str}{ess:List (List En)}(W:Wf S.bs S.ds)(hl:S.bs.length<60)(hn:has S.bs n=true)(hd:has S.ds n=true)(hk:k<=5)(le:ess.length=nk S.bs n)(hc:∀ t es,ess[t]? = some es->Can ((lnN S k (L2.kid n t)).map ue) es) :
    (fil (ess.map (List.map bk))).map (List.map ue)=(ess.filter λ l => !l.isEmpty)/\(((fil (ess.map (List.map bk))).flatten.map (scU ((fil (ess.map (List.map bk))).length:Nat))).map ue).Perm ((lnN S (k+1) n).map ue)/\(fil (ess.map (List.map bk))≠[]->MixOk (fil (ess.map (List.map bk)))):=by
  have nkl:=W.few n;have okk:∀ i<nk S.bs n,LnOk S k (L2.kid n i) (lnN S k (L2.kid n i)):=λ i hi=>YV W (by omega) k _ ((W.cnt n i (by omega)).mpr hi);have ek:(ZX S n).map (lnN S k)=(List.range (nk S.bs n)).map λ i=>lnN S k (L2.kid n i):=by
    unfold ZX JR;rw[map_map];rfl
  have ee:ess.map (List.map bk)=(List.range (nk S.bs n)).map λ i=>((ess[i]?).getD []).map bk:=by
    refine List.ext_getElem? λ i=>?_;rw[getElem?_map,getElem?_map];rcases lt_or_ge i ess.length with h|h
    . rw[getElem?_eq_getElem h,List.getElem?_range (by omega)];show some (List.map bk ess[i])=some (List.map bk (ess[i]?.getD []));rw[getElem?_eq_getElem h];rfl
    . rw[List.getElem?_eq_none h,List.getElem?_eq_none (by rw[length_range];omega)];rfl
  have PL:PermL (ess.map (List.map bk)) ((ZX S n).map (lnN S k)):=by
    rw[ee,ek];refine Zde _ λ i hi=>?_;rw[List.mem_range]at hi;have e:ess[i]? = some ess[i]:=getElem?_eq_getElem (by omega);rw[e];exact ZcX (okk i hi).nd (hc i _ e)
  obtain⟨p1,p2⟩:=PL.fil;have p3:(fil (ess.map (List.map bk))).flatten.Perm (fil ((ZX S n).map (lnN S k))).flatten:=by rw[YM,YM];exact p2
  have lo:=YV W (by omega) (k+1) n hn;refine⟨?_,?_,λ hne=>?_⟩
  . rw[ZiJ,map_map]
    conv=>rhs;rw[<- List.map_id (ess.filter _)]
    refine map_congr_left λ es hes=>?_;obtain⟨t,ht⟩:=List.mem_iff_getElem?.mp (List.mem_filter.mp hes).1;exact ZeQ (hc t es ht)
  . rw[XV hd,p1];exact(p3.map _).map _
  . have fpos:0<(fil (ess.map (List.map bk))).length:=List.length_pos_iff.mpr hne;have fle:=Zb0 (ess.map (List.map bk));rw[length_map]at fle;have nd:((fil (ess.map (List.map bk))).flatten.map (·.1)).Nodup:=by
      have z:=lo.nd;rw[XV hd,map_map]at z;exact((p3.map (·.1)).nodup_iff).mpr z
    refine⟨fpos,by omega,nd,?_,λ e he=>?_⟩
    . have z:=lo.nd;have l1:(lnN S (k+1) n).length<=S.bs.length:=by
        have:=Xg z (m:=S.bs.map (·.1)) (λ x hx=>by
          obtain⟨u,hu,rfl⟩:=List.mem_map.mp hx;exact(Z2 S.bs u.1).mp (lo.bk u hu))
        rw[length_map,length_map]at this;exact this
      rw[XV hd,length_map]at l1;rw[p3.length_eq];omega
    . rw[YM,p2.mem_iff,ek]at he;obtain⟨l,h1,h2⟩:=List.mem_flatten.mp he;obtain⟨i,hi,rfl⟩:=List.mem_map.mp h1;obtain⟨d1,d2⟩:=(okk i (List.mem_range.mp hi)).dn e h2;refine⟨d1,?_⟩;have:(98:Int) ^ k<=98 ^ 5:=by
        rcases(show k=0\/k=1\/k=2\/k=3\/k=4\/k=5 by omega) with e|e|e|e|e|e <;> rw[e] <;> decide
      have z:(98:Int) ^ 5<2 ^ 100:=by decide
      omega
noncomputable def ln (S:Mo)(n:Str):List Ut:=lnN S (6 - ZN n) n
noncomputable def hrs (S:Mo)(x:Str):List Ut:=if h:x.length=0 then [(("crown":Str),(1:Int))] else if (ln S x).isEmpty=true then hrs S (up x) else ln S x
termination_by x.length
decreasing_by exact Zb5 h
theorem Zd6 {S:Mo}{x:Str}(h:x.length=0):hrs S x=[(("crown":Str),(1:Int))]:=by rw[hrs,dif_pos h]
theorem Zd5 {S:Mo}{x:Str}(h:x.length≠0)(e:(ln S x).isEmpty=true):hrs S x=hrs S (up x):=by rw[hrs,dif_neg h,if_pos e]
theorem Zfm {S:Mo}{x:Str}(h:x.length≠0)(e:(ln S x).isEmpty=false):hrs S x=ln S x:=by rw[hrs,dif_neg h,if_neg (by rw[e];decide)]
theorem ZfT {α β:Type}{a:List α}{b:List β}(h:a.length=b.length):a.isEmpty=b.isEmpty:=by
  cases a with
  | nil=>cases b with
    |nil=>rfl
    |cons x r=>cases h
  | cons x r=>cases b with
    |nil=>cases h
    |cons y t=>rfl
end L2
namespace L2
open PySem PySem.Spec PyProof.Rows
noncomputable abbrev stp (z:Int×Int)(e:Ut):Int×Int:=(z.1 * e.2+z.2,z.2 * e.2)
noncomputable def rsf (z:Int×Int)(l:List Ut):Int×Int:=l.foldl stp z
noncomputable abbrev rs (l:List Ut):Int×Int:=rsf (0,1) l
theorem ZdH:∀(l:List Ut)(z:Int×Int),rsf z l=(z.1 * (rs l).2+z.2 * (rs l).1,z.2 * (rs l).2)
  |[],z=>by show z=(z.1 * 1+z.2 * 0,z.2 * 1);ext <;> simp
  | e::r,z=>by
    have h1:=ZdH r (stp z e);have h2:=ZdH r (stp (0,1) e);have e1:rsf z (e::r)=rsf (stp z e) r:=rfl;have e2:rs (e::r)=rsf (stp (0,1) e) r:=rfl;rw[e1,h1,e2,h2];generalize rs r=w;obtain⟨p,q⟩:=w;show((z.1 * e.2+z.2) * q+z.2 * e.2 * p,z.2 * e.2 * q)=(z.1 * (1 * e.2 * q)+z.2 * ((0 * e.2+1) * q+1 * e.2 * p),z.2 * (1 * e.2 * q))
    ext
    . simp only;grind
    . simp only;grind
theorem rs_app (a b:List Ut):rs (a++b)=((rs a).1 * (rs b).2+(rs a).2 * (rs b).1,(rs a).2 * (rs b).2):=by
 show List.foldl stp (0,1) (a++b)=_;rw[List.foldl_append];exact ZdH b (rs a)
theorem Zg5:∀(l:List Ut),(∀ e∈l,0<e.2)->∀ z:Int×Int,0<=z.1->0<z.2->0<=(rsf z l).1/\0<(rsf z l).2
  |[],_,z,h1,h2=>⟨h1,h2⟩
  | e::r,h,z,h1,h2=>by
    have he:=h e (by simp);exact Zg5 r (λ x hx=>h x (by simp[hx])) (stp z e) (Int.add_nonneg (Int.mul_nonneg h1 (Int.le_of_lt he)) (Int.le_of_lt h2)) (Int.mul_pos h2 he)
theorem rs_sc (F:Int):∀(l:List Ut)(z z':Int×Int),z'.1 * z.2 * F=z.1 * z'.2->(rsf z' (l.map (scU F))).1 * (rsf z l).2 * F=(rsf z l).1 * (rsf z' (l.map (scU F))).2
  |[],z,z',h=>h
  | e::r,z,z',h=>by
    refine rs_sc F r (stp z e) (stp z' (scU F e)) ?_;obtain⟨p,q⟩:=z;obtain⟨p',q'⟩:=z';show(p' * (e.2 * F)+q') * (q * e.2) * F=(p * e.2+q) * (q' * (e.2 * F));have h:p' * q * F=p * q':=h
    grind
theorem ZgW (z:Int×Int)(a b:Ut):stp (stp z a) b=stp (stp z b) a:=by
  show((z.1 * a.2+z.2) * b.2+z.2 * a.2,z.2 * a.2 * b.2)=((z.1 * b.2+z.2) * a.2+z.2 * b.2,z.2 * b.2 * a.2)
  ext
  . simp only;grind
  . simp only;grind
theorem Zif {a b:List Ut}(p:a.Perm b):∀ z,rsf z a=rsf z b:=by
  induction p with
  |nil=>exact λ _=>rfl
  |cons x _ ih=>exact λ z=>ih _
  |swap x y l=>intro z;show rsf (stp (stp z y) x) l=rsf (stp (stp z x) y) l;rw[ZgW]
  |trans _ _ ih1 ih2=>exact λ z=>(ih1 z).trans (ih2 z)
noncomputable def One (l:List Ut):Prop:=(rs l).1=(rs l).2
theorem Zet {F:Int}:∀(ls:List (List Ut)),(∀ l∈ls,One l)->(∀ l∈ls,∀ e∈l,0<e.2)->0<F->(rs (ls.flatten.map (scU F))).1 * F=(ls.length:Int) * (rs (ls.flatten.map (scU F))).2
  |[],_,_,_=>by show(0:Int) * F=0 * 1;omega
  | l::r,h,hp,hF=>by
    have ih:=Zet r (λ x hx=>h x (by simp[hx])) (λ x hx=>hp x (by simp[hx])) hF;rw[flatten_cons,map_append,rs_app,length_cons];have o:(rs l).1=(rs l).2:=h l (by simp);have s:=rs_sc F l (0,1) (0,1) (by show(0:Int) * 1 * F=0 * 1;omega);have p:=(Zg5 l (hp l (by simp)) (0,1) (by decide) (by decide)).2;have p2:(rs l).2≠0:=by have:0<(rs l).2:=p;omega
    have s2:(rs (l.map (scU F))).1 * F=(rs (l.map (scU F))).2:=by
      have s:(rs (l.map (scU F))).1 * (rs l).2 * F=(rs l).1 * (rs (l.map (scU F))).2:=s;rw[o]at s;refine Int.eq_of_mul_eq_mul_left p2 ?_;rw[<- s]
      grind
    generalize rs (l.map (scU F))=A at s2;generalize rs (r.flatten.map (scU F))=B at ih;obtain⟨a,a'⟩:=A;obtain⟨b,b'⟩:=B;have s2:a * F=a':=s2;have ih:b * F=(r.length:Int) * b':=ih;show(a * b'+a' * b) * F=((r.length+1:Nat):Int) * (a' * b');rw[Int.natCast_add];subst s2
    grind
theorem ZfN {S:Mo}(W:Wf S.bs S.ds)(hl:S.bs.length<=98):∀(k:Nat)(n:Str),has S.bs n=true->lnN S k n≠[]->One (lnN S k n)
  |0,n,_,h=>absurd rfl h
  | k+1,n,hn,h=>by
    cases hd:has S.ds n with
    |false=>
      rw[Za7 hd];show(0:Int) * 1+1=1 * 1
      decide
    |true=>
      have nkl:=W.few n;have okk:∀ i<nk S.bs n,LnOk S k (L2.kid n i) (lnN S k (L2.kid n i)):=λ i hi=>YV W hl k _ ((W.cnt n i (by omega)).mpr hi);rw[XV hd]at h ⊢;have mem:∀ l∈fil ((ZX S n).map (lnN S k)),∃ i,i<nk S.bs n/\l=lnN S k (L2.kid n i)/\l≠[]:=λ l hl2=>by
        obtain⟨h1,h2⟩:=List.mem_filter.mp hl2;obtain⟨c,h3,rfl⟩:=List.mem_map.mp h1;unfold ZX JR at h3;obtain⟨i,hi,rfl⟩:=List.mem_map.mp h3;exact⟨i,List.mem_range.mp hi,rfl,λ z=>by rw[z]at h2;cases h2⟩
      have hF:0<(fil ((ZX S n).map (lnN S k))).length:=by
        rw[List.length_pos_iff];intro z;rw[z]at h;exact h rfl
      have z:=Zet (F:=((fil ((ZX S n).map (lnN S k))).length:Nat)) (fil ((ZX S n).map (lnN S k))) (λ l hl2=>by
        obtain⟨i,hi,rfl,ne⟩:=mem l hl2;exact ZfN W hl k _ ((W.cnt n i (by omega)).mpr hi) ne) (λ l hl2 e he=>by
        obtain⟨i,hi,rfl,ne⟩:=mem l hl2;exact((okk i hi).dn e he).1) (by omega)
      generalize (fil ((ZX S n).map (lnN S k))).flatten.map (scU ((fil ((ZX S n).map (lnN S k))).length:Nat))=L at z ⊢;unfold One;have hF2:(((fil ((ZX S n).map (lnN S k))).length:Nat):Int)≠0:=by omega
      refine Int.eq_of_mul_eq_mul_left hF2 ?_;rw[<- z,Int.mul_comm]
theorem ZeW:∀(j:Nat)(x:Str),upn (j+1) x=upn j (up x)
  |0,x=>rfl
  |j+1,x=>by show up (upn (j+1) x)=up (upn j (up x));rw[ZeW j x]
theorem Zbm {S:Mo}(W:Wf S.bs S.ds):∀(k:Nat)(n:Str),n.length<=k->has S.bs n=true ->
    (∃ a,has S.bs a=true/\Und a n/\ln S a≠[]/\hrs S n=ln S a)\/(hrs S n=[(("crown":Str),(1:Int))]/\∀ a,has S.bs a=true->Und a n->ln S a=[]):=by
  intro k
  induction k with
  |zero=>intro n hk hn;exact absurd (by omega) (ZfB (W.wrt n hn))
  |succ k ih=>
    intro n hk hn;have pn:=W.wrt n hn;have n0:=ZfB pn;cases he:(ln S n).isEmpty with
    |false=>exact .inl ⟨n,hn,Und.refl n,(λ z=>by rw[z]at he;cases he),Zfm n0 he⟩
    |true=>
      have hem:ln S n=[]:=List.isEmpty_iff.mp he;rw[Zd5 n0 he];rcases Zbf pn with hg|⟨p,i,hi,rfl,pp,hd⟩
      . right;refine⟨by rw[ZgO hg];exact Zd6 rfl,λ a ha ⟨j,h1,h2⟩=>?_⟩;rw[ZiL hg]at h2;have:j=0:=by omega
        subst this;rw[<- show n=a from h1];exact hem
      . rw[Zau];have hp:=W.par p i hn;have:=Zb5 (ZiB p i);rw[Zau]at this;rcases ih p (by omega) hp with ⟨a,h1,h2,h3,h4⟩|⟨h1,h2⟩
        . refine .inl ⟨a,h1,?_,h3,h4⟩;obtain⟨j,q1,q2⟩:=h2;exact⟨j+1,by rw[ZeW,Zau];exact q1,by rw[YN];omega⟩
        . refine .inr ⟨h1,λ a ha ⟨j,q1,q2⟩=>?_⟩;cases j with
          |zero=>rw[<- show L2.kid p i=a from q1];exact hem
          |succ j=>
            rw[ZeW,Zau]at q1;exact h2 a ha ⟨j,q1,by rw[YN]at q2;omega⟩
theorem ZiD {S:Mo}(W:Wf S.bs S.ds)(hl:S.bs.length<=98){n:Str}(hn:has S.bs n=true):One (hrs S n)/\((hrs S n).map (·.1)).Nodup/\∀ e∈hrs S n,0<e.2/\e.2<=98 ^ 6:=by
  have p98:∀ k,k<=6->(98:Int) ^ k<=98 ^ 6:=λ k hk=>by
    rcases(show k=0\/k=1\/k=2\/k=3\/k=4\/k=5\/k=6 by omega) with e|e|e|e|e|e|e <;> rw[e] <;> decide
  rcases Zbm W n.length n (le_refl _) hn with ⟨a,h1,_,h3,h4⟩|⟨h1,_⟩
  . rw[h4];have lo:=YV W hl (6 - ZN a) a h1;exact⟨ZfN W hl _ a h1 h3,lo.nd,λ e he=>⟨(lo.dn e he).1,Int.le_trans (lo.dn e he).2 (p98 _ (by omega))⟩⟩
  . rw[h1];refine⟨by show(0:Int) * 1+1=1 * 1;decide,by simp,λ e he=>?_⟩;rw[List.mem_singleton.mp he];exact⟨by show(0:Int)<1;decide,by show(1:Int)<=98 ^ 6;decide⟩
noncomputable def sub (h:Str)(m l:List Ut):List Ut:=l.flatMap λ e=>if e.1=h then m.map (scU e.2) else [e]
section
variable {S:Mo}{h:Str}
end
theorem ZgV (a b:Str):decide (V.str a=V.str b)=decide (a=b):=by
  by_cases c:a=b
  . rw[decide_eq_true c,decide_eq_true (by rw[c])]
  . rw[decide_eq_false c,decide_eq_false (λ z=>c (by injection z))]
theorem ZiE {S:Mo}(W:Wf S.bs S.ds)(hl:S.bs.length<=98){n:Str}(hn:has S.bs n=true):(hrs S n).length<=S.bs.length:=by
  rcases Zbm W n.length n (le_refl _) hn with ⟨a,h1,_,h3,h4⟩|⟨h1,_⟩
  . rw[h4];have lo:=YV W hl (6 - ZN a) a h1;have:=Xg lo.nd (m:=S.bs.map (·.1)) (λ x hx=>by
      obtain⟨u,hu,rfl⟩:=List.mem_map.mp hx;exact(Z2 S.bs u.1).mp (lo.bk u hu))
    rw[length_map,length_map]at this;exact this
  . rw[h1];have:=List.length_pos_of_mem ((Z2 S.bs n).mp hn);rw[length_map]at this;exact this
theorem ZiC {S:Mo}(W:Wf S.bs S.ds)(hl:S.bs.length<=98){n:Str}(hn:has S.bs n=true):∀ e∈hrs S n,PyData.strOk e.1=true:=by
  rcases Zbm W n.length n (le_refl _) hn with ⟨a,h1,_,h3,h4⟩|⟨h1,_⟩
  . rw[h4];have lo:=YV W hl (6 - ZN a) a h1;exact λ e he=>W.ok (lo.bk e he)
  . rw[h1];intro e he;rw[List.mem_singleton.mp he]
    decide +kernel
theorem Zhq {es:List En}(h:∀ e∈es,PyData.strOk e.1=true):(if true=true then !PyData.eqv (ZbQ es) (ZbQ es) else PyData.eqv (ZbQ es) (ZbQ es))=false:=by
 rw[if_pos rfl,ZiK h];rfl
structure HLd (S:Mo)(n:Str)(es:List En)(us:List Ut):Prop where
  eq:us.map ue=es
  pm:us.Perm (hrs S n)
  srt:es.Pairwise λ a b=>ltS a.1 b.1
  one:One us
  nd:(us.map (·.1)).Nodup
  dn:∀ e∈us,0<e.2/\e.2<=98 ^ 6
  len:us.length<=S.bs.length
  str:∀ e∈es,PyData.strOk e.1=true
  nrm:∀ e∈es,ZeU e/\e.2.1≠0
theorem HLd.of {S:Mo}{n:Str}{es:List En}(W:Wf S.bs S.ds)(hl:S.bs.length<=98)(hn:has S.bs n=true)(c:Can ((hrs S n).map ue) es):∃ us,HLd S n es us:=by
  obtain⟨o,nd,dn⟩:=ZiD W hl hn;have pm:=ZcX nd c;have eq:=ZeQ c;have hle:=ZiE W hl hn;refine⟨es.map bk,eq,pm,c.1,?_,((pm.map (·.1)).nodup_iff).mpr nd,λ e he=>dn e (pm.mem_iff.mp he),by rw[pm.length_eq];exact hle,λ e he=>?_,λ e he=>?_⟩
  . unfold One;rw[show rs (es.map bk)=rs (hrs S n) from Zif pm _];exact o
  . obtain⟨u,hu,rfl⟩:=List.mem_map.mp ((c.2.1 e).mp he).1;exact ZiC W hl hn u hu
  . obtain⟨u,hu,rfl⟩:=List.mem_map.mp ((c.2.1 e).mp he).1;exact⟨ZfJ (dn u hu).1,by show(1:Int)≠0;decide⟩
theorem ZfR (l:List Str)(k:Int)(h0:0<l.length):∃ x∈l,atI (l.map V.str) (k % ((l.map V.str).length:Int))=some (.str x):=by
 rw[length_map];have h1:=emod_nonneg k (show(l.length:Int)≠0 by omega);have h2:=emod_lt_of_pos k (show(0:Int)<(l.length:Int) by omega);obtain⟨j,hj⟩:=Int.eq_ofNat_of_zero_le h1;rw[hj];have hjl:j<l.length:=by omega
 exact⟨l[j],getElem_mem hjl,X8 (by rw[getElem?_map,getElem?_eq_getElem hjl];rfl)⟩
theorem Mo.Ok.up2 {S:Mo}{k j:Nat}(O:S.Ok k)(h:k<=j):S.Ok j:=⟨O.wf,O.cw,le_trans O.lb h,le_trans O.ld h,le_trans O.lc h⟩
section
variable {H H':Hp}{m x:Addr}{S:Mo}{R:List Addr}
end
open PySem PySem.W PyProof.Rows
section
variable {O:KeyOrd}{key:Nat->O.α}{n:Nat}{cmp:Nat->Nat->(Bool->Shared->Prop)->Shared->Prop}{s:Shared}
noncomputable def YQ (n:Nat)(p:Array Nat):Prop:=p.Perm (List.toArray (List.range n))
noncomputable def soK (key:Nat->O.α)(p:Array Nat)(i:Nat):O.α:=key (p.getD i 0)
noncomputable def ZbS (key:Nat->O.α)(p:Array Nat)(k:Nat):Prop:=∀ i j,i<=j->j<k->O.kle (soK key p i) (soK key p j)
noncomputable def SoDn (key:Nat->O.α)(p:Array Nat)(k:Nat):Prop:=∀ i j,i<=j->j<k->O.kle (soK key p j) (soK key p i)
theorem YQ.size {p:Array Nat}(h:YQ n p):p.size=n:=by
 have:=h.size_eq;simpa using this
theorem YQ.lt {p:Array Nat}(h:YQ n p){i:Nat}(hi:i<n):p.getD i 0<n:=by
 have hs:=h.size;have hi':i<p.size:=by omega
 have e:p.getD i 0=p[i]:=by simp[Array.getD,hi']
 rw[e];have hm:p[i]∈List.toArray (List.range n):=h.mem_iff.mp (Array.getElem_mem hi');simpa using hm
theorem YQ.rev {p:Array Nat}(h:YQ n p)(i j:Nat):YQ n (kas_rev p i j):=(mirror_perm _ _ _ _).trans h
theorem YQ.bub {p:Array Nat}(h:YQ n p)(i j:Nat):YQ n (bubble p i j):=(bubble_perm _ _ _).trans h
theorem ZbU (p:Array Nat)(i:Nat):p.getD i 0=(p[i]?).getD 0:=by simp[Array.getD_eq_getD_getElem?]
theorem ZaR {p:Array Nat}{i j:Nat}(hj:j<=p.size)(k:Nat):soK key (kas_rev p i j) k=if i<=k/\k<j then soK key p (i+j - 1 - k) else soK key p k:=by
 unfold soK kas_rev;rw[ZbU,getElem?_mirror_all hj];split <;> rw[ZbU]
theorem ZfA {p:Array Nat}{src d:Nat}(hs:src<p.size)(hd:d<=src)(k:Nat):soK key (bubble p src d) k=if k=src - d then soK key p src else if src - d<k/\k<=src then soK key p (k - 1) else soK key p k:=by
 unfold soK;rw[ZbU,getElem?_bubble hs d hd];simp only[ZbU]
 repeat' split
 all_goals rfl
theorem Ze1 (hc:∀ i j (C:Bool->Shared->Prop),i<n->j<n->C (O.blt (key i) (key j)) s->cmp i j C s){p:Array Nat}(ok:YQ n p){G:Nat->Shared->Prop}:∀(f a:Nat),ZbS key p a->1<=a->a+f<=n ->
    (∀ m,a<=m->m<=a+f->ZbS key p m->(m<a+f->O.klt (soK key p m) (soK key p (m - 1)))->G m s)->(kas_asc p f a).kasWp cmp G s
  |0,a,u,_,_,g=>g a (le_refl _) (le_refl _) u (λ h=>by omega)
  | f+1,a,u,h1,hz,g=>by
    show cmp _ _ _ s;refine hc _ _ _ (ok.lt (by omega)) (ok.lt (by omega)) ?_;cases e:O.blt (key (p.getD a 0)) (key (p.getD (a - 1) 0)) with
    |true=>exact g a (le_refl _) (by omega) u (λ _=>e)
    |false=>
      refine Ze1 hc ok f (a+1) (λ i j hij hj=>?_) (by omega) (by omega) (λ m m1 m2 m3 m4=>g m (by omega) (by omega) m3 (λ h=>m4 (by omega)))
      by_cases h:j<a
      . exact u i j hij h
      . have:j=a:=by omega
        subst this
        by_cases h2:i=j
        . subst h2;exact KeyOrd.kle_refl _
        . exact KeyOrd.kle_trans (u i (j - 1) (by omega) (by omega)) e
theorem ZbV (hc:∀ i j (C:Bool->Shared->Prop),i<n->j<n->C (O.blt (key i) (key j)) s->cmp i j C s){G:Array Nat×Nat×Nat->Shared->Prop}:∀(f:Nat)(p:Array Nat)(a q:Nat),YQ n p->SoDn key p a->q<a ->
    (∀ k,a - (q+1)<=k->k<a->soK key p k=soK key p (a - 1))->a+f<=n ->
    (∀ p' a' q',YQ n p'->SoDn key p' a'->a<=a'->a'<=a+f->q'<a'->(∀ k,a' - (q'+1)<=k->k<a'->soK key p' k=soK key p' (a' - 1))->G (p',a',q') s)->(kas_desc f p a q).kasWp cmp G s
  |0,p,a,q,ok,u,hq,he,_,g=>g p a q ok u (le_refl _) (le_refl _) hq he
  | f+1,p,a,q,ok,u,hq,he,hz,g=>by
    show cmp _ _ _ s;refine hc _ _ _ (ok.lt (by omega)) (ok.lt (by omega)) ?_;have ext:∀ {p':Array Nat},SoDn key p' a->O.kle (soK key p' a) (soK key p' (a - 1))->SoDn key p' (a+1):=λ {p'} u' hk i j hij hj=>by
      by_cases h:j<a
      . exact u' i j hij h
      . have:j=a:=by omega
        subst this
        by_cases h2:i=j
        . subst h2;exact KeyOrd.kle_refl _
        . exact KeyOrd.kle_trans hk (u' i (j - 1) (by omega) (by omega))
    cases e:O.blt (key (p.getD a 0)) (key (p.getD (a - 1) 0)) with
    |true=>
      have e':O.kle (soK key p a) (soK key p (a - 1)):=KeyOrd.kle_of_klt e;show(if true=true then (if q>0 then kas_desc f (kas_rev p (a - (q+1)) a) (a+1) 0 else kas_desc f p (a+1) 0) else _).kasWp cmp G s;rw[if_pos rfl]
      by_cases hq0:q>0
      . rw[if_pos hq0];have same:∀ k,soK key (kas_rev p (a - (q+1)) a) k=soK key p k:=λ k=>by
          rw[ZaR (by have:=ok.size;omega)];split
          . rename_i hk;rw[he _ (by omega) (by omega),he k (by omega) (by omega)]
          . rfl
        refine ZbV hc f _ (a+1) 0 (ok.rev _ _) (ext (λ i j hij hj=>by rw[same,same];exact u i j hij hj) (by rw[same,same];exact e')) (by omega) (λ k k1 k2=>?_) (by omega) (λ p' a' q' x1 x2 x3 x4 x5 x6=>g p' a' q' x1 x2 (by omega) (by omega) x5 x6);have:k=a:=by omega
        subst this;rfl
      . rw[if_neg hq0];refine ZbV hc f p (a+1) 0 ok (ext u e') (by omega) (λ k k1 k2=>?_) (by omega) (λ p' a' q' x1 x2 x3 x4 x5 x6=>g p' a' q' x1 x2 (by omega) (by omega) x5 x6);have:k=a:=by omega
        subst this;rfl
    |false=>
      show(if false=true then _ else KasT.ask (p.getD (a - 1) 0) (p.getD a 0) λ d=>if d=true then .ret (p,a,q) else kas_desc f p (a+1) (q+1)).kasWp cmp G s;rw[if_neg (by decide)];refine hc _ _ _ (ok.lt (by omega)) (ok.lt (by omega)) ?_;cases e2:O.blt (key (p.getD (a - 1) 0)) (key (p.getD a 0)) with
      |true=>exact g p a q ok u (le_refl _) (by omega) hq he
      |false=>
        have eq:soK key p a=soK key p (a - 1):=O.total _ _ e e2;show(if false=true then _ else kas_desc f p (a+1) (q+1)).kasWp cmp G s;rw[if_neg (by decide)];refine ZbV hc f p (a+1) (q+1) ok (ext u e2) (by omega) (λ k k1 k2=>?_) (by omega) (λ p' a' q' x1 x2 x3 x4 x5 x6=>g p' a' q' x1 x2 (by omega) (by omega) x5 x6);show soK key p k=soK key p (a+1 - 1);rw[Nat.add_sub_cancel]
        by_cases h:k=a
        . rw[h]
        . rw[eq];exact he k (by omega) (by omega)
theorem Zfy (hc:∀ i j (C:Bool->Shared->Prop),i<n->j<n->C (O.blt (key i) (key j)) s->cmp i j C s){p:Array Nat}{a:Nat}(ok:YQ n p)(u:SoDn key p a)(h1:1<=a)(hz:a<=n){G:Nat×Array Nat->Shared->Prop}(g:∀ m p',YQ n p'->1<=m->m<=n->ZbS key p' m->G (m,p') s):(kas_tail3 a n p).kasWp cmp G s:=by
 unfold kas_tail3;rw[KasT.kasWp_bind];refine Ze1 hc (ok.rev 0 a) (n - a) a (λ i j hij hj=>?_) h1 (by omega) (λ m m1 m2 m3 _=>g m _ (ok.rev 0 a) (by omega) (by omega) m3);have hsz:=ok.size;rw[ZaR (by omega),ZaR (by omega),if_pos (by omega),if_pos (by omega)];exact u _ _ (by omega) (by omega)
theorem Zfz (hc:∀ i j (C:Bool->Shared->Prop),i<n->j<n->C (O.blt (key i) (key j)) s->cmp i j C s){p:Array Nat}{a:Nat}(ok:YQ n p)(u:SoDn key p (a+1))(hz:a+1<=n){G:Nat×Array Nat->Shared->Prop}(g:∀ m p',YQ n p'->1<=m->m<=n->ZbS key p' m->G (m,p') s):(kas_descPart a n p).kasWp cmp G s:=by
  unfold kas_descPart;rw[KasT.kasWp_bind];refine ZbV hc (n - (a+1)) p (a+1) 0 ok u (by omega) (λ k k1 k2=>(show k=a+1 - 1 by omega)▸rfl) (by omega) (λ p' a' q' x1 x2 x3 x4 x5 x6=>?_);have hsz:=x1.size;show(if q'>0 then kas_tail3 a' n (kas_rev p' (a' - (q'+1)) a') else kas_tail3 a' n p').kasWp cmp G s
  by_cases hq:q'>0
  . rw[if_pos hq];have same:∀ k,soK key (kas_rev p' (a' - (q'+1)) a') k=soK key p' k:=λ k=>by
      rw[ZaR (by omega)];split
      . rename_i hk;rw[x6 _ (by omega) (by omega),x6 k (by omega) (by omega)]
      . rfl
    exact Zfy hc (x1.rev _ _) (λ i j hij hj=>by rw[same,same];exact x2 i j hij hj) (by omega) (by omega) g
  . rw[if_neg hq];exact Zfy hc x1 x2 (by omega) (by omega) g
theorem ZgX (hc:∀ i j (C:Bool->Shared->Prop),i<n->j<n->C (O.blt (key i) (key j)) s->cmp i j C s)(h1:1<=n){p:Array Nat}(ok:YQ n p){G:Nat×Array Nat->Shared->Prop}(g:∀ m p',YQ n p'->1<=m->m<=n->ZbS key p' m->G (m,p') s):(kas_count n p).kasWp cmp G s:=by
  unfold kas_count;rw[KasT.kasWp_bind];refine Ze1 hc ok (n - 1) 1 (λ i j hij hj=>?_) (le_refl _) (by omega) (λ m m1 m2 m3 m4=>?_)
  . have h1:i=0:=by omega
    have h2:j=0:=by omega
    subst h1;subst h2;exact KeyOrd.kle_refl _
  . have hsz:=ok.size
    by_cases hm:(m == n)=true
    . rw[if_pos hm];exact g m p ok (by omega) (by omega) m3
    . rw[if_neg hm];have hlt:m<n:=by
        have:m≠n:=λ h=>hm (by simp[h]);omega
      have hk:=m4 (by omega)
      by_cases hm1:m>1
      . rw[if_pos hm1];refine hc _ _ _ (ok.lt (by omega)) (ok.lt (by omega)) ?_;cases e:O.blt (key (p.getD 0 0)) (key (p.getD (m - 1) 0)) with
        |true=>exact g m p ok (by omega) (by omega) m3
        |false=>
          show(if false=true then _ else kas_descPart m n (kas_rev p 0 m)).kasWp cmp G s;rw[if_neg (by decide)];have all:∀ k,k<m->soK key p k=soK key p (m - 1):=λ k hk'=>
            KeyOrd.kle_antisymm (m3 k (m - 1) (by omega) (by omega)) (KeyOrd.kle_trans e (m3 0 k (by omega) (by omega)))
          have same:∀ k,soK key (kas_rev p 0 m) k=soK key p k:=λ k=>by
            rw[ZaR (by omega)];split
            . rename_i hk2;rw[all _ (by omega),all k (by omega)]
            . rfl
          refine Zfz hc (ok.rev _ _) (λ i j hij hj=>?_) (by omega) g;rw[same,same]
          by_cases hj2:j<m
          . rw[all i (by omega),all j (by omega)];exact KeyOrd.kle_refl _
          . have:j=m:=by omega
            subst this
            by_cases hi:i=j
            . subst hi;exact KeyOrd.kle_refl _
            . rw[all i (by omega)];exact KeyOrd.kle_of_klt hk
      . rw[if_neg hm1];have:m=1:=by omega
        subst this;refine Zfz hc ok (λ i j hij hj=>?_) (by omega) g
        by_cases hij2:i=j
        . subst hij2;exact KeyOrd.kle_refl _
        . have h1:i=0:=by omega
          have h2:j=1:=by omega
          subst h1;subst h2;exact KeyOrd.kle_of_klt hk
theorem Zb8 (hc:∀ i j (C:Bool->Shared->Prop),i<n->j<n->C (O.blt (key i) (key j)) s->cmp i j C s){p:Array Nat}(ok:YQ n p){k:Nat}(hk:k<n)(u:ZbS key p k){G:Nat->Shared->Prop}(g:∀ l,l<=k->(∀ i,i<l->O.kle (soK key p i) (soK key p k))->(∀ i,l<=i->i<k->O.kle (soK key p k) (soK key p i))->G l s) :
    ∀(f l r:Nat),l<=r->r<=k->r - l<=f->(∀ i,i<l->O.kle (soK key p i) (soK key p k))->(∀ i,r<=i->i<k->O.kle (soK key p k) (soK key p i))->(kas_place p k f l r).kasWp cmp G s
  | 0,l,r,h1,h2,h3,a,b=>by
    have:l=r:=by omega
    subst this;exact g l h2 a b
  | f+1,l,r,h1,h2,h3,a,b=>by
    show(if l>=r then KasT.ret l else .ask (p.getD k 0) (p.getD ((l+r) / 2) 0) λ c=>if c=true then kas_place p k f l ((l+r) / 2) else kas_place p k f ((l+r) / 2+1) r).kasWp cmp G s
    by_cases h:l>=r
    . rw[if_pos h];have:l=r:=by omega
      subst this;exact g l h2 a b
    . rw[if_neg h];refine hc _ _ _ (ok.lt (by omega)) (ok.lt (by omega)) ?_;cases e:O.blt (key (p.getD k 0)) (key (p.getD ((l+r) / 2) 0)) with
      |true=>
        refine Zb8 hc ok hk u g f l ((l+r) / 2) (by omega) (by omega) (by omega) a (λ i i1 i2=>?_);exact KeyOrd.kle_trans (KeyOrd.kle_of_klt e) (u _ _ i1 i2)
      |false=>
        refine Zb8 hc ok hk u g f ((l+r) / 2+1) r (by omega) (by omega) (by omega) (λ i i1=>?_) b;exact KeyOrd.kle_trans (u i ((l+r) / 2) (by omega) (by omega)) e
theorem ZgY (hc:∀ i j (C:Bool->Shared->Prop),i<n->j<n->C (O.blt (key i) (key j)) s->cmp i j C s){G:Array Nat->Shared->Prop}(g:∀ p,YQ n p->ZbS key p n->G p s) :
    ∀(f:Nat)(p:Array Nat)(k:Nat),YQ n p->ZbS key p k->k+f=n->(kas_bin f p k).kasWp cmp G s
  | 0,p,k,ok,u,h=>by
    have:k=n:=by omega
    subst this;exact g p ok u
  | f+1,p,k,ok,u,h=>by
    show((kas_place p k k 0 k).bind λ l=>kas_bin f (bubble p k (k - l)) (k+1)).kasWp cmp G s;rw[KasT.kasWp_bind];refine Zb8 hc ok (by omega) u (λ l hl x y=>?_) k 0 k (by omega) (by omega) (by omega) (λ i h=>by omega) (λ i h1 h2=>by omega);refine ZgY hc g f _ (k+1) (ok.bub _ _) (λ i j hij hj=>?_) (by omega);have hsz:=ok.size;have el:k - (k - l)=l:=by omega
    rw[ZfA (by omega) (by omega),ZfA (by omega) (by omega),el]
    repeat' split
    all_goals first
      | exact KeyOrd.kle_refl _
      | exact x _ (by omega)
      | exact y _ (by omega) (by omega)
      | exact u _ _ (by omega) (by omega)
      | (exfalso;omega)
theorem Zia (hc:∀ i j (C:Bool->Shared->Prop),i<n->j<n->C (O.blt (key i) (key j)) s->cmp i j C s)(h1:1<=n){G:Array Nat->Shared->Prop}(g:∀ p,YQ n p->ZbS key p n->G p s):(kas_sort n).kasWp cmp G s:=by
  unfold kas_sort;rw[KasT.kasWp_bind];refine ZgX hc h1 (Array.Perm.refl _) (λ m p' ok m1 m2 u=>?_);show(if m<n then kas_bin (n - max m 1) p' (max m 1) else .ret p').kasWp cmp G s;have em:max m 1=m:=by omega
  by_cases h:m<n
  . rw[if_pos h,em];exact ZgY hc g _ p' m ok u (by omega)
  . rw[if_neg h];have:m=n:=by omega
    subst this;exact g p' ok u
end
end L2
namespace L2
open PySem PySem.Spec PyProof.Rows PySem.W
noncomputable def T3 (h:Heap)(v:Value)(x:Str):Prop:=∃(b:Addr)(o:Obj)(t:Tok)(i j:Int)(ti tj:Tok)(n:Nat),v = .ref b/\h.get? b=some o/\o.cls = .type "tuple"/\o.data = .seq #[.str x t, .int i ti, .int j tj] n
theorem T3.kept {h h':Heap}{v:Value}{x:Str}(z:T3 h v x)(k:∀ b o,h.get? b=some o->o.cls = .type "tuple"->h'.get? b=some o):T3 h' v x:=by
 obtain⟨b,o,t,i,j,ti,tj,n,e,e1,e2,e3⟩:=z;exact⟨b,o,t,i,j,ti,tj,n,e,k _ _ e1 e2,e2,e3⟩
noncomputable abbrev soS (ss:List Str)(i:Nat):strKind.toKeyOrd.α:=(ss.getD i default).cps.toList
section
variable {prog:Program}{w:World}{A:Around}{E:Value->Shared->Prop}{s:Shared}
theorem t3_lt {vs:List Value}{ss:List Str}(hl:vs.length=ss.length)(nd:ss.Nodup)(hT:∀ i,i<vs.length->T3 s.heap (vs.getD i Value.none) (ss.getD i default)){i j:Nat}(hi:i<vs.length)(hj:j<vs.length){C:Bool->Shared->Prop}(h:C (strKind.toKeyOrd.blt (soS ss i) (soS ss j)) s):kas_ask prog w A (tuples' true) vs i j C s:=by
  unfold kas_ask;obtain⟨b,o,t,i1,j1,ti,tj,n,e,e1,e2,e3⟩:=hT i hi;obtain⟨b',o',t',i1',j1',ti',tj',n',e',e1',e2',e3'⟩:=hT j hj;rw[e,e'];refine kat_lt e1 e3 e1' e3' ?_;refine kat_cons (wpAny_eqBool_str ?_)
  by_cases hx:ss.getD i default=ss.getD j default
  . have hij:i=j:=by
      have h1:i<ss.length:=by omega
      have h2:j<ss.length:=by omega
      have g1:ss.getD i default=ss[i]:=by simp[h1]
      have g2:ss.getD j default=ss[j]:=by simp[h2]
      rw[g1,g2]at hx;exact(List.getElem_inj nd).mp hx
    subst hij;rw[e]at e';cases e';rw[e1]at e1';cases e1';rw[e3]at e3';cases e3';rw[show decide (ss.getD i default=ss.getD i default)=true from decide_eq_true rfl];refine kat_yes (kat_cons (wpAny_eqBool_int ?_));rw[beq_self_eq_true];refine kat_yes (kat_cons (wpAny_eqBool_int ?_));rw[beq_self_eq_true];refine kat_yes (kat_nil ?_);rw[strKind.toKeyOrd.irrefl]at h;exact h
  . rw[show decide (ss.getD i default=ss.getD j default)=false from decide_eq_false hx];exact kat_no (oneLt_str h)
theorem Zh7 {vs:List Value}{ss:List Str}(hl:vs.length=ss.length)(h0:0<vs.length){s:Shared}(hT:∀ i,i<vs.length->T3 s.heap (vs.getD i Value.none) (ss.getD i default)){Q:SortKind->Shared->Prop}(h:Q (tuples' true) s):wpAny (model prog w) A (keyKind' vs.toArray) Q E s:=by
  obtain⟨fs,hf,hfl,hfs⟩:∃ fs,KatTups s.heap vs fs/\fs.length=vs.length/\∀ v∈fs,∃ x t,v=Value.str x t:=by
    clear h0 h
    induction vs generalizing ss with
    |nil=>exact⟨[], .nil,rfl,λ v hv=>nomatch hv⟩
    |cons v r ih=>
      cases ss with
      |nil=>simp at hl
      |cons x q=>
        obtain⟨b,o,t,i,j,ti,tj,n,e,e1,e2,e3⟩:=hT 0 (by simp);obtain⟨fs,f1,f2,f3⟩:=ih (ss:=q) (by simpa using hl) (λ i hi=>by simpa using hT (i+1) (by simpa using hi));have e':v = .ref b:=by simpa using e
        subst e';refine⟨.str x t::fs,KatTups.cons e1 e2 e3 (by simp) f1,by simp[f2],λ v hv=>?_⟩;rcases List.mem_cons.mp hv with rfl|hv
        . exact⟨_,_,rfl⟩
        . exact f3 v hv
  refine kat_kind (T:=Value.type "str") hf (by omega) (λ v hv=>?_) (by decide) h;obtain⟨x,t,rfl⟩:=hfs v hv;exact .now
theorem Zd2 {a:Addr}{vs:List Value}{ss:List Str}{n:Nat}{P:PySem.Fin->Shared->Prop}(ho:s.heap.get? a=some (seqObj "list" vs.toArray n))(hl:vs.length=ss.length)(nd:ss.Nodup)(hT:∀ i,i<vs.length->T3 s.heap (vs.getD i Value.none) (ss.getD i default))(h64:vs.length<64)(h:∀ p:Array Nat,YQ vs.length p->ZbS (O:=strKind.toKeyOrd) (soS ss) p vs.length->P (.done (.ret .none)) { s with heap:=sortedHeap s.heap a vs (List.toArray (p.toList.map λ i=>vs.getD i Value.none)) }) :
    wpAny (model prog w) A (Builtin.«list.sort» ⟨[.ref a],[]⟩) P E s:=by
  rw[list_sort_plain];have ha:a<s.heap.objs.size:=Heap.lt_size ho;refine wpAny_bind (listItems_at ho rfl ?_);refine wpAny_bind (listUpdate_at ho rfl ?_ (by rw[size_toArray,sizeLine_eq];omega) (zero_le _));obtain⟨e1,ho1⟩:∃ e1,(s.heap.update a (Obj.mapSeq λ _=>(#[]:Array Value))).get? a=some (seqObj "list" #[] e1):=⟨_,get?_update_seq ho (λ _ => #[])⟩;refine wpAny_bind (seqEpoch_at ho1 rfl ?_);refine wpAny_bind (wpAny_newTuple ?_ (by show vs.length<=_;rw[sizeLine_eq];omega));refine wpAny_bind (wpAny_newList ?_ (zero_le _));refine wpAny_holding ?_;have old:∀ b o,b≠a->s.heap.get? b=some o->(((s.heap.update a (Obj.mapSeq λ _=>(#[]:Array Value))).push (seqObj "tuple" vs.toArray 0)).push (seqObj "list" #[] 0)).get? b=some o:=λ b o hb e=>by
    refine Heap.get?_push_of_some _ (Heap.get?_push_of_some _ ?_);rw[Heap.get?_update_ne _ _ _ _ hb];exact e
  have ho6:(((s.heap.update a (Obj.mapSeq λ _=>(#[]:Array Value))).push (seqObj "tuple" vs.toArray 0)).push (seqObj "list" #[] 0)).get? a=some (seqObj "list" #[] e1):=Heap.get?_push_of_some _ (Heap.get?_push_of_some _ ho1);show wpAny (model prog w) A _ P E { s with heap:=((s.heap.update a (Obj.mapSeq λ _=>(#[]:Array Value))).push (seqObj "tuple" vs.toArray 0)).push (seqObj "list" #[] 0) };dsimp only;have hT':∀ i,i<vs.length->T3 (((s.heap.update a (Obj.mapSeq λ _=>(#[]:Array Value))).push (seqObj "tuple" vs.toArray 0)).push (seqObj "list" #[] 0)) (vs.getD i Value.none) (ss.getD i default):=λ i hi=>
    (hT i hi).kept λ b o e hc=>old b o (λ q=>by subst q;rw[ho]at e;cases e;exact absurd (show Value.type "list"=Value.type "tuple" from hc) (by decide)) e
  by_cases h2:vs.toArray.size<2
  . rw[if_pos h2,if_pos h2];refine wpAny_bind (wpAny_pure ?_);rw[StateT.run_pure];refine wpAny_bind (wpAny_pure ?_);dsimp only;have hz:vs.length<2:=by simpa using h2
    have z:=h (List.toArray (List.range vs.length)) (Array.Perm.refl _) (λ i j hij hj=>by
      have:i=j:=by omega
      subst this;exact KeyOrd.kle_refl _)
    have ev:List.toArray ((List.toArray (List.range vs.length)).toList.map λ i=>vs.getD i Value.none)=((vs.toArray.zip vs.toArray).map (·.2)):=by
      match vs,hz with
      |[],_=>simp
      |[_],_=>simp
    rw[ev]at z;refine wpAny_bind (seqEpoch_at ho6 rfl ?_);refine wpAny_bind (listUpdate_at ho6 rfl ?_ (hsz2:=by rw[Array.size_map];show(pairsOf vs).size<=_;rw[pairsOf_size,sizeLine_eq];omega));simp only[bne_self_eq_false,Bool.false_eq_true,if_false];exact wpAny_pure z
  . rw[if_neg h2,if_neg h2];have hz1:¬ vs.length<2:=by simpa using h2
    have hz:2<=vs.length:=by omega
    refine wpAny_bind (Zh7 hl (by omega) hT' ?_);refine wpAny_bind (wpAny_mono (kat_run (ks:=vs) (Q:=λ st' s'=>s' = { s with heap:=((s.heap.update a (Obj.mapSeq λ _=>(#[]:Array Value))).push (seqObj "tuple" vs.toArray 0)).push (seqObj "list" #[] 0) }/\failedOf st'=none/\∃ p,YQ vs.length p/\ZbS (O:=strKind.toKeyOrd) (soS ss) p vs.length/\arrOf st'=p.map (kas_item (vs.toArray.zip vs.toArray)))
      (G:=λ p s'=>s' = { s with heap:=((s.heap.update a (Obj.mapSeq λ _=>(#[]:Array Value))).push (seqObj "tuple" vs.toArray 0)).push (seqObj "list" #[] 0) }/\YQ vs.length p/\ZbS (O:=strKind.toKeyOrd) (soS ss) p vs.length) rfl hz h64
      (λ p st' s' q1 q2 q3 q4=>⟨q4.1,q3,p,q4.2.1,q4.2.2,q2⟩) (Zia (O:=strKind.toKeyOrd) (key:=soS ss) (λ i j C hi hj hc=>t3_lt hl nd hT' hi hj hc) (by omega) λ p x y=>⟨rfl,x,y⟩)) ?_ λ _ _ e=>e)
    rintro⟨⟨⟩,st'⟩ s' ⟨rfl,hf,p,hp,hs,har⟩;dsimp only;have hout:=kat_snds (ks:=vs) (vs:=vs) rfl har;rw[hout];refine wpAny_bind (seqEpoch_at ho6 rfl ?_);refine wpAny_bind (listUpdate_at ho6 rfl ?_ (hsz2:=by rw[size_toArray,length_map,length_toList,hp.size,sizeLine_eq];omega));rw[hf];simp only[bne_self_eq_false,Bool.false_eq_true,if_false];exact wpAny_pure (h p hp hs)
end
noncomputable def rSortT:List V->Hp->VK->Prop:=λ xs H Q=>∃(a:Addr)(ws:Ws),xs=[.ref a]/\LedW H a ws/\(ws.map (·.1.1)).Nodup/\ws.length<64 /\
 ∀(ws':Ws)(l:Addr),ws'.Perm ws->sortedS (ws'.map (·.1.1))=true->H l=none->Q (.ref l) (upd H l (.lst (ws'.map λ w=>V.ref w.2)))
theorem Zec {X:Cx}:Xk X (.builtin "sorted") rSortT:=by
  intro pins s σ H xs us Q I r h;obtain⟨a,ws,rfl,⟨ha,hw⟩,nd,h64,q⟩:=h;obtain⟨u,rfl,rx⟩:=X9 r;cases rx;obtain⟨its,rv,pl,hz⟩:=I.list (SqL.of ha);have hl:=pl.isList;have hln:its.length=ws.length:=by rw[<- rv.length,length_map]
  refine Calls.call_function_entry kind_sorted plain_sorted entry_sorted (args_sorted1 _) ?_;unfold Builtin.«sorted»;refine wpAny_bind (m:=checkCount "sorted" 1 1 _) (wpAny_pure ?_);refine wpAny_bind (collect_list hl ?_ (by rw[sizeLine_eq];omega));refine wpAny_bind (wpAny_newList ?_ (by rw[sizeLine_eq];omega));have hsz:((s.heap.push (seqObj "list" #[] 0)).update s.heap.objs.size (Obj.mapSeq (· ++ its.toArray))).objs.size=s.heap.objs.size+1:=by
    rw[Heap.size_update,size_push']
  have hoL:(((s.heap.push (seqObj "list" #[] 0)).update s.heap.objs.size (Obj.mapSeq (· ++ its.toArray))).push (seqObj "list" its.toArray 0)).get? (s.heap.objs.size+1)=some (seqObj "list" its.toArray 0):=by
    rw[<- hsz];exact Heap.get?_push_size _ rfl
  have keep:∀ b o,s.heap.get? b=some o->(((s.heap.push (seqObj "list" #[] 0)).update s.heap.objs.size (Obj.mapSeq (· ++ its.toArray))).push (seqObj "list" its.toArray 0)).get? b=some o:=λ b o q=>by
    have hlt:b<s.heap.objs.size:=Heap.lt_size q;rw[Heap.get?_push_ne _ _ _ (by rw[hsz];exact ne_of_lt (lt_succ_of_lt hlt)),Heap.get?_update_ne _ _ _ _ (ne_of_lt hlt),Heap.get?_push_ne _ _ _ (ne_of_lt hlt)];exact q
  have hT:∀ i,i<its.length->T3 s.heap (its.getD i Value.none) ((ws.map (·.1.1)).getD i default):=λ i hi=>by
    have hi':i<ws.length:=by omega
    obtain⟨u,e1,ru⟩:=rv.get (i:=i) (x:=.ref ws[i].2) (by rw[getElem?_map,getElem?_eq_getElem hi'];rfl);cases ru;obtain⟨its3,rv3,⟨o,f1,f2,n3,f3⟩,_⟩:=I.tuple (SqT.of (hw ws[i] (getElem_mem hi')));obtain⟨u1,u2,u3,rfl,r1,r2,r3⟩:∃ u1 u2 u3,its3=[u1,u2,u3]/\Zw (.str ws[i].1.1) u1/\Zw (.int ws[i].1.2.1) u2/\Zw (.int ws[i].1.2.2) u3:=by
      cases rv3 with
      |cons r1 q1=>
        cases q1 with
        |cons r2 q2=>
          cases q2 with
          |cons r3 q3=>
            cases q3;exact⟨_,_,_,rfl,r1,r2,r3⟩
    obtain⟨t1,rfl⟩:=r1;obtain⟨t2,rfl⟩:=r2;obtain⟨t3,rfl⟩:=r3;have g1:its.getD i Value.none = .ref ws[i].2:=by rw[List.getD_eq_getElem?_getD,e1];rfl
    have g2:(ws.map (·.1.1)).getD i default=ws[i].1.1:=by rw[List.getD_eq_getElem?_getD,getElem?_map,getElem?_eq_getElem hi'];rfl
    rw[g1,g2];exact⟨_,o,t1,_,_,t2,t3,n3,rfl,f1,f2,f3⟩
  show wpAny _ _ _ _ _ { s with heap:=((s.heap.push (seqObj "list" #[] 0)).update s.heap.objs.size (Obj.mapSeq (· ++ its.toArray))).push (seqObj "list" its.toArray 0) };rw[hsz];refine wpAny_bind (wpAny_holding (wpAny_call_entry slot_list_sort ⟨_,hoL,rfl⟩ entry_list_sort (Zd2 (ss:=ws.map (·.1.1)) hoL (by rw[length_map];exact hln) nd (λ i hi=>(hT i hi).kept λ b o e _=>keep b o e) (by omega) λ p hp hs=>⟨_,rfl,?_⟩) (args_list_sort _)));refine wpAny_pure ⟨_,rfl,?_⟩;have fr:H (s.heap.objs.size+1)=none:=I.hok.fresh (le_succ _);have pl2:p.toList.Perm (List.range its.length):=by have:=Array.perm_iff_toList_perm.mp hp;simpa using this
  have plt:∀ i∈p.toList,i<ws.length:=λ i hi=>by have:=pl2.mem_iff.mp hi;rw[List.mem_range]at this;omega
  let d0:En×Addr:=((default,0,0),0)
  have pw:(p.toList.map λ i=>ws.getD i d0).Perm ws:=by
    have z:=pl2.map (λ i=>ws.getD i d0);have e:(List.range its.length).map (λ i=>ws.getD i d0)=ws:=by
      rw[hln];apply List.ext_getElem
      . simp
      . intro i h1 h2;simp only[List.getElem_map,List.getElem_range];rw[List.getD_eq_getElem?_getD,getElem?_eq_getElem h2];rfl
    rw[e]at z;exact z
  have srt:sortedS ((p.toList.map λ i=>ws.getD i d0).map (·.1.1))=true:=by
    apply sortedS_of_pairwise;rw[List.pairwise_iff_getElem];intro i j hi hj hij;simp only[length_map]at hi hj;have hsz2:=hp.size;have hi':i<p.size:=by simpa using hi
    have hj':j<p.size:=by simpa using hj
    have z:=hs i j (le_of_lt hij) (by omega);have ek:∀ k (hk:k<p.size),soK (O:=strKind.toKeyOrd) (soS (ws.map (·.1.1))) p k=(ws.getD p[k] d0).1.1.cps.toList:=λ k hk=>by
      have hk2:p[k]<ws.length:=plt _ (by simp);unfold soK soS;have e1:p.getD k 0=p[k]:=by simp[Array.getD,hk]
      rw[e1,List.getD_eq_getElem?_getD,getElem?_map,List.getD_eq_getElem?_getD,getElem?_eq_getElem hk2];rfl
    rw[ek i hi',ek j hj']at z;simp only[List.getElem_map,Array.getElem_toList];rw[ltCps_eq];exact z
  refine⟨.ref (s.heap.objs.size+1),upd H (s.heap.objs.size+1) (.lst ((p.toList.map λ i=>ws.getD i d0).map λ w=>V.ref w.2)),?_,rfl,q _ _ pw srt fr⟩;obtain⟨en,hen⟩:=sortedHeap_at (a:=s.heap.objs.size+1) (vs:=its) (out:=List.toArray (p.toList.map λ i=>its.getD i Value.none)) hoL;refine I.laid (t':=s.toks) (λ b u e=>?_) (le_succ _) ⟨?_,_,en,?_,hen⟩
  . have hlt:b<s.heap.objs.size:=Heap.lt_size e;refine(sortedHeap_old (ne_of_lt (lt_succ_of_lt hlt)) (by rw[Heap.size_push,hsz];exact lt_succ_of_lt (lt_succ_of_lt hlt))).trans (keep b u e)
  . rw[length_map,pw.length_eq,<- length_map (f:=λ w:En×Addr=>V.ref w.2)];exact hz
  . have go:∀ l:List Nat,(∀ i∈l,i<ws.length)->ZF ((l.map λ i=>ws.getD i d0).map λ w=>V.ref w.2) (l.map λ i=>its.getD i Value.none):=by
      intro l
      induction l with
      |nil=>exact λ _ => .nil
      |cons i r ih=>
        intro hl';have hi':=hl' i (.head _);obtain⟨u,e1,ru⟩:=rv.get (i:=i) (x:=.ref ws[i].2) (by rw[getElem?_map,getElem?_eq_getElem hi'];rfl);refine .cons ?_ (ih λ j hj=>hl' j (.tail _ hj));dsimp only;rw[List.getD_eq_getElem?_getD,getElem?_eq_getElem hi',List.getD_eq_getElem?_getD,e1];exact ru
    exact go _ plt
end L2
namespace L2
open PySem PySem.Spec PyProof.Rows
theorem ZgN {x:Str}(h:46∉x.cps.toList):up x=Str.empty:=by
  unfold up;rcases StrLaws.last_spec x dot with ⟨e,_⟩|⟨i,e,z,_⟩
  . rw[e]
  . exact absurd (mem_of_getElem? ((at_iff x i).mp z)) h
theorem Zb9 {x:Str}(h:46∈x.cps.toList):Txt.slice x none (some (match Builtin.Str.lastOccurrence x dot 0 x.length with|some i=>(i:Int)|none => -1))=up x:=by
  unfold up;rcases StrLaws.last_spec x dot with ⟨e,z⟩|⟨i,e,z,_⟩
  . obtain⟨i,hi⟩:=List.mem_iff_getElem?.mp h;exact absurd ((at_iff x i).mpr hi) (z i)
  . rw[e];refine Yp ?_;show(Txt.slice x none (some (i:Int))).cps.toList=(Builtin.Str.strSub x 0 i).cps.toList;rw[cut_to,StrLaws.strSub_toList];simp
theorem Zfq {us:List Ut}{ws ws':Ws}(nd:(us.map (·.1)).Nodup)(e:ws.map (·.1)=us.map ue)(p:ws'.Perm ws)(s:sortedS (ws'.map (·.1.1))=true):Can (us.map ue) (ws'.map (·.1)):=by
  have pe:(ws'.map (·.1)).Perm (us.map ue):=by rw[<- e];exact p.map _
  have ek:(ws'.map (·.1.1))=Yf (ws'.map (·.1)):=by unfold Yf;rw[map_map];rfl
  have nd2:(ws'.map (·.1.1)).Nodup:=by
    rw[ek];have z:(Yf (ws'.map (·.1))).Perm (us.map (·.1)):=by rw[<- Za8];exact pe.map _
    exact z.nodup_iff.mpr nd
  have r:=Zep s nd2;rw[ek]at r;unfold Yf at r;rw[List.pairwise_map]at r;refine⟨r,λ x=>⟨λ hx=>?_,λ hx=>pe.mem_iff.mpr hx.1⟩,Nat.le_of_eq pe.length_eq⟩;have hx2:=pe.mem_iff.mp hx;obtain⟨u,_,rfl⟩:=List.mem_map.mp hx2;exact⟨hx2,by show(1:Int)≠0;decide⟩
theorem led_ws {H:Hp}{l:Addr}{ws ws':Ws}{es:List En}(h:LedW H l ws)(p:ws'.Perm ws){l':Addr}(hl:H l'=none):Led (upd H l' (.lst (ws'.map λ w=>V.ref w.2))) l' (ws'.map (·.1)):=
  ⟨ws',rfl,Zb,λ w hw=>by
    have z:=h.2 w (p.mem_iff.mp hw);rw[Zc (Zk z hl)];exact z⟩
noncomputable def stN (a b:Nat):Str:=(Str.ofString "strang"++(⟨#[97+a]⟩:Str))++(⟨#[97+b]⟩:Str)
noncomputable def stL:List Str:=(List.range 26).flatMap λ a=>(List.range 3).map λ b=>stN a b
theorem stL_nd:stL.Nodup:=by decide +kernel
theorem Zh9:stL.length=78:=by decide +kernel
theorem az_at {i c:Nat}(h:(Str.ofString "abcdefghijklmnopqrstuvwxyz").cps[i]? = some c):i<26/\c=97+i:=by
  have hi:i<26:=by
    rcases lt_or_ge i 26 with z|z
    . exact z
    . rw[Array.getElem?_eq_none (by show(Str.ofString "abcdefghijklmnopqrstuvwxyz").cps.size<=i;rw[show(Str.ofString "abcdefghijklmnopqrstuvwxyz").cps.size=26 by decide +kernel];exact z)]at h;cases h
  have t:∀ j<26,(Str.ofString "abcdefghijklmnopqrstuvwxyz").cps[j]? = some (97+j):=by decide +kernel
  rw[t i hi]at h;exact⟨hi,(Option.some.inj h).symm⟩
theorem ZiQ {i c:Nat}(h:(Str.ofString "abc").cps[i]? = some c):i<3/\c=97+i:=by
  have hi:i<3:=by
    rcases lt_or_ge i 3 with z|z
    . exact z
    . rw[Array.getElem?_eq_none (by show(Str.ofString "abc").cps.size<=i;rw[show(Str.ofString "abc").cps.size=3 by decide +kernel];exact z)]at h;cases h
  have t:∀ j<3,(Str.ofString "abc").cps[j]? = some (97+j):=by decide +kernel
  rw[t i hi]at h;exact⟨hi,(Option.some.inj h).symm⟩
theorem st_all {S:Mo}(hl:S.bs.length<60)(h:∀ a<26,∀ b<3,has S.bs (stN a b)=true):False:=by
  have z:=Xg stL_nd (m:=S.bs.map (·.1)) (λ x hx=>by
    unfold stL at hx;obtain⟨a,ha,hx⟩:=List.mem_flatMap.mp hx;obtain⟨b,hb,rfl⟩:=List.mem_map.mp hx;exact(Z2 S.bs _).mp (h a (List.mem_range.mp ha) b (List.mem_range.mp hb)))
  rw[Zh9,length_map]at z;omega
noncomputable def run (S:Mo)(ds:List Deed)(i:Nat):Mo:=(ds.take i).foldl Mo.step S
theorem Zg3 {S:Mo}{ds:List Deed}{i:Nat}{d:Deed}(h:ds[i]? = some d):run S ds (i+1)=(run S ds i).step d:=by
 unfold run;rw[take_succ,h,List.foldl_append];rfl
theorem J1 (x:Str):∀(k:Nat)(S:Mo),((List.replicate k (Deed.birth x)).foldl Mo.step S).ds=S.ds/\∀ n,has S.bs n=true->has ((List.replicate k (Deed.birth x)).foldl Mo.step S).bs n=true
  |0,S=>⟨rfl,λ _ h=>h⟩
  | k+1,S=>by
    obtain⟨a,b⟩:=J1 x k (S.step (.birth x));refine⟨a,λ n hn=>b n ?_⟩;show has (S.bs++[_]) n=true;rw[ZK,hn];rfl
theorem Zfg {S:Mo}{H H':Hp}{l:Addr}{far:Int}(h:H' l=some (.lst [])\/∃(x:Str)(ps:List Addr)(pd:Addr),has S.bs x=true/\has S.ds x=false/\ZN x<5/\ps.length=12/\H' l=some (.lst ((ps++[pd]).map V.ref))/\(∀ p∈ps,H' p=some (.tup [.str "birth", .str x])/\H p=none)/\H' pd=some (.tup [.str "death", .str x])/\H pd=none) :
    ∃(ds:List Deed)(ps:List Addr),DeedsAt H' l ds ps/\(∀ i d,ds[i]? = some d->(run S ds i).good far d)/\ds.length<=13/\∀ p∈ps,H p=none:=by
  rcases h with h|⟨x,ps,pd,h1,h2,h3,h4,h5,h6,h7,h8⟩
  . exact⟨[],[],⟨h,rfl,(λ i p d e=>by cases e)⟩,(λ i d e=>by cases e),by decide,λ _ e=>nomatch e⟩
  refine⟨List.replicate 12 (.birth x)++[.death x],ps++[pd],⟨h5,by rw[length_append,h4];rfl,λ i p d e1 e2=>?_⟩,λ i d e=>?_,by rw[length_append,length_replicate];exact le_refl _,λ p hp=>?_⟩
  . rcases lt_or_ge i 12 with z|z
    . rw[getElem?_append_left (by omega)]at e1;rw[getElem?_append_left (by rw[length_replicate];exact z),List.getElem?_replicate,if_pos z]at e2;cases e2;exact(h6 p (mem_of_getElem? e1)).1
    . rw[getElem?_append_right (by omega),h4]at e1;rw[getElem?_append_right (by rw[length_replicate];exact z),length_replicate]at e2;cases hk:i - 12 with
      |zero=>rw[hk]at e1 e2;cases e1;cases e2;exact h7
      |succ k=>rw[hk]at e1;cases e1
  . rcases lt_or_ge i 12 with z|z
    . rw[getElem?_append_left (by rw[length_replicate];exact z),List.getElem?_replicate,if_pos z]at e;cases e;have er:run S (List.replicate 12 (.birth x)++[.death x]) i=(List.replicate i (Deed.birth x)).foldl Mo.step S:=by
        unfold run;rw[List.take_append_of_le_length (by rw[length_replicate];omega),List.take_replicate,Nat.min_eq_left (by omega)]
      rw[er];obtain⟨a,b⟩:=J1 x i S;exact⟨b x h1,by rw[a];exact h2,h3⟩
    . rw[getElem?_append_right (by rw[length_replicate];exact z),length_replicate]at e;cases hk:i - 12 with
      |succ k=>rw[hk]at e;cases e
      |zero=>
        rw[hk]at e;cases e;have er:run S (List.replicate 12 (.birth x)++[.death x]) i=(List.replicate 12 (Deed.birth x)).foldl Mo.step S:=by
          unfold run;rw[show i=12 by omega,List.take_left' (length_replicate)]
        rw[er];obtain⟨a,b⟩:=J1 x 12 S;exact⟨b x h1,by rw[a];exact h2⟩
  . rcases List.mem_append.mp hp with z|z
    . exact(h6 p z).2
    . rw[List.mem_singleton.mp z];exact h8
theorem Zg2 {S:Mo}(h:Zeh S)(ds:List Deed)(i:Nat):Zeh (run S ds i):=by
  unfold run;generalize ds.take i=es
  induction es generalizing S with
  |nil=>exact h
  |cons d r ih=>exact ih (h.step d)
theorem no99 {bs ds:List (Str×Int)}{x:Str}(W:Wf bs ds)(h:bs.length<90):has bs (x++Str.ofString ".99")=false:=by
  have e:x++Str.ofString ".99"=kid x 98:=by
    refine Yp ?_;unfold kid;rw[Yh,Yh,Yh,Zdl,append_assoc,show(Str.ofString ".99").cps.toList=[46]++(toString (((98:Nat):Int)+1):Str).cps.toList by decide +kernel]
  rw[e];cases hb:has bs (kid x 98) with
  |false=>rfl
  |true=>
    have a:=(W.cnt x 98 (by decide)).mp hb;have b:=W.few x;omega
end L2
namespace L2
open PySem PySem.Spec PyProof.Rows
theorem us0 (us:List Value)(h:us.length=0):us=[]:=List.eq_nil_of_length_eq_zero h
theorem us1 (us:List Value)(h:us.length=1):∃ a0,us=[a0]:=by
  cases us with
  |nil=>cases h
  |cons a0 us=>exact⟨a0,by rw[us0 us (Nat.succ.inj h)]⟩
theorem us2 (us:List Value)(h:us.length=2):∃ a0 a1,us=[a0,a1]:=by
  cases us with
  |nil=>cases h
  |cons a0 us=>
    obtain⟨a1,e⟩:=us1 us (Nat.succ.inj h);exact⟨a0,a1,by rw[e]⟩
theorem us3 (us:List Value)(h:us.length=3):∃ a0 a1 a2,us=[a0,a1,a2]:=by
  cases us with
  |nil=>cases h
  |cons a0 us=>
    obtain⟨a1,a2,e⟩:=us2 us (Nat.succ.inj h);exact⟨a0,a1,a2,by rw[e]⟩
theorem us4 (us:List Value)(h:us.length=4):∃ a0 a1 a2 a3,us=[a0,a1,a2,a3]:=by
  cases us with
  |nil=>cases h
  |cons a0 us=>
    obtain⟨a1,a2,a3,e⟩:=us3 us (Nat.succ.inj h);exact⟨a0,a1,a2,a3,by rw[e]⟩
theorem h_ {j k:Nat}{A:Around}(h:Room k A)(e:j<=k:=by decide):Room j A:=h.mono e
noncomputable def GlP (K:Frag)(x:Str)(st:Stmt):Prop:=∃ f,nsIn K mainGlobals x=some (some (.ref f))/\∃ fd,Fun K x x st f fd
noncomputable def MtP (K:Frag)(C:Addr)(x q:Str)(st:Stmt):Prop:=∃ f,findIn K (.ref C) x=some (some (.ref f))/\isFn K (.ref f)=true/\∃ fd,Fun K x q st f fd
section
variable {K:Frag}{x q:Str}{st:Stmt}{f C:Addr}{oc:Value}{od an:Option Addr}{osl:Array (Option Value)}{kV doc pm cdv ct:Value}{fd:FuncData}
theorem glp_mk (a:nsIn K mainGlobals x=some (some (.ref f)))(l:K.lookup f=some ⟨oc,od, .func (fnOf x x (Xs st) (ZY st) (Zh st) .none kV doc pm an cdv ct),osl⟩)(c:codeIn K cdv x=true)(k:keepIn K (.ref f)=true):GlP K x st:=⟨f,a,_,ZhL l c k⟩
theorem mtp_mk (a:findIn K (.ref C) x=some (some (.ref f)))(i:isFn K (.ref f)=true)(l:K.lookup f=some ⟨oc,od, .func (fnOf x q (Xs st) (ZY st) (Zh st) .none kV doc pm an cdv ct),osl⟩)(c:codeIn K cdv q=true)(k:keepIn K (.ref f)=true):MtP K C x q st:=⟨f,a,i,_,ZhL l c k⟩
variable {P:Program}{w:World}{mg:Str->Option Value}{base h:Heap}{k:Nat}{ps:List Str}{sp:Sp}{CX:CXT}
noncomputable abbrev BinT (x q:Str)(st:Stmt)(ps:List Str):Prop:=∀(kV doc pm:Value)(an:Option Addr)(cdv ct:Value)(us:List Value),us.length=ps.length->bindArgs (fnOf x q (Xs st) (ZY st) (Zh st) .none kV doc pm an cdv ct) ⟨us,[]⟩=pure (ps.zip us)
theorem ZQ (X:K.In h)(G:h.Ns mainGlobals mg)(p:GlP K x st)(ok:∀ {f:Addr} {fd:FuncData},Fun K x x st f fd->FnOk P w K mg base CX0 k f fd ps sp)(b:BinT x x st ps):Dn P w K mg base k x ps sp:=by
 obtain⟨f,a,fd,F⟩:=p;exact⟨f,fd,ok F,mg_of X G a,F.kp,F.binds b⟩
theorem Ze5 {N:List Str}{d:Nat}{sq:Nat->Sp}(X:K.In h)(G:h.Ns mainGlobals mg)(p:GlP K x st)(S:FnScope N ps (Zh st))(h0:∀ vs H Q E,¬ sq 0 vs H Q E)(ok:∀ {f:Addr} {fd:FuncData} {j:Nat},Fun K x x st f fd->Dn P w K mg base (d+1+j) x ps (sq j)->FnOk P w K mg base CX0 (d+1+j+1) f fd ps (sq (j+1)))(b:BinT x x st ps):∀ j,Dn P w K mg base (d+1+j) x ps (sq j)
  |0=>ZQ X G p (λ F=>F.ok S (λ vs H Q E z=>absurd z (h0 vs H Q E)) (λ cdv A outer s H vs Q E hr z=>absurd z (h0 vs H Q E))) b
  |j+1=>ZQ X G p (λ F=>ok F (Ze5 X G p S h0 ok b j)) b
theorem ZfZ (X:K.In h)(G:h.Ns mainGlobals mg)(p:GlP K x st)(ok:∀ {f:Addr} {fd:FuncData},Fun K x x st f fd->FnOk P w K mg base (CXR P w base) k f fd ps sp)(b:BinT x x st ps):Dx P w K mg base k x ps sp:=by
 obtain⟨f,a,fd,F⟩:=p;exact⟨f,fd,ok F,mg_of X G a,F.kp,F.binds b⟩
theorem YO (c:Cls K C)(p:MtP K C x q st)(ok:∀ {f:Addr} {fd:FuncData},Fun K x q st f fd->FnOk P w K mg base CX k f fd ps sp)(b:BinT x q st ps):Dm P w K mg base CX C k x ps sp:=by
 obtain⟨f,a,i,fd,F⟩:=p;exact⟨c,f,fd,ok F,⟨a,i,F.kp⟩,F.binds b⟩
theorem dk_mt {y:Str}(m:mg y=some (.ref C))(mk:makesIn K C=true)(kc:keepIn K (.ref C)=true)(p:MtP K C "__init__" q st)(ok:∀ {f:Addr} {fd:FuncData},Fun K "__init__" q st f fd->FnOk P w K mg base CX k f fd ps sp)(b:BinT "__init__" q st ps):Dk P w K mg base CX C k y ps sp:=by
 obtain⟨f,a,i,fd,F⟩:=p;exact⟨m,f,fd,ok F,⟨mk,a,i,kc⟩,F.binds b⟩
theorem la_gl {l:Str}(X:K.In h)(G:h.Ns mainGlobals mg){fa:Addr}(hfa:mg x=some (.ref fa))(p:GlP K x st)(b:∀(kV doc pm:Value)(an:Option Addr)(cdv ct:Value)(s:Shared)(v:Value),BindsTo s (fnOf x x (Xs st) (ZY st) (Zh st) .none kV doc pm an cdv ct) ⟨[v],[]⟩ [(l,v)]):∃ fd,(∀(s:Shared)(v:Value),BindsTo s fd ⟨[v],[]⟩ [(l,v)])/\Fun K x x st fa fd:=by
 obtain⟨f,a,fd,F⟩:=p;have e:=hfa.symm.trans (mg_of X G a);cases e;refine⟨fd,?_,F⟩;obtain⟨oc,od,kV,doc,pm,an,cdv,ct,osl,rfl,lk,hcd⟩:=F.ex;exact b kV doc pm an cdv ct
end
theorem walkX_of {q:Program}{loose:List Str}{XP:(Str->Option Value)->Heap->Prop}{K:Params->Frag}{as:List Addr}{n t:Nat}{r:PySem.W.RowW}{d:DefRec}{kwd:List (Str×Expr)}{run:Value->List Value->Sem Value}(e:∀ P,as=(K P).map (·.1))(h:PySem.W.WalkO q loose XP (λ w h=>(K w.params).In h) r d kwd run):PySem.W.WalkX q loose XP (PySem.W.X.obsZ as) (PySem.W.X.valZ K n t) r d kwd run:=
  λ w s₀ s₁ mg mb G y a o pm cd doc dV kV h1 h2 h3 h4 h5 h6 args vals as' L hpre hlay hrd hwl hlo=>
    h w s₀ s₁ mg mb G (PySem.W.InK.keeps w _ _ (PySem.W.X.z_facts e y).2.1 L.keeps) a o pm cd doc dV kV h1 h2 h3 h4 h5 h6 args vals as' hpre hlay hrd hwl hlo
end L2
set_option maxHeartbeats 0
namespace My
open PySem L2
noncomputable def top (i:Nat):Stmt:=PySem.Challenge.pw_deadhand_k19_heirs_by_stems.main.body.getD i (.Pass ⟨0,0,0,0⟩)
noncomputable def Yw (s:Stmt)(j:Nat):Stmt:=match s with
  |.ClassDef _ _ _ body _ _ _ _ _ _ _=>body.getD j (.Pass ⟨0,0,0,0⟩)
  |_ => .Pass ⟨0,0,0,0⟩
noncomputable def ZiI (s:Stmt):List Stmt:=match s with
  |.For _ _ b _ _=>b
  |.While _ b _ _=>b
  |.If _ b _ _=>b
  |_=>[]
noncomputable abbrev Zco:Stmt:=top 14
theorem Zda:FnScope ["text","low","high","sign"] ["text","low","high"] (Zh Zco):=⟨rfl,rfl,rfl,by decide +kernel,rfl,by decide +kernel,by decide +kernel⟩
noncomputable abbrev JH:Stmt:=top 15
theorem ZdB:FnScope ["word"] ["word"] (Zh JH):=⟨rfl,rfl,rfl,by decide +kernel,rfl,by decide +kernel,by decide +kernel⟩
noncomputable abbrev JA:Stmt:=top 16
theorem Zdw:FnScope ["word"] ["word"] (Zh JA):=⟨rfl,rfl,rfl,by decide +kernel,rfl,by decide +kernel,by decide +kernel⟩
noncomputable abbrev Xw:Stmt:=top 17
theorem Zce:FnScope ["text"] ["text"] (Zh Xw):=⟨rfl,rfl,rfl,by decide +kernel,rfl,by decide +kernel,by decide +kernel⟩
noncomputable abbrev ZdE:Stmt:=top 18
theorem ZaS:FnScope ["name","word","numbers","number"] ["name"] (Zh ZdE):=⟨rfl,rfl,rfl,by decide +kernel,rfl,by decide +kernel,by decide +kernel⟩
noncomputable abbrev JB:Stmt:=top 19
theorem Zdx:FnScope ["name"] ["name"] (Zh JB):=⟨rfl,rfl,rfl,by decide +kernel,rfl,by decide +kernel,by decide +kernel⟩
noncomputable abbrev JC:Stmt:=top 20
theorem Zdy:FnScope ["name"] ["name"] (Zh JC):=⟨rfl,rfl,rfl,by decide +kernel,rfl,by decide +kernel,by decide +kernel⟩
noncomputable abbrev YB:Stmt:=Yw (top 21) 0
theorem ZaW:FnScope ["self"] ["self"] (Zh YB):=⟨rfl,rfl,rfl,by decide +kernel,rfl,by decide +kernel,by decide +kernel⟩
noncomputable abbrev XC:Stmt:=Yw (top 21) 2
theorem Zck:FnScope ["self","name","year"] ["self","name","year"] (Zh XC):=⟨rfl,rfl,rfl,by decide +kernel,rfl,by decide +kernel,by decide +kernel⟩
noncomputable abbrev XB:Stmt:=Yw (top 21) 8
theorem Zcj:FnScope ["self","name"] ["self","name"] (Zh XB):=⟨rfl,rfl,rfl,by decide +kernel,rfl,by decide +kernel,by decide +kernel⟩
noncomputable abbrev Yj:Stmt:=Yw (top 21) 3
theorem Zab:FnScope ["self","name"] ["self","name"] (Zh Yj):=⟨rfl,rfl,rfl,by decide +kernel,rfl,by decide +kernel,by decide +kernel⟩
noncomputable abbrev XF:Stmt:=Yw (top 21) 9
theorem Zcm:FnScope ["self","name"] ["self","name"] (Zh XF):=⟨rfl,rfl,rfl,by decide +kernel,rfl,by decide +kernel,by decide +kernel⟩
noncomputable abbrev Yk:Stmt:=Yw (top 21) 4
theorem Zac:FnScope ["self","name"] ["self","name"] (Zh Yk):=⟨rfl,rfl,rfl,by decide +kernel,rfl,by decide +kernel,by decide +kernel⟩
noncomputable abbrev Xb:Stmt:=Yw (top 21) 5
theorem ZbI:FnScope ["self","word","born"] ["self","word","born"] (Zh Xb):=⟨rfl,rfl,rfl,by decide +kernel,rfl,by decide +kernel,by decide +kernel⟩
noncomputable abbrev XE:Stmt:=Yw (top 21) 6
theorem Jz:FnScope ["self","name","year","child"] ["self","name","year"] (Zh XE):=⟨rfl,rfl,rfl,by decide +kernel,rfl,by decide +kernel,by decide +kernel⟩
noncomputable abbrev XD:Stmt:=Yw (top 21) 7
theorem Zcl:FnScope ["self","name","year"] ["self","name","year"] (Zh XD):=⟨rfl,rfl,rfl,by decide +kernel,rfl,by decide +kernel,by decide +kernel⟩
noncomputable abbrev Xc:Stmt:=Yw (top 21) 12
theorem ZbJ:FnScope ["self","name","year"] ["self","name","year"] (Zh Xc):=⟨rfl,rfl,rfl,by decide +kernel,rfl,by decide +kernel,by decide +kernel⟩
noncomputable abbrev YA:Stmt:=Yw (top 21) 13
theorem ZaV:FnScope ["self","name"] ["self","name"] (Zh YA):=⟨rfl,rfl,rfl,by decide +kernel,rfl,by decide +kernel,by decide +kernel⟩
noncomputable abbrev XA:Stmt:=Yw (top 21) 14
theorem Zci:FnScope ["self"] ["self"] (Zh XA):=⟨rfl,rfl,rfl,by decide +kernel,rfl,by decide +kernel,by decide +kernel⟩
noncomputable abbrev Zcs:Stmt:=top 24
theorem Zdc:FnScope ["one","other"] ["one","other"] (Zh Zcs):=⟨rfl,rfl,rfl,by decide +kernel,rfl,by decide +kernel,by decide +kernel⟩
noncomputable abbrev Zcp:Stmt:=top 25
theorem Zdb:FnScope ["num","den","divisor"] ["num","den"] (Zh Zcp):=⟨rfl,rfl,rfl,by decide +kernel,rfl,by decide +kernel,by decide +kernel⟩
noncomputable abbrev Ze3:Stmt:=top 26
theorem Zic:FnScope ["one","other"] ["one","other"] (Zh Ze3):=⟨rfl,rfl,rfl,by decide +kernel,rfl,by decide +kernel,by decide +kernel⟩
noncomputable abbrev ZdD:Stmt:=top 27
theorem Zg1:FnScope ["one","other"] ["one","other"] (Zh ZdD):=⟨rfl,rfl,rfl,by decide +kernel,rfl,by decide +kernel,by decide +kernel⟩
noncomputable abbrev JD:Stmt:=top 28
theorem Zdz:FnScope ["held"] ["held"] (Zh JD):=⟨rfl,rfl,rfl,by decide +kernel,rfl,by decide +kernel,by decide +kernel⟩
noncomputable abbrev ZdF:Stmt:=top 29
theorem Y6:FnScope ["ledgers","held","ledger","name","num","den","part"] ["ledgers"] (Zh ZdF):=⟨rfl,rfl,rfl,by decide +kernel,rfl,by decide +kernel,by decide +kernel⟩
noncomputable abbrev Ze4:Stmt:=top 31
theorem ZbW:FnScope ["lives","name","stems","filled"] ["lives","name"] (Zh Ze4):=⟨rfl,rfl,rfl,by decide +kernel,rfl,by decide +kernel,by decide +kernel⟩
noncomputable abbrev ZdG:Stmt:=top 32
theorem ZaT:FnScope ["lives","name","root","found"] ["lives","name"] (Zh ZdG):=⟨rfl,rfl,rfl,by decide +kernel,rfl,by decide +kernel,by decide +kernel⟩
noncomputable abbrev Y7:Stmt:=top 37
theorem ZbF:FnScope ["number","low","high"] ["number","low","high"] (Zh Y7):=⟨rfl,rfl,rfl,by decide +kernel,rfl,by decide +kernel,by decide +kernel⟩
noncomputable abbrev Yz:Stmt:=Yw (top 38) 0
theorem ZaU:FnScope ["self","year"] ["self","year"] (Zh Yz):=⟨rfl,rfl,rfl,by decide +kernel,rfl,by decide +kernel,by decide +kernel⟩
noncomputable abbrev Yi:Stmt:=Yw (top 38) 2
theorem Zaa:FnScope ["self","many"] ["self","many"] (Zh Yi):=⟨rfl,rfl,rfl,by decide +kernel,rfl,by decide +kernel,by decide +kernel⟩
noncomputable abbrev Xa:Stmt:=Yw (top 38) 3
theorem ZbH:FnScope ["self","word","age"] ["self","word","age"] (Zh Xa):=⟨rfl,rfl,rfl,by decide +kernel,rfl,by decide +kernel,by decide +kernel⟩
noncomputable abbrev Xz:Stmt:=Yw (top 38) 4
theorem Zch:FnScope ["self","name"] ["self","name"] (Zh Xz):=⟨rfl,rfl,rfl,by decide +kernel,rfl,by decide +kernel,by decide +kernel⟩
noncomputable abbrev Xx:Stmt:=Yw (top 38) 5
theorem Zcf:FnScope ["self","name"] ["self","name"] (Zh Xx):=⟨rfl,rfl,rfl,by decide +kernel,rfl,by decide +kernel,by decide +kernel⟩
noncomputable abbrev Xy:Stmt:=Yw (top 38) 6
theorem Zcg:FnScope ["self","word"] ["self","word"] (Zh Xy):=⟨rfl,rfl,rfl,by decide +kernel,rfl,by decide +kernel,by decide +kernel⟩
noncomputable abbrev JI:Stmt:=Yw (top 38) 8
theorem ZdC:FnScope ["self","name"] ["self","name"] (Zh JI):=⟨rfl,rfl,rfl,by decide +kernel,rfl,by decide +kernel,by decide +kernel⟩
noncomputable abbrev Zbb:Stmt:=top 40
theorem Ze2:FnScope ["_law_found"] ["_law_found"] (Zh Zbb):=⟨rfl,rfl,rfl,by decide +kernel,rfl,by decide +kernel,by decide +kernel⟩
noncomputable abbrev Xv:Stmt:=top 41
theorem Zcd:FnScope ["_law_script","_law_k"] ["_law_script","_law_k"] (Zh Xv):=⟨rfl,rfl,rfl,by decide +kernel,rfl,by decide +kernel,by decide +kernel⟩
noncomputable abbrev Zaw:Stmt:=top 42
theorem Jx:FnScope ["_law_cell","_law_place","_law_one","_law_two"] ["_law_cell","_law_place"] (Zh Zaw):=⟨rfl,rfl,rfl,by decide +kernel,rfl,by decide +kernel,by decide +kernel⟩
noncomputable abbrev Zav:Stmt:=top 43
theorem Z5:FnScope ["_law_n","_law_size","_law_word_here","_law_k"] ["_law_n"] (Zh Zav):=⟨rfl,rfl,rfl,by decide +kernel,rfl,by decide +kernel,by decide +kernel⟩
noncomputable abbrev XZ:Stmt:=top 44
theorem Zak:FnScope ["_law_a","_law_b"] ["_law_a","_law_b"] (Zh XZ):=⟨rfl,rfl,rfl,by decide +kernel,rfl,by decide +kernel,by decide +kernel⟩
noncomputable abbrev Zbc:Stmt:=top 45
theorem Zcc:FnScope ["_law_num_here","_law_den","_law_by"] ["_law_num_here","_law_den"] (Zh Zbc):=⟨rfl,rfl,rfl,by decide +kernel,rfl,by decide +kernel,by decide +kernel⟩
noncomputable abbrev Y9:Stmt:=top 46
theorem ZbG:FnScope ["_law_found"] ["_law_found"] (Zh Y9):=⟨rfl,rfl,rfl,by decide +kernel,rfl,by decide +kernel,by decide +kernel⟩
noncomputable abbrev YT:Stmt:=top 47
theorem Z0:FnScope ["_law_found","_law_last","_law_k","_law_entry"] ["_law_found"] (Zh YT):=⟨rfl,rfl,rfl,by decide +kernel,rfl,by decide +kernel,by decide +kernel⟩
noncomputable abbrev JF:Stmt:=top 48
theorem ZdA:FnScope ["_law_year"] ["_law_year"] (Zh JF):=⟨rfl,rfl,rfl,by decide +kernel,rfl,by decide +kernel,by decide +kernel⟩
noncomputable abbrev ZaA:Stmt:=top 49
theorem Zbt:FnScope ["_law_model_here","_law_name","_law_found"] ["_law_model_here","_law_name"] (Zh ZaA):=⟨rfl,rfl,rfl,by decide +kernel,rfl,by decide +kernel,by decide +kernel⟩
noncomputable abbrev XY:Stmt:=top 50
theorem ZcZ:FnScope ["_law_model_here"] ["_law_model_here"] (Zh XY):=⟨rfl,rfl,rfl,by decide +kernel,rfl,by decide +kernel,by decide +kernel⟩
noncomputable abbrev Zax:Stmt:=top 51
theorem YJ:FnScope ["_law_model_here","_law_deed","_law_clock","_law_born","_law_dead","_law_came"] ["_law_model_here","_law_deed"] (Zh Zax):=⟨rfl,rfl,rfl,by decide +kernel,rfl,by decide +kernel,by decide +kernel⟩
noncomputable abbrev Zx:Stmt:=top 52
theorem ZH:FnScope ["_law_model_here","_law_n","_law_far","_law_some","_law_kind","_law_word_here","_law_name"] ["_law_model_here","_law_n","_law_far"] (Zh Zx):=⟨rfl,rfl,rfl,by decide +kernel,rfl,by decide +kernel,by decide +kernel⟩
noncomputable abbrev JE:Stmt:=top 53
theorem Z9:FnScope ["_law_n","_law_deeds","_law_words","_law_k","_law_word_here"] ["_law_n"] (Zh JE):=⟨rfl,rfl,rfl,by decide +kernel,rfl,by decide +kernel,by decide +kernel⟩
noncomputable abbrev Zcq:Stmt:=top 54
theorem Zgi:FnScope ["_law_world","_law_deed"] ["_law_world","_law_deed"] (Zh Zcq):=⟨rfl,rfl,rfl,by decide +kernel,rfl,by decide +kernel,by decide +kernel⟩
noncomputable abbrev Zaz:Stmt:=top 55
theorem ZO:FnScope ["_law_model_here","_law_name","_law_num_here","_law_den","_law_below","_law_found","_law_one","_law_heir","_law_top","_law_low_here","_law_part"] ["_law_model_here","_law_name","_law_num_here","_law_den"] (Zh Zaz):=⟨rfl,rfl,rfl,by decide +kernel,rfl,by decide +kernel,by decide +kernel⟩
noncomputable abbrev JG:Stmt:=top 56
theorem Y1:FnScope ["_law_model_here","_law_name","_law_found"] ["_law_model_here","_law_name"] (Zh JG):=⟨rfl,rfl,rfl,by decide +kernel,rfl,by decide +kernel,by decide +kernel⟩
noncomputable abbrev Y8:Stmt:=top 57
theorem YS:FnScope ["_law_model_here","_law_one","_law_two"] ["_law_model_here"] (Zh Y8):=⟨rfl,rfl,rfl,by decide +kernel,rfl,by decide +kernel,by decide +kernel⟩
noncomputable abbrev Xu:Stmt:=top 58
theorem Zcb:FnScope ["_law_world","_law_name"] ["_law_world","_law_name"] (Zh Xu):=⟨rfl,rfl,rfl,by decide +kernel,rfl,by decide +kernel,by decide +kernel⟩
noncomputable abbrev Zay:Stmt:=top 59
theorem Jy:FnScope ["_law_model_here","_law_n","_law_some","_law_name"] ["_law_model_here","_law_n"] (Zh Zay):=⟨rfl,rfl,rfl,by decide +kernel,rfl,by decide +kernel,by decide +kernel⟩
noncomputable abbrev Zcr:Stmt:=top 60
theorem Yd:FnScope ["_law_script","_law_n","_law_model_here","_law_world","_law_deeds","_law_k","_law_m","_law_deed","_law_names","_law_name","_law_found"] ["_law_script"] (Zh Zcr):=⟨rfl,rfl,rfl,by decide +kernel,rfl,by decide +kernel,by decide +kernel⟩
structure Txt (K:Frag)(g:Ga)(mg:Str->Option Value):Prop where
  z_isinstance:mg "isinstance"=none
  z_int:mg "int"=none
  z_bool:mg "bool"=none
  z_tuple:mg "tuple"=none
  z_len:mg "len"=none
  z_range:mg "range"=none
  z_list:mg "list"=none
  z_str:mg "str"=none
  z_min:mg "min"=none
  z_max:mg "max"=none
  z_sorted:mg "sorted"=none
  z_enumerate:mg "enumerate"=none
  Qc2:mg "ValueError"=none
  Qc3:mg "LandError"=some (.ref g.LandError)
  QaW:mg "NoText"=some (.ref g.NoText)
  QcD:mg "OutOfBound"=some (.ref g.OutOfBound)
  Qci:mg "Taken"=some (.ref g.Taken)
  Qcj:mg "NoPerson"=some (.ref g.NoPerson)
  QcE:mg "Gone"=some (.ref g.Gone)
  QcF:mg "TooDeep"=some (.ref g.TooDeep)
  QcG:XAt K g.Gone
  QcH:XAt K g.NoPerson
  e_NoPerson_NoPerson:PySem.W.exmOne K (.ref g.NoPerson) (.ref g.NoPerson)=some true
  QaX:XAt K g.NoText
  QcI:XAt K g.OutOfBound
  Qck:XAt K g.Taken
  QcJ:XAt K g.TooDeep
  QcK:mg "Lives"=some (.ref g.Lives)
  Qaa:Cls K g.Lives
  Qan:YG K g.Lives "births"
  QaC:YG K g.Lives "deaths"
  Qaq:YG K g.Lives "broods"
  QcL:mg "World"=some (.ref g.World)
  Qac:Cls K g.World
  Qam:YG K g.World "year"
  Qar:YG K g.World "lives"
  QaJ:YG K g.World "happened"
  QcM:mg "LONGEST_WORD"=some (.int 8 g.LONGEST_WORD)
  QcN:mg "LONGEST_NUMBER"=some (.int 2 g.LONGEST_NUMBER)
  Qcl:mg "MOST_NUMBERS"=some (.int 5 g.MOST_NUMBERS)
  QcO:mg "BARRED"=some (.ref g.BARRED)
  Qcm:∀ H,SqT K H g.BARRED [.str "crown", .str "kids"]
  Qcn:mg "NOUGHT"=some (.ref g.NOUGHT)
  QaY:∀ H,SqT K H g.NOUGHT [.int 0, .int 1]
  QcP:mg "LAST_FIRST_YEAR"=some (.int 9999 g.LAST_FIRST_YEAR)
  QcQ:mg "MOST_YEARS"=some (.int 60 g.MOST_YEARS)
  QcR:mg "OLDEST"=some (.int 120 g.OLDEST)
local macro_rules|`(tactic| walk_at "ss") => `(tactic| first|exact rfl|assumption|exact ZG (Nat.le_of_ble_eq_true rfl)|(show(0:Int)<_;decide)|exact⟨by decide,by decide⟩|exact .inl ⟨by decide,by decide⟩|exact .inr ⟨by decide,by decide⟩|exact Z3.k (k:=Sum.inr _) (by assumption)|exact SqL.of (by assumption)|exact SqL.of Zb|exact SqT.of Zb|exact SqT.of (by assumption)|exact .inl (SqL.of (by assumption))|exact .inr (SqT.of (by assumption))|exact .inl ⟨_,SqL.of (by assumption),rfl⟩|exact⟨_,SqL.of (by assumption)⟩|exact⟨_,SqL.of Zb⟩|exact .inl ⟨rfl,_,SqL.of (by assumption)⟩|exact Txt.Qaa (by assumption)|exact Txt.Qan (by assumption)|exact Txt.QaC (by assumption)|exact Txt.Qaq (by assumption)|exact Txt.Qac (by assumption)|exact Txt.Qam (by assumption)|exact Txt.Qar (by assumption)|exact Txt.QaJ (by assumption)|exact Txt.Qcm (by assumption)|exact Txt.QaY (by assumption)|decide)
local macro_rules|`(tactic| walk_at "rd") => `(tactic| repeat (first|(apply And.intro;· walk_at "ss")|apply Exists.intro))
local macro_rules|`(tactic| walk_at "g") => `(tactic| repeat (first|(apply And.intro;· walk_at "ss")|((fail_if_success (show ∃ _:Nat->Nat->St->Hp->Prop,_));(fail_if_success (show ∃ _:Nat->St->Hp->Prop,_));apply Exists.intro)))
local macro_rules|`(tactic| walk_at "v") => `(tactic| first|exact Or.inl rfl|exact Or.inr (Or.inl rfl)|exact Or.inr (Or.inr rfl))
local macro_rules|`(tactic| walk_at "u") => `(tactic| first|exact .inl rfl|exact .inr rfl|assumption)
local macro_rules|`(tactic| walk_at "n") => `(tactic| first|exact nobehind _ (by decide) (by decide)|rfl)
local macro_rules|`(tactic| walk_at "w") => `(tactic| exact⟨by rfl,by walk_at "v",by decide,by decide⟩)
theorem qv {X:Cx}(i:Nat){x:Str}{pos:Pos}(h:X.N[i]? = some x/\Vis X.env.scope x/\(x == ("__debug__":Str))=false/\(x == ("__classdict__":Str))=false):PE X (.Name x pos) (tVar i):=@pv X i x pos h.1 h.2.1 h.2.2.1 h.2.2.2
noncomputable def Zc5 (K:Frag)(g:Ga):Sp:=λ vs H Q E=>∃(x:Str)(a b:Nat),vs=[.str x, .str ⟨#[a]⟩, .str ⟨#[b]⟩]/\Q (.bl (x.cps.toList.all (inR a b))) H
noncomputable def ZaP (K:Frag)(g:Ga):Sp:=λ vs H Q E=>∃ x:Str,vs=[.str x]/\x.length<=200/\Q (.bl (gw x)) H
noncomputable def ZaI (K:Frag)(g:Ga):Sp:=λ vs H Q E=>∃ x:Str,vs=[.str x]/\x.length<=200/\(gw x=false->E (.ref g.NoText) none H)/\(gw x=true->Q .non H)
noncomputable def Jn (K:Frag)(g:Ga):Sp:=λ vs H Q E=>∃ x:Str,vs=[.str x]/\x.length<=200/\Q (.bl (gn x)) H
noncomputable def Zel (K:Frag)(g:Ga):Sp:=λ vs H Q E=>∃ x:Str,vs=[.str x]/\x.length<=200/\(pok x=false->∀ H',Zv H H'->E (.ref g.NoText) none H')/\(pok x=true->∀ l H',Zv H H'->H l=none->H' l=some (.lst (pvl x))->Q (.ref l) H')
noncomputable def ZaJ (K:Frag)(g:Ga):Sp:=λ vs H Q E=>∃ x:Str,vs=[.str x]/\x.length<=200/\∀ H',Zv H H'->Q (.str (up x)) H'
noncomputable def ZaK (K:Frag)(g:Ga):Sp:=λ vs H Q E=>∃ x:Str,vs=[.str x]/\pok x=true/\∀ H',Zv H H'->Q (.str (up x)) H'
noncomputable def Xp (K:Frag)(g:Ga):Sp:=λ vs H Q E=>∃(b dx:Addr),vs=[.ref b]/\H b=some (.ins g.Lives dx [])/\∀ R H',ZS [b] H H'->(∀ a∈R,a=b\/H a=none)->LivesAt g.Lives H' b [] [] R->Q .non H'
noncomputable def Jt (K:Frag)(g:Ga):Sp:=λ vs H Q E=>∃(b d1 d2 d3:Addr)(bs ds:List (Str×Int))(ws:List (Str×Addr×Nat))(n:Str)(y:Int),vs=[.ref b, .str n, .int y]/\Book g.Lives H b d1 d2 d3 bs ds ws/\has bs n=false/\Z4 (brs ws) (Sum.inr n:Key)=none/\bs.length<=900/\ws.length<=900/\∀ l H',H l=none->ZS [d1,d3] H H'->Book g.Lives H' b d1 d2 d3 (bs++[(n,y)]) ds (ws++[(n,l,0)])->Q .non H'
noncomputable def Js (K:Frag)(g:Ga):Sp:=λ vs H Q E=>∃(b:Addr)(bs ds:List (Str×Int))(R:List Addr)(n:Str),vs=[.ref b, .str n]/\LivesAt g.Lives H b bs ds R/\Q (.bl (has bs n)) H
noncomputable def YY (K:Frag)(g:Ga):Sp:=λ vs H Q E=>∃(b:Addr)(bs ds:List (Str×Int))(R:List Addr)(n:Str),vs=[.ref b, .str n]/\LivesAt g.Lives H b bs ds R/\(has bs n=false->E (.ref g.NoPerson) none H)/\(has bs n=true->Q .non H)
noncomputable def Jw (K:Frag)(g:Ga):Sp:=λ vs H Q E=>∃(b:Addr)(bs ds:List (Str×Int))(R:List Addr)(n:Str),vs=[.ref b, .str n]/\LivesAt g.Lives H b bs ds R/\Q (.bl (al bs ds n)) H
noncomputable def YZ (K:Frag)(g:Ga):Sp:=λ vs H Q E=>∃(b:Addr)(bs ds:List (Str×Int))(R:List Addr)(n:Str),vs=[.ref b, .str n]/\LivesAt g.Lives H b bs ds R/\(has bs n=false->E (.ref g.NoPerson) none H)/\(has bs n=true->has ds n=true->E (.ref g.Gone) none H)/\(has bs n=true->has ds n=false->Q .non H)
noncomputable def Je (K:Frag)(g:Ga):Sp:=λ vs H Q E=>∃(b:Addr)(bs ds:List (Str×Int))(R:List Addr)(n:Str)(y:Int),vs=[.ref b, .str n, .int y]/\LivesAt g.Lives H b bs ds R/\n.length<=200/\bs.length<800/\(gw n=false->E (.ref g.NoText) none H)/\(gw n=true->has bs n=true->E (.ref g.Taken) none H)/\(gw n=true->has bs n=false->∀ R' H',ZS R H H'->Xl H R R'->LivesAt g.Lives H' b (bs++[(n,y)]) ds R'->Q .non H')
noncomputable def Jv (K:Frag)(g:Ga):Sp:=λ vs H Q E=>∃(b:Addr)(bs ds:List (Str×Int))(R:List Addr)(n:Str)(y:Int),vs=[.ref b, .str n, .int y]/\LivesAt g.Lives H b bs ds R/\bs.length<800/\nk bs n<99/\(has bs n=false->E (.ref g.NoPerson) none H)/\(has bs n=true->has ds n=true->E (.ref g.Gone) none H)/\(has bs n=true->has ds n=false->5<=ZN n->E (.ref g.TooDeep) none H)/\(has bs n=true->has ds n=false->ZN n<5->∀ R' H',ZS R H H'->Xl H R R'->LivesAt g.Lives H' b (bs++[(kid n (nk bs n),y)]) ds R'->Q (.str (kid n (nk bs n))) H')
noncomputable def Ju (K:Frag)(g:Ga):Sp:=λ vs H Q E=>∃(b:Addr)(bs ds:List (Str×Int))(R:List Addr)(n:Str)(y:Int),vs=[.ref b, .str n, .int y]/\LivesAt g.Lives H b bs ds R/\ds.length<800/\(has bs n=false->E (.ref g.NoPerson) none H)/\(has bs n=true->has ds n=true->E (.ref g.Gone) none H)/\(has bs n=true->has ds n=false->∀ H',ZS R H H'->LivesAt g.Lives H' b bs (ds++[(n,y)]) R->Q .non H')
noncomputable def Jf (K:Frag)(g:Ga):Sp:=λ vs H Q E=>∃(b:Addr)(bs ds:List (Str×Int))(R:List Addr)(n:Str)(t:Int),vs=[.ref b, .str n, .int t]/\LivesAt g.Lives H b bs ds R/\(has bs n=false->E (.ref g.NoPerson) none H)/\(∀ y,yr bs n=some y->Q (.int ((yr ds n).getD t - y)) H)
noncomputable def Xo (K:Frag)(g:Ga):Sp:=λ vs H Q E=>∃(b:Addr)(bs ds:List (Str×Int))(R:List Addr)(n:Str),vs=[.ref b, .str n]/\LivesAt g.Lives H b bs ds R/\(has bs n=false->E (.ref g.NoPerson) none H)/\(has bs n=true->∀ l H',Zv H H'->H l=none->H' l=some (.lst (YL n (nk bs n)))->Q (.ref l) H')
noncomputable def Jr (K:Frag)(g:Ga):Sp:=λ vs H Q E=>∃(b:Addr)(bs ds:List (Str×Int))(R:List Addr),vs=[.ref b]/\LivesAt g.Lives H b bs ds R/\∀ l H',Zv H H'->H l=none->H' l=some (.lst (bs.map λ p=>V.str p.1))->Q (.ref l) H'
noncomputable def Zc8 (K:Frag)(g:Ga):Sp:=λ vs H Q E=>∃ a b:Int,vs=[.int a, .int b]/\0<=a/\0<=b/\Q (.int (Sh.G a b)) H
noncomputable def Zc6 (K:Frag)(g:Ga):Sp:=λ vs H Q E=>∃ n d:Int,vs=[.int n, .int d]/\0<=n/\0<d/\d.natAbs<BIG/\∀ p,H p=none->Q (.ref p) (upd H p (.tup [.int (n / Sh.G n d), .int (d / Sh.G n d)]))
noncomputable def Zfx (K:Frag)(g:Ga):Sp:=λ vs H Q E=>∃(p q:Addr)(a b c d:Int),vs=[.ref p, .ref q]/\Two K H p q a b c d/\∀ r,H r=none->Q (.ref r) (upd H r (.tup (Zfj (a * d+c * b) (b * d))))
noncomputable def Zek (K:Frag)(g:Ga):Sp:=λ vs H Q E=>∃(p q:Addr)(a b c d:Int),vs=[.ref p, .ref q]/\Two K H p q a b c d/\∀ r,H r=none->Q (.ref r) (upd H r (.tup (Zfj (a * c) (b * d))))
noncomputable def ZaL (K:Frag)(g:Ga):Sp:=λ vs H Q E=>∃(d:Addr)(es:List En),vs=[.ref d]/\Dic K H d es/\(Yf es).Nodup/\es.length<60/\(∀ e∈es,ZeU e)/\∀ l' H' es',Zv H H'->H l'=none->Led H' l' es'->Can es es'->Q (.ref l') H'
noncomputable def Zem (K:Frag)(g:Ga):Sp:=λ vs H Q E=>∃(L:Addr)(ls:List (List Ut)),vs=[.ref L]/\LLs H L (ls.map (List.map ue))/\MixOk ls/\∀ l' H' es',Zv H H'->H l'=none->Led H' l' es'->Can ((ls.flatten.map (scU (ls.length:Nat))).map ue) es'->Q (.ref l') H'
noncomputable def ZbT (j:Nat)(K:Frag)(g:Ga):Sp:=λ vs H Q E=>∃(b:Addr)(S:Mo)(R:List Addr)(n:Str),vs=[.ref b, .str n]/\LivesAt g.Lives H b S.bs S.ds R/\has S.bs n=true/\6<=ZN n+j/\S.bs.length<60/\∀ l' H' es',Zv H H'->H l'=none->Led H' l' es'->Can ((lnN S (6 - ZN n) n).map ue) es'->Q (.ref l') H'
noncomputable def Zen (K:Frag)(g:Ga):Sp:=λ vs H Q E=>∃(b:Addr)(S:Mo)(R:List Addr)(n:Str),vs=[.ref b, .str n]/\LivesAt g.Lives H b S.bs S.ds R/\(has S.bs n=false->E (.ref g.NoPerson) none H)/\(has S.bs n=true->S.bs.length<60/\∀ l' H' es',Zv H H'->H l'=none->Led H' l' es'->Can ((hrs S n).map ue) es'->Q (.ref l') H')
noncomputable def Ja (K:Frag)(g:Ga):Sp:=λ vs H Q E=>∃ n lo hi:Int,vs=[.int n, .int lo, .int hi]/\(¬ (lo<=n/\n<=hi)->E (.ref g.OutOfBound) none H)/\(lo<=n/\n<=hi->Q .non H)
noncomputable def Xn (K:Frag)(g:Ga):Sp:=λ vs H Q E=>∃(w dx:Addr)(y:Int),vs=[.ref w, .int y]/\H w=some (.ins g.World dx [])/\(¬ (0<=y/\y<=9999)->E (.ref g.OutOfBound) none H)/\(0<=y/\y<=9999->∀ R H',ZS [w] H H'->(∀ a∈R,a=w\/H a=none)->WorldAt g H' w (mo0 y) R->Q .non H')
noncomputable def YX (K:Frag)(g:Ga):Sp:=λ vs H Q E=>∃(w:Addr)(S:Mo)(R:List Addr)(k:Int),vs=[.ref w, .int k]/\WorldAt g H w S R/\(¬ (1<=k/\k<=60)->E (.ref g.OutOfBound) none H)/\(1<=k/\k<=60->∀ H',ZS R H H'->WorldAt g H' w { S with y:=S.y+k } R->Q .non H')
noncomputable def Jd (K:Frag)(g:Ga):Sp:=λ vs H Q E=>∃(w:Addr)(S:Mo)(R:List Addr)(n:Str)(a:Int),vs=[.ref w, .str n, .int a]/\WorldAt g H w S R/\n.length<=200/\S.bs.length<800/\(¬ (0<=a/\a<=120)->E (.ref g.OutOfBound) none H)/\(0<=a/\a<=120->gw n=false->E (.ref g.NoText) none H)/\(0<=a/\a<=120->gw n=true->has S.bs n=true->E (.ref g.Taken) none H)/\(0<=a/\a<=120->gw n=true->has S.bs n=false->∀ R' H',ZS R H H'->Xl H R R'->WorldAt g H' w (S.step (.arrive n a)) R'->Q .non H')
noncomputable def Jq (K:Frag)(g:Ga):Sp:=λ vs H Q E=>∃(w:Addr)(S:Mo)(R:List Addr)(n:Str),vs=[.ref w, .str n]/\WorldAt g H w S R/\S.bs.length<800/\nk S.bs n<99/\(has S.bs n=false->E (.ref g.NoPerson) none H)/\(has S.bs n=true->has S.ds n=true->E (.ref g.Gone) none H)/\(has S.bs n=true->has S.ds n=false->5<=ZN n->E (.ref g.TooDeep) none H)/\(has S.bs n=true->has S.ds n=false->ZN n<5->∀ R' H',ZS R H H'->Xl H R R'->WorldAt g H' w (S.step (.birth n)) R'->Q (.str (kid n (nk S.bs n))) H')
noncomputable def Jo (K:Frag)(g:Ga):Sp:=λ vs H Q E=>∃(w:Addr)(S:Mo)(R:List Addr)(n:Str),vs=[.ref w, .str n]/\WorldAt g H w S R/\S.ds.length<800/\(has S.bs n=false->E (.ref g.NoPerson) none H)/\(has S.bs n=true->has S.ds n=true->E (.ref g.Gone) none H)/\(has S.bs n=true->has S.ds n=false->∀ H',ZS R H H'->WorldAt g H' w (S.step (.death n)) R->Q .non H')
noncomputable def Jp (K:Frag)(g:Ga):Sp:=λ vs H Q E=>∃(w:Addr)(S:Mo)(R:List Addr)(n:Str),vs=[.ref w, .str n]/\WorldAt g H w S R/\n.length<=200/\S.cs.length<800/\(gw n=false->E (.ref g.NoText) none H)/\(gw n=true->has S.cs n=true->E (.ref g.Taken) none H)/\(gw n=true->has S.cs n=false->∀ H',ZS R H H'->WorldAt g H' w (S.step (.comes n)) R->Q .non H')
noncomputable def ZaQ (K:Frag)(g:Ga):Sp:=λ vs H Q E=>∃(w:Addr)(S:Mo)(R:List Addr)(n:Str),vs=[.ref w, .str n]/\WorldAt g H w S R/\(has S.bs n=false->E (.ref g.NoPerson) none H)/\(∀ y,yr S.bs n=some y->Q (.int ((yr S.ds n).getD S.y - y)) H)
noncomputable def Zb6 (K:Frag)(g:Ga):Sp:=λ vs H Q E=>∃ i:Int,vs=[.int i]/\Q (.bl true) H
noncomputable def Jm (K:Frag)(g:Ga):Sp:=λ vs H Q E=>∃(a:Addr)(ns:List Int)(k:Int),vs=[.ref a, .int k]/\SqL K H a (ns.map V.int)/\0<=k/\∀ c:Int,Q (.int c) H
noncomputable def Zbp (K:Frag)(g:Ga):Sp:=λ vs H Q E=>∃ c p:Int,vs=[.int c, .int p]/\∀ r:Int,Q (.int r) H
noncomputable def Zbo (K:Frag)(g:Ga):Sp:=λ vs H Q E=>∃ n:Int,vs=[.int n]/\∀ z:Str,gw z=true->Q (.str z) H
noncomputable def Zaj (K:Frag)(g:Ga):Sp:=λ vs H Q E=>∃ a b:Int,vs=[.int a, .int b]/\0<=a/\0<=b/\Q (.int (Sh.G a b)) H
noncomputable def Zb7 (K:Frag)(g:Ga):Sp:=λ vs H Q E=>∃ n d:Int,vs=[.int n, .int d]/\0<=n/\0<d/\d.natAbs<BIG/\∀ p,H p=none->Q (.ref p) (upd H p (.tup [.int (n / Sh.G n d), .int (d / Sh.G n d)]))
noncomputable def Jc (K:Frag)(g:Ga):Sp:=λ vs H Q E=>∃(p:Addr)(x y:Int),vs=[.ref p]/\H p=some (.tup [.int x, .int y])/\0<=x/\0<y/\Sh.G x y=1/\Q (.bl true) H
noncomputable def XQ (K:Frag)(g:Ga):Sp:=λ vs H Q E=>∃(l:Addr)(es:List En),vs=[.ref l]/\Led H l es/\es.Pairwise (λ a b=>ltS a.1 b.1)/\(∀ e∈es,ZeU e/\e.2.1≠0)/\∀ H',Zv H H'->Q (.bl true) H'
noncomputable def ZaN (K:Frag)(g:Ga):Sp:=λ vs H Q E=>∃ y:Int,vs=[.int y]/\∀ m R H',Zv H H'->(∀ a∈R,H a=none)->YR H' m (mo0 y) R->Q (.ref m) H'
noncomputable def Zbs (K:Frag)(g:Ga):Sp:=λ vs H Q E=>∃(m:Addr)(S:Mo)(R:List Addr)(n:Str),vs=[.ref m, .str n]/\YR H m S R/\Wf S.bs S.ds/\n.length<=200/\nk S.bs n<=100/\∀ l H',Zv H H'->H l=none->H' l=some (.lst (YL n (nk S.bs n)))->Q (.ref l) H'
noncomputable def Zai (K:Frag)(g:Ga):Sp:=λ vs H Q E=>∃(m:Addr)(S:Mo)(R:List Addr),vs=[.ref m]/\YR H m S R/\S.bs.length<=900/\∀ l H',Zv H H'->H l=none->H' l=some (.lst (ZcK S.bs S.ds))->Q (.ref l) H'
noncomputable def Zbq (K:Frag)(g:Ga):Sp:=λ vs H Q E=>∃(m:Addr)(S:Mo)(R:List Addr)(p:Addr)(d:Deed)(far:Int)(k:Nat),vs=[.ref m, .ref p]/\YR H m S R/\H p=some (.tup d.vals)/\S.Ok k/\k<98/\S.good far d/\∀ H',ZS R H H'->YR H' m (S.step d) R->Q .non H'
noncomputable def XO (K:Frag)(g:Ga):Sp:=λ vs H Q E=>∃(m:Addr)(S:Mo)(R:List Addr)(n far:Int),vs=[.ref m, .int n, .int far]/\YR H m S R/\S.bs.length<=900/\0<far/\(∀ d p H',S.good far d->Zv H H'->H p=none->H' p=some (.tup d.vals)->Q (.ref p) H')
noncomputable def ZaM (K:Frag)(g:Ga):Sp:=λ vs H Q E=>∃ n:Int,vs=[.int n]/\∀ l was ps H',Zv H H'->(∀ a∈l::ps,H a=none)->First was->was≠[]->DeedsAt H' l (was.map arr) ps->Q (.ref l) H'
noncomputable def Zc7 (K:Frag)(g:Ga):Sp:=λ vs H Q E=>∃(w:Addr)(S:Mo)(R:List Addr)(p:Addr)(d:Deed)(far:Int)(k:Nat),vs=[.ref w, .ref p]/\WorldAt g H w S R/\H p=some (.tup d.vals)/\S.Ok k/\k<98/\S.good far d/\far<=60/\∀ v R' H',ZS R H H'->Xl H R R'->WorldAt g H' w (S.step d) R'->Q v H'
noncomputable def Xm (j:Nat)(K:Frag)(g:Ga):Sp:=λ vs H Q E=>∃(m:Addr)(S:Mo)(R:List Addr)(n:Str),vs=[.ref m, .str n, .int 1, .int 1]/\YR H m S R/\Wf S.bs S.ds/\has S.bs n=true/\6<=ZN n+j/\S.bs.length<60/\∀ l' H',Zv H H'->H l'=none->Led H' l' ((lnN S (6 - ZN n) n).map ue)->Q (.ref l') H'
noncomputable def ZaO (K:Frag)(g:Ga):Sp:=λ vs H Q E=>∃(m:Addr)(S:Mo)(R:List Addr)(n:Str),vs=[.ref m, .str n]/\YR H m S R/\Wf S.bs S.ds/\has S.bs n=true/\S.bs.length<60/\∀ l' H' es',Zv H H'->H l'=none->Led H' l' es'->Can ((hrs S n).map ue) es'->Q (.ref l') H'
noncomputable def Jb (K:Frag)(g:Ga):Sp:=λ vs H Q E=>∃(m:Addr)(S:Mo)(R:List Addr),vs=[.ref m]/\YR H m S R/\S.bs.length<60/\∀ x,has S.bs x=false->x.length<=20->Q (.str x) H
noncomputable def Jl (K:Frag)(g:Ga):Sp:=λ vs H Q E=>∃(w:Addr)(S:Mo)(R:List Addr)(n:Str),vs=[.ref w, .str n]/\WorldAt g H w S R/\has S.bs n=false/\∀ H',Zv H H'->Q (.bl true) H'
noncomputable def Zbr (K:Frag)(g:Ga):Sp:=λ vs H Q E=>∃(m:Addr)(S:Mo)(R:List Addr)(n:Int),vs=[.ref m, .int n]/\YR H m S R/\Wf S.bs S.ds/\S.bs.length<60/\∀ l H',Zv H H'->H l=none->(H' l=some (.lst [])\/∃(x:Str)(ps:List Addr)(pd:Addr),has S.bs x=true/\has S.ds x=false/\ZN x<5/\ps.length=12/\H' l=some (.lst ((ps++[pd]).map V.ref))/\(∀ p∈ps,H' p=some (.tup [.str "birth", .str x])/\H p=none)/\H' pd=some (.tup [.str "death", .str x])/\H pd=none)->Q (.ref l) H'
noncomputable def Zdv (K:Frag)(g:Ga):Sp:=λ vs H Q E=>∃(a:Addr)(ns:List Int),vs=[.ref a]/\SqL K H a (ns.map V.int)/\ns.length<=63/\∀ H',Q (.bl true) H'
section
variable (P:Program)(w0:World)(K:Frag)(g:Ga)(mg:Str->Option Value)(base:Heap)
noncomputable abbrev ZcR:Prop:=Dn P w0 K mg base 1 "within" ["text","low","high"] (Zc5 K g)
noncomputable abbrev JX:Prop:=Dn P w0 K mg base 2 "good_word" ["word"] (ZaP K g)
noncomputable abbrev JU:Prop:=Dx P w0 K mg base 3 "want_word" ["word"] (ZaI K g)
noncomputable abbrev Zao:Prop:=Dn P w0 K mg base 2 "good_number" ["text"] (Jn K g)
noncomputable abbrev Zf4:Prop:=Dx P w0 K mg base 3 "parts" ["name"] (Zel K g)
noncomputable abbrev Zbz:Prop:=Dn P w0 K mg base 1 "shortened" ["name"] (ZaJ K g)
noncomputable abbrev ZbA:Prop:=Dn P w0 K mg base 4 "parent_of" ["name"] (ZaK K g)
noncomputable abbrev XI:Prop:=Dm P w0 K mg base CX0 g.Lives 1 "enter" ["self","name","year"] (Jt K g)
noncomputable abbrev XH:Prop:=Dm P w0 K mg base CX0 g.Lives 1 "known" ["self","name"] (Js K g)
noncomputable abbrev ZT:Prop:=Dm P w0 K mg base (CXR P w0 base) g.Lives 2 "want_known" ["self","name"] (YY K g)
noncomputable abbrev XJ:Prop:=Dm P w0 K mg base CX0 g.Lives 1 "alive" ["self","name"] (Jw K g)
noncomputable abbrev Ym:Prop:=Dm P w0 K mg base (CXR P w0 base) g.Lives 3 "want_alive" ["self","name"] (YZ K g)
noncomputable abbrev JZ:Prop:=Dm P w0 K mg base (CXR P w0 base) g.Lives 4 "arrive" ["self","word","born"] (Je K g)
noncomputable abbrev Zat:Prop:=Dm P w0 K mg base (CXR P w0 base) g.Lives 4 "birth" ["self","name","year"] (Jv K g)
noncomputable abbrev Zas:Prop:=Dm P w0 K mg base (CXR P w0 base) g.Lives 4 "death" ["self","name","year"] (Ju K g)
noncomputable abbrev J0:Prop:=Dm P w0 K mg base (CXR P w0 base) g.Lives 3 "age_in" ["self","name","year"] (Jf K g)
noncomputable abbrev XW:Prop:=Dm P w0 K mg base (CXR P w0 base) g.Lives 3 "children" ["self","name"] (Xo K g)
noncomputable abbrev ZeM:Prop:=Dn P w0 K mg base 1 "common" ["one","other"] (Zc8 K g)
noncomputable abbrev ZcS:Prop:=Dn P w0 K mg base 2 "lowest" ["num","den"] (Zc6 K g)
noncomputable abbrev ZhT:Prop:=Dn P w0 K mg base 3 "plus" ["one","other"] (Zfx K g)
noncomputable abbrev Zf3:Prop:=Dn P w0 K mg base 3 "times" ["one","other"] (Zek K g)
noncomputable abbrev ZbB:Prop:=Dn P w0 K mg base 1 "ledger_of" ["held"] (ZaL K g)
noncomputable abbrev Zf5:Prop:=Dn P w0 K mg base 4 "mixed" ["ledgers"] (Zem K g)
noncomputable abbrev ZhU:Prop:=Dn P w0 K mg base 12 "line" ["lives","name"] (ZbT 7 K g)
noncomputable abbrev Zea:Prop:=Dx P w0 K mg base 13 "heirs" ["lives","name"] (Zen K g)
noncomputable abbrev Yx:Prop:=Dx P w0 K mg base 1 "want_between" ["number","low","high"] (Ja K g)
noncomputable abbrev Xj:Prop:=Dm P w0 K mg base (CXR P w0 base) g.World 2 "pass_years" ["self","many"] (YX K g)
noncomputable abbrev JY:Prop:=Dm P w0 K mg base (CXR P w0 base) g.World 5 "arrive" ["self","word","age"] (Jd K g)
noncomputable abbrev Zar:Prop:=Dm P w0 K mg base (CXR P w0 base) g.World 5 "birth" ["self","name"] (Jq K g)
noncomputable abbrev Zap:Prop:=Dm P w0 K mg base (CXR P w0 base) g.World 5 "death" ["self","name"] (Jo K g)
noncomputable abbrev Zaq:Prop:=Dm P w0 K mg base (CXR P w0 base) g.World 4 "comes" ["self","word"] (Jp K g)
noncomputable abbrev Zdm:Prop:=Dn P w0 K mg base 1 "_law_num" ["_law_found"] (Zb6 K g)
noncomputable abbrev Zan:Prop:=Dn P w0 K mg base 1 "_law_cell_at" ["_law_script","_law_k"] (Jm K g)
noncomputable abbrev ZcT:Prop:=Dn P w0 K mg base 1 "_law_rich" ["_law_cell","_law_place"] (Zbp K g)
noncomputable abbrev ZaE:Prop:=Dn P w0 K mg base 1 "_law_word" ["_law_n"] (Zbo K g)
noncomputable abbrev X5:Prop:=Dn P w0 K mg base 1 "_law_common" ["_law_a","_law_b"] (Zaj K g)
noncomputable abbrev Zdn:Prop:=Dn P w0 K mg base 2 "_law_low" ["_law_num_here","_law_den"] (Zb7 K g)
noncomputable abbrev JW:Prop:=Dn P w0 K mg base 2 "_law_is_share" ["_law_found"] (Jc K g)
noncomputable abbrev Jh:Prop:=Dn P w0 K mg base 3 "_law_is_ledger" ["_law_found"] (XQ K g)
noncomputable abbrev ZbD:Prop:=Dn P w0 K mg base 1 "_law_model" ["_law_year"] (ZaN K g)
noncomputable abbrev ZaF:Prop:=Dn P w0 K mg base 1 "_law_kids" ["_law_model_here","_law_name"] (Zbs K g)
noncomputable abbrev Zba:Prop:=Dn P w0 K mg base 1 "_law_living" ["_law_model_here"] (Zai K g)
noncomputable abbrev ZcU:Prop:=Dn P w0 K mg base 2 "_law_play" ["_law_model_here","_law_deed"] (Zbq K g)
noncomputable abbrev Jg:Prop:=Dn P w0 K mg base 2 "_law_next_deed" ["_law_model_here","_law_n","_law_far"] (XO K g)
noncomputable abbrev ZbC:Prop:=Dn P w0 K mg base 2 "_law_start" ["_law_n"] (ZaM K g)
noncomputable abbrev ZeL:Prop:=Dn P w0 K mg base 6 "_law_do" ["_law_world","_law_deed"] (Zc7 K g)
noncomputable abbrev ZcW:Prop:=Dn P w0 K mg base 10 "_law_line" ["_law_model_here","_law_name","_law_num_here","_law_den"] (Xm 7 K g)
noncomputable abbrev ZbE:Prop:=Dn P w0 K mg base 11 "_law_heirs" ["_law_model_here","_law_name"] (ZaO K g)
noncomputable abbrev JV:Prop:=Dn P w0 K mg base 1 "_law_stranger" ["_law_model_here"] (Jb K g)
noncomputable abbrev Zam:Prop:=Dn P w0 K mg base 14 "_law_refused" ["_law_world","_law_name"] (Jl K g)
noncomputable abbrev ZcV:Prop:=Dn P w0 K mg base 1 "_law_many" ["_law_model_here","_law_n"] (Zbr K g)
noncomputable abbrev ZeJ:Prop:=Dk P w0 K mg base CX0 g.Lives 1 "Lives" ["self"] (Xp K g)
noncomputable abbrev ZeI:Prop:=Dk P w0 K mg base (CXR P w0 base) g.World 3 "World" ["self","year"] (Xn K g)
end
section
variable {P:Program}{w0:World}{K:Frag}{g:Ga}{mg:Str->Option Value}{base:Heap}
theorem Zgp {f:Addr}{fd:FuncData}(F:Fun K "within" "within" Zco f fd)(T:Txt K g mg)  : FnOk P w0 K mg base CX0 1 f fd ["text","low","high"] (Zc5 K g):=by
  refine F.ok Zda (λ vs H Q E h=>?_) (λ cdv A outer s H vs Q E hr h=>?_)
  . obtain⟨x,a,b,rfl,_⟩:=h;rfl
  obtain⟨x,a,b,rfl,q⟩:=h;refine⟨_,(
(Ze (Ys PassesOwn.never rfl (Ze9 (pv 0)) (ZD (i:=3) Zda.nd rfl (Or.inl rfl))
 (Zg (ZB (PW.pt (XS (Zm Zgl (pv 3) (pv 1) (Zt _)) (YU (Zm Zgo (pv 3) (pv 2) (Zt _)))))
 (Zg (Zj Xd))
 Zp)))
 (Zg (Zj Xd)))),?_⟩
  have fin:∀ v,v=x.cps.toList.all (inR a b)->Q (.bl v) H:=λ v hv=>by rw[hv];exact q
  refine⟨_,rfl,x,rfl,ZiH (λ i σ H2=>H2=H/\(x.cps.toList.take i).all (inR a b)=true/\∃ v,σ=[some (.str x),some (.str ⟨#[a]⟩),some (.str ⟨#[b]⟩),v]) ⟨rfl,rfl,_,rfl⟩ ?_ ?_⟩
  . rintro i c σ H2 hc ⟨rfl,ha,v,rfl⟩;refine⟨_,rfl,_,rfl,_,_,rfl,rfl,_,rfl,?_⟩;refine Yb (λ e=>Z8 ?_) (λ e=>?_)
    . have e':c<a:=(Zd1 c a).mp (of_decide_eq_true e);exact fin _ (Zf9 hc (by unfold inR;rw[decide_eq_false (by omega)];rfl)).symm
    . have e':¬ c<a:=λ z=>e (decide_eq_true ((Zd1 c a).mpr z));refine⟨_,rfl,_,rfl,_,_,rfl,rfl,_,rfl,?_⟩;refine Yb (λ f=>?_) (λ f=>?_)
      . have f':b<c:=(Zd1 b c).mp (of_decide_eq_true f);exact fin _ (Zf9 hc (by unfold inR;rw[decide_eq_false (show ¬ c<=b by omega),Bool.and_false])).symm
      . have f':¬ b<c:=λ z=>f (decide_eq_true ((Zd1 b c).mpr z));exact⟨rfl,ZhZ ha hc (by unfold inR;rw[decide_eq_true (show a<=c by omega),decide_eq_true (show c<=b by omega)];rfl),_,rfl⟩
  . rintro σ H2 ⟨rfl,ha,v,rfl⟩;rw[take_length]at ha;exact fin _ ha.symm
theorem ZdW {f:Addr}{fd:FuncData}(F:Fun K "good_word" "good_word" JH f fd)(T:Txt K g mg)(Qas:ZcR P w0 K g mg base):FnOk P w0 K mg base CX0 2 f fd ["word"] (ZaP K g):=by
  refine F.ok ZdB (λ vs H Q E h=>?_) (λ cdv A outer s H vs Q E hr h=>?_)
  . obtain⟨x,rfl,_⟩:=h;rfl
  obtain⟨x,rfl,hx,q⟩:=h;refine⟨_,(
(Zg (Zj (ZaB (Zes ZfI ZfI Zf (Zr Zy rfl T.z_len boot_len (Za (pv 0) Zd)) (YI (v:=.int 8) rfl T.QcM ⟨_,rfl⟩)) (ZaB (Zz Qas (h_ hr) (Za (pv 0) (Za Zn (Za Zn Zd)))) (Zcu (ZdL ZdO (pv 0) (YI (v:=.ref g.BARRED) rfl T.QcO rfl) rfl))))))),?_⟩
  have fin:∀ v,v=gw x->Q (.bl v) H:=λ v hv=>by rw[hv];exact q
  refine⟨_,rfl,_,_,rfl,⟨ZG (by omega),rfl⟩,_,_,rfl,rfl,_,rfl,?_⟩;refine Yb (λ c=>?_) (λ c=>?_)
  . have c':1<=x.length:=by have:=of_decide_eq_true c;omega
    refine⟨_,_,rfl,rfl,_,rfl,?_⟩;refine Yb (λ d=>?_) (λ d=>?_)
    . have d':x.length<=8:=by have:=of_decide_eq_true d;omega
      refine⟨_,rfl,x,97,122,rfl,_,rfl,?_⟩;refine Yb (λ e=>?_) (λ e=>?_)
      . refine⟨_,rfl,g.BARRED,_,rfl, .inr (T.Qcm _),rfl,rfl,fin _ ?_⟩;unfold gw;rw[decide_eq_true c',decide_eq_true d',e];show(!(eqV (.str "crown") (.str x) || (eqV (.str "kids") (.str x) || false)))=_;show(!(("crown":Str) == x || (("kids":Str) == x || false)))=(!(decide (x="crown") || decide (x="kids")));rw[Bool.or_false,Zf8,Zf8]
      . refine fin _ ?_;unfold gw;rw[Bool.eq_false_iff.mpr e,Bool.and_false];rfl
    . refine fin _ ?_;unfold gw;rw[decide_eq_false (show ¬ x.length<=8 from λ z=>d (decide_eq_true (by omega))),Bool.and_false];rfl
  . refine⟨_,rfl,ZU ?_⟩;refine fin _ ?_;unfold gw;rw[decide_eq_false (show ¬ 1<=x.length from λ z=>c (decide_eq_true (by omega)))];rfl
theorem ZdP {f:Addr}{fd:FuncData}(F:Fun K "want_word" "want_word" JA f fd)(T:Txt K g mg)(Qat:JX P w0 K g mg base):FnOk P w0 K mg base (CXR P w0 base) 3 f fd ["word"] (ZaI K g):=by
  refine F.okX Zdw (λ vs H Q E h=>?_) (λ cdv A outer s H vs Q E hr h=>?_)
  . obtain⟨x,rfl,_⟩:=h;rfl
  obtain⟨x,rfl,hx,qe,q⟩:=h;refine⟨_,(
(Zg (ZB (YC (Yl (Zz Qat (h_ hr) (Za (pv 0) Zd))))
 (Zg (Yr T.QaX.x T.QaW Zn))
 Zp))),?_⟩
  refine⟨_,rfl,x,rfl,hx,_,rfl,?_⟩;cases hg:gw x with
  |false=>exact Z8 ⟨rfl,qe hg⟩
  |true=>exact ZU (q hg)
theorem Zcy {f:Addr}{fd:FuncData}(F:Fun K "good_number" "good_number" Xw f fd)(T:Txt K g mg)(Qas:ZcR P w0 K g mg base):FnOk P w0 K mg base CX0 2 f fd ["text"] (Jn K g):=by
  refine F.ok Zce (λ vs H Q E h=>?_) (λ cdv A outer s H vs Q E hr h=>?_)
  . obtain⟨x,rfl,_⟩:=h;rfl
  obtain⟨x,rfl,hx,q⟩:=h;refine⟨_,(
(Zg (Zj (ZaB (Zes ZfI ZfI Zf (Zr Zy rfl T.z_len boot_len (Za (pv 0) Zd)) (YI (v:=.int 2) rfl T.QcN ⟨_,rfl⟩)) (ZaB (Zz Qas (h_ hr) (Za (pv 0) (Za Zn (Za Zn Zd)))) (Zcu (ZdL ZfH (Zq ZhH (pv 0) Zf (λ _ _=>rfl)) Zn (Zt _)))))))),?_⟩
  have fin:∀ v,v=gn x->Q (.bl v) H:=λ v hv=>by rw[hv];exact q
  refine⟨_,rfl,_,_,rfl,⟨ZG (by omega),rfl⟩,_,_,rfl,rfl,_,rfl,?_⟩;refine Yb (λ c=>?_) (λ c=>?_)
  . have c':1<=x.length:=by have:=of_decide_eq_true c;omega
    refine⟨_,_,rfl,rfl,_,rfl,?_⟩;refine Yb (λ d=>?_) (λ d=>?_)
    . have d':x.length<=2:=by have:=of_decide_eq_true d;omega
      refine⟨_,rfl,x,48,57,rfl,_,rfl,?_⟩;refine Yb (λ e=>?_) (λ e=>?_)
      . have hl:x.cps.toList.length=x.length:=length_toList;obtain⟨c0,hc0⟩:∃ c0,x.cps.toList[0]? = some c0:=⟨_,getElem?_eq_getElem (by omega)⟩;have hat:atI x.cps.toList ((0:Nat):Int)=some c0:=X8 hc0;refine⟨_,rfl,x,_,c0,rfl,rfl,ZG (by omega),hat,rfl,fin _ ?_⟩;unfold gn;rw[decide_eq_true c',decide_eq_true d',e];show(!decide (V.str ⟨#[c0]⟩=V.str "0"))=(!decide (x.cps.toList.head? = some 48));have z:(V.str ⟨#[c0]⟩=V.str "0")↔c0=48:=by
          rw[show("0":Str)=⟨#[48]⟩ by decide +kernel];constructor
          . intro w;injection w with w;injection w with w;simpa using w
          . rintro rfl;rfl
        rw[List.head?_eq_getElem?,hc0];congr 1;rw[Bool.eq_iff_iff,decide_eq_true_iff,decide_eq_true_iff,z];simp
      . refine fin _ ?_;unfold gn;rw[Bool.eq_false_iff.mpr e,Bool.and_false];rfl
    . refine fin _ ?_;unfold gn;rw[decide_eq_false (show ¬ x.length<=2 from λ z=>d (decide_eq_true (by omega))),Bool.and_false];rfl
  . refine⟨_,rfl,ZU ?_⟩;refine fin _ ?_;unfold gn;rw[decide_eq_false (show ¬ 1<=x.length from λ z=>c (decide_eq_true (by omega)))];rfl
theorem Zhj {f:Addr}{fd:FuncData}(F:Fun K "parts" "parts" ZdE f fd)(T:Txt K g mg)(Qat:JX P w0 K g mg base)(QaZ:Zao P w0 K g mg base):FnOk P w0 K mg base (CXR P w0 base) 3 f fd ["name"] (Zel K g):=by
  refine F.okX ZaS (λ vs H Q E h=>?_) (λ cdv A outer s H vs Q E hr h=>?_)
  . obtain⟨x,rfl,_⟩:=h;rfl
  obtain⟨x,rfl,hx,qe,q⟩:=h;refine⟨_,(
(Ze (Ze8 (JO plainAttrs_str PySem.F.slot_str_split PySem.F.type_str_split Zhr (pv 0) (Za Zn Zd)) (Zio rfl (ZV (ZD (i:=1) ZaS.nd rfl (Or.inl rfl)) (ZV (ZD (i:=2) ZaS.nd rfl (Or.inl rfl)) ZaZ))))
 (Ze (ZB (PW.pt (XS (YC (Yl (Zz Qat (h_ hr) (Za (pv 1) Zd)))) (YU (Zm JP (Zr Zy rfl T.z_len boot_len (Za (pv 2) Zd)) (YI (v:=.int 5) rfl T.Qcl ⟨_,rfl⟩) (Zt _)))))
 (Zg (Yr T.QaX.x T.QaW Zn))
 Zp)
 (Ze (Ys PassesOwn.leaving rfl (Yg (pv 2)) (ZD (i:=3) ZaS.nd rfl (Or.inl rfl))
 (Zg (ZB (YC (Yl (Zz QaZ (h_ hr) (Za (pv 3) Zd))))
 (Zg (Yr T.QaX.x T.QaW Zn))
 Zp)))
 (Zg (Zj (Zl Zhh (Yt (Za (pv 1) Zd)) (ZfE (x:="number") (cl:=[]) (caps:=[]) rfl (Yg (pv 2)) (λ _ _ _ _ _=>ZaY) (λ _ _ _ _ _=>(YD Zc2 rfl T.z_int PyProof.Rows.boot_int (Za (pv 0) Zd))) rfl (by decide +kernel) rfl (by decide +kernel) rfl (λ _ _ h=>nomatch h) (XG rfl) (λ p hp=>nomatch hp) (by decide +kernel))))))))),?_⟩
  have h2:(Builtin.Str.partsBetween x (Builtin.Str.occurrences x dot 0 x.length (x.length+1)) dot.length).length<=sizeLine:=by
    rw[PyProof.Rows.len_partsBetween];have:=StrLaws.occ_length_le x dot 0 x.length (x.length+1);exact ZG (by omega)
  have nl:=Zix x;refine⟨_,rfl,rfl,x,dot,rfl,rfl,by decide +kernel,ZG (by omega),h2,λ l hl=>?_⟩;have s1:=Zi hl (.lst ((Txt.split x dot).map V.str));have pe:(Txt.split x dot).map V.str = .str (wd x)::(nms x).map V.str:=by rw[show Txt.split x dot=wd x::nms x from Xe x];rfl
  refine⟨l, .str (wd x),(nms x).map V.str,rfl,SqL.of (by rw[Zb,pe]),by rw[length_map];omega,λ D hD=>?_⟩;have s2:=s1.trans (Zi hD (.lst ((nms x).map V.str)));have hD2:upd (upd H l (.lst ((Txt.split x dot).map V.str))) D (.lst ((nms x).map V.str)) D=some (.lst ((nms x).map V.str)):=Zb;generalize upd (upd H l (.lst ((Txt.split x dot).map V.str))) D (.lst ((nms x).map V.str))=H2 at *;have wl:(wd x).length<=200:=le_trans (Zhg (x:=x) (by rw[Xe];exact mem_cons_self ..)) hx;have pl:∀ p∈nms x,p.length<=200:=λ p hp=>le_trans (Zhg (x:=x) (by rw[Xe];exact mem_cons_of_mem _ hp)) hx;refine⟨_,_,rfl,_,_,rfl,rfl,?_⟩;refine⟨_,rfl,wd x,rfl,wl,_,rfl,?_⟩;cases g1:gw (wd x) with
  |false=>
    refine Z8 ?_;refine Z8 ⟨rfl,qe (by unfold pok;rw[g1];rfl) H2 s2⟩
  |true=>
    refine ZU ?_;refine⟨_,rfl,_,_,rfl, .inl ⟨_,SqL.of hD2,rfl⟩,_,_,rfl,rfl,_,rfl,?_⟩;refine Yb (λ c=>?_) (λ c=>?_)
    . have c':¬ (nms x).length<=5:=by have:=of_decide_eq_true c;rw[length_map]at this;omega
      exact⟨rfl,qe (by unfold pok;rw[g1,decide_eq_false c'];rfl) H2 s2⟩
    . have c':(nms x).length<=5:=by
        have c2:¬ ((5:Int)<(((nms x).map V.str).length:Nat)):=λ z=>c (decide_eq_true z);rw[length_map]at c2;omega
      refine⟨_,rfl,D,rfl,⟨_,SqL.of hD2⟩,JS (xs:=(nms x).map V.str) (λ i σ H3=>H3=H2/\((nms x).take i).all gn=true/\∃ v,σ=[some (.str x),some (.str (wd x)),some (.ref D),v]) ⟨rfl,rfl,_,rfl⟩ ?_ ?_ ?_⟩
      . rintro i σ H3 _ ⟨rfl,_⟩;exact SqL.of hD2
      . rintro i v σ H3 hv ⟨rfl,ha,w,rfl⟩;rw[getElem?_map]at hv;have ci:i<(nms x).length:=by
          cases z:(nms x)[i]? with
          |none=>rw[z]at hv;cases hv
          |some y=>exact(List.getElem?_eq_some_iff.mp z).1
        rw[getElem?_eq_getElem ci]at hv;cases hv;refine⟨_,rfl,(nms x)[i],rfl,pl _ (getElem_mem ci),_,rfl,?_⟩;cases g2:gn (nms x)[i] with
        |false=>
          refine Z8 ⟨rfl,qe ?_ H3 s2⟩;unfold pok;have z:(nms x).all gn=false:=by
            cases e:(nms x).all gn with
            |false=>rfl
            |true=>
              have:=List.all_eq_true.mp e _ (getElem_mem ci);rw[g2]at this;cases this
          rw[z,Bool.and_false]
        |true=>
          refine ZU ⟨rfl,?_,_,rfl⟩;rw[take_succ,getElem?_eq_getElem ci,all_append,ha];simp[g2]
      . rintro σ H3 ⟨rfl,ha,w,rfl⟩;rw[length_map,take_length]at ha;have pk:pok x=true:=by unfold pok;rw[g1,decide_eq_true c',ha];rfl
        refine⟨_,rfl,(by show 1<=sizeLine;decide),λ b1 hb1=>?_⟩;have s3:=Zi hb1 (.lst [V.str (wd x)]);have hb1':upd H3 b1 (.lst [V.str (wd x)]) b1=some (.lst [V.str (wd x)]):=Zb;have hD3:=s3 _ _ hD2;generalize upd H3 b1 (.lst [V.str (wd x)])=H4 at *;refine⟨_,rfl,D,rfl,⟨_,SqL.of hD3⟩,λ E1 hE1=>⟨λ i m H5=>i<=(nms x).length/\m=(nms x).length - i/\Zv H4 H5/\H5 E1=some (.lst (((nms x).take i).map λ p=>V.int (iv p))),⟨(nms x).length,zero_le _,rfl,Zi hE1 _,Zb⟩,?_⟩⟩;rintro i m H5 ⟨hi,rfl,s5,hE5⟩
        by_cases ci:i<(nms x).length
        . refine .inr ⟨⟨_, .str (nms x)[i],s5.seq (SqL.of hD3),by simp[ci]⟩,λ v H' ⟨e,ev⟩=>?_⟩;subst e;have ev':=ev _ (s5.seq (SqL.of hD3));rw[getElem?_map,getElem?_eq_getElem ci]at ev';cases ev';refine Zdu ?_;have g3:=List.all_eq_true.mp ha _ (getElem_mem ci);refine⟨_,rfl,(nms x)[i],_,rfl,(iv_gn g3).1,by have:=pl _ (getElem_mem ci);omega,_,(nms x).length - (i+1),hE5,Zs (by rw[length_map,length_take];omega),by omega,ci,rfl,Z1 s5 hE1,?_⟩;rw[Zb,<- XN ci,map_append];rfl
        . have e:i=(nms x).length:=by omega
          subst e;rw[take_length]at hE5;refine .inl ⟨⟨_,s5.seq (SqL.of hD3),by rw[length_map];exact le_refl _⟩,?_⟩;refine⟨b1,E1,_,_,rfl,rfl,s5 _ _ hb1',hE5,le_of_lt (Zs (by rw[length_map];show 1+(nms x).length<=1000;omega)),λ R hR=>?_⟩;have s6:=(s2.trans s3).trans s5;exact q pk R _ (s6.trans (Zi hR _)) (s6.free hR) Zb
theorem ZdQ {f:Addr}{fd:FuncData}(F:Fun K "shortened" "shortened" JB f fd)(T:Txt K g mg)  : FnOk P w0 K mg base CX0 1 f fd ["name"] (ZaJ K g):=by
  refine F.ok Zdx (λ vs H Q E h=>?_) (λ cdv A outer s H vs Q E hr h=>?_)
  . obtain⟨x,rfl,_⟩:=h;rfl
  obtain⟨x,rfl,hx,q⟩:=h;refine⟨_,(
(Zg (Zj (Zq Zo (JO plainAttrs_str PySem.F.slot_str_rpartition PySem.F.type_str_rpartition Zhs (pv 0) (Za Zn Zd)) Zf (λ _ _=>rfl))))),?_⟩
  refine⟨_,rfl,rfl,x,dot,rfl,rfl,by decide +kernel,ZG (by omega),λ l hl=>?_⟩;have s1:=Zi hl;cases e:Builtin.Str.lastOccurrence x dot 0 x.length with
  |some i=>
    have u:up x=Builtin.Str.strSub x 0 i:=by unfold up;rw[e]
    refine⟨l,_,_,_,rfl,rfl,SqT.of Zb,rfl,?_⟩;rw[<- u];exact q _ (s1 _)
  |none=>
    have u:up x=Str.empty:=by unfold up;rw[e]
    refine⟨l,_,_,_,rfl,rfl,SqT.of Zb,rfl,?_⟩;rw[<- u];exact q _ (s1 _)
theorem ZdR {f:Addr}{fd:FuncData}(F:Fun K "parent_of" "parent_of" JC f fd)(T:Txt K g mg)(Qa0:Zf4 P w0 K g mg base)(Qa1:Zbz P w0 K g mg base):FnOk P w0 K mg base CX0 4 f fd ["name"] (ZaK K g):=by
  refine F.ok Zdy (λ vs H Q E h=>?_) (λ cdv A outer s H vs Q E hr h=>?_)
  . obtain⟨x,rfl,_⟩:=h;rfl
  obtain⟨x,rfl,hp,q⟩:=h;refine⟨_,(
(Ze (ZE (JN Zal Qa0 (h_ hr) (Za (pv 0) Zd)))
 (Zg (Zj (Zz Qa1 (h_ hr) (Za (pv 0) Zd)))))),?_⟩
  have xl:=X2 hp;have xl2:x.length<=200:=by omega
  walk_at "g";refine⟨(λ z=>by rw[hp]at z;cases z),λ _ l H1 s1 fl hl=>?_⟩;walk_at "g";exact λ H2 s2=>q H2 (s1.trans s2)
theorem Za4 {f:Addr}{fd:FuncData}(F:Fun K "__init__" "Lives.__init__" YB f fd)(T:Txt K g mg)  : FnOk P w0 K mg base CX0 1 f fd ["self"] (Xp K g):=by
  refine F.ok ZaW (λ vs H Q E h=>?_) (λ cdv A outer s H vs Q E hr h=>?_)
  . obtain⟨b,dx,rfl,_⟩:=h;rfl
  obtain⟨b,dx,rfl,hb,q⟩:=h;refine⟨_,(
(Ze (Zbe (pv 0) Yu rfl)
 (Ze (Zbe (pv 0) Yu rfl)
 (Zg (Zbe (pv 0) Yu rfl))))),?_⟩
  intro d1 h1;have n1:b≠d1:=Zk hb h1;refine⟨_,rfl,b,_,dx,_,rfl,(by rw[Zc n1];exact hb),T.Qaa,T.Qan,by decide,?_⟩;intro d2 h2;have z2:d2≠b:=λ e=>by rw[e,Zb]at h2;cases h2
  rw[Zc z2]at h2;have z21:d2≠d1:=λ e=>by rw[e,Zb]at h2;cases h2
  rw[Zc z21]at h2;refine⟨_,rfl,b,_,dx,_,rfl,(by rw[Zc (Ne.symm z2),Zb]),T.Qaa,T.QaC,(by show 1<1000;decide),?_⟩;intro d3 h3;have z3:d3≠b:=λ e=>by rw[e,Zb]at h3;cases h3
  rw[Zc z3]at h3;have z32:d3≠d2:=λ e=>by rw[e,Zb]at h3;cases h3
  rw[Zc z32,Zc z3]at h3;have z31:d3≠d1:=λ e=>by rw[e,Zb]at h3;cases h3
  rw[Zc z31]at h3;refine⟨_,rfl,b,_,dx,_,rfl,(by rw[Zc (Ne.symm z3),Zb]),T.Qaa,T.Qaq,(by show 2<1000;decide),?_⟩;refine q (JT b d1 d2 d3 []) _ ⟨λ a o na e=>?_,λ a e=>?_⟩ (λ a ha=>?_) ⟨⟨d1,d2,d3,[],⟨⟨dx,Zb⟩,?_,?_,?_,Ne.symm z21,Ne.symm z31,Ne.symm z32,(λ _ h=>nomatch h), .nil⟩,rfl,(λ _ h=>nomatch h),rfl⟩,Wf.nil⟩
  . have na:a≠b:=λ z=>na (by simp[z]);have a1:a≠d1:=Zk e h1;have a2:a≠d2:=Zk e h2;have a3:a≠d3:=Zk e h3;rw[Zc na,Zc a3,Zc na,Zc a2,Zc na,Zc a1];exact e
  . by_cases na:a=b
    . rw[na,Zb]at e;cases e
    . rw[Zc na]at e
      by_cases a3:a=d3
      . rw[a3,Zb]at e;cases e
      . rw[Zc a3,Zc na]at e
        by_cases a2:a=d2
        . rw[a2,Zb]at e;cases e
        . rw[Zc a2,Zc na]at e
          by_cases a1:a=d1
          . rw[a1,Zb]at e;cases e
          . rw[Zc a1]at e;exact e
  . unfold JT at ha;simp only[mem_cons,map_nil,not_mem_nil,or_false]at ha;rcases ha with rfl|rfl|rfl|rfl
    . exact .inl rfl
    . exact .inr h1
    . exact .inr h2
    . exact .inr h3
  . rw[Zc (Ne.symm n1),Zc (Ne.symm z31),Zc (Ne.symm n1),Zc (Ne.symm z21),Zc (Ne.symm n1),Zb];rfl
  . rw[Zc z2,Zc (Ne.symm z32),Zc z2,Zb];rfl
  . rw[Zc z3,Zb];rfl
theorem ZcE {f:Addr}{fd:FuncData}(F:Fun K "enter" "Lives.enter" XC f fd)(T:Txt K g mg)  : FnOk P w0 K mg base CX0 1 f fd ["self","name","year"] (Jt K g):=by
  refine F.ok Zck (λ vs H Q E h=>?_) (λ cdv A outer s H vs Q E hr h=>?_)
  . obtain⟨b,d1,d2,d3,bs,ds,ws,n,y,rfl,_⟩:=h;rfl
  obtain⟨b,d1,d2,d3,bs,ds,ws,n,y,rfl,B,hn,hw,l1,l2,q⟩:=h;refine⟨_,(
(Ze (YH (ZP hr) (ZI (pv 0) rfl) (pv 1) (pv 2) rfl)
 (Zg (YH (ZP hr) (ZI (pv 0) rfl) (pv 1) (Yt Zd) rfl)))),?_⟩
  obtain⟨dx,hb⟩:=B.obj;obtain⟨nb1,nb2,nb3⟩:=B.bne;have v0:Z4 (yrs bs) (Sum.inr n:Key)=none:=by
    have z:=ZZ bs n;rw[hn]at z;cases e:Z4 (yrs bs) (Sum.inr n:Key) with
    |none=>rfl
    |some v=>rw[e]at z;cases z
  refine⟨_,rfl,_,rfl,b,_,dx,_,_,rfl,hb,T.Qaa,T.Qan,rfl,_,rfl,d1,_,rfl,Zah.k (k:=Sum.inr n) B.h1 (Zs (by unfold yrs;rw[length_map];omega)),?_⟩;rw[Yq _ v0];have e1:yrs bs++[((Sum.inr n:Key),V.int y)]=yrs (bs++[(n,y)]):=by unfold yrs;rw[map_append];rfl
  rw[e1];refine⟨zero_le _,λ l hl=>?_⟩;obtain⟨B2,kp⟩:=B.entered (n:=n) (y:=y) hl rfl rfl;have hl0:H l=none:=by
    have z:d1≠l:=λ e=>by rw[<- e,Zb]at hl;cases hl
    rw[Zc (Ne.symm z)]at hl;exact hl
  have nlb:b≠l:=λ e=>by rw[e,hl0]at hb;cases hb
  have nl3:d3≠l:=λ e=>by have:=B.h3;rw[e,hl0]at this;cases this
  refine⟨_,rfl,b,_,dx,_,_,rfl,(by rw[Zc nlb,Zc nb1];exact hb),T.Qaa,T.Qaq,rfl,_,rfl,d3,_,rfl,Zah.k (k:=Sum.inr n) (by rw[Zc nl3,Zc (Ne.symm B.n13)];exact B.h3) (Zs (by unfold brs;rw[length_map];omega)),?_⟩;rw[Yq _ hw];have e3:brs ws++[((Sum.inr n:Key),V.ref l)]=brs (ws++[(n,l,0)]):=by unfold brs;rw[map_append];rfl
  rw[e3];exact q l _ hl0 kp B2
theorem ZcD {f:Addr}{fd:FuncData}(F:Fun K "known" "Lives.known" XB f fd)(T:Txt K g mg)  : FnOk P w0 K mg base CX0 1 f fd ["self","name"] (Js K g):=by
  refine F.ok Zcj (λ vs H Q E h=>?_) (λ cdv A outer s H vs Q E hr h=>?_)
  . obtain⟨b,bs,ds,R,n,rfl,_⟩:=h;rfl
  obtain⟨b,bs,ds,R,n,rfl,L,q⟩:=h;refine⟨_,(
(Zg (Zj (Zfa (ZdN (ZP hr) (pv 1) (ZI (pv 0) rfl)))))),?_⟩
  obtain⟨d1,d2,d3,ws,B,k1,k2,eR⟩:=id L.ex;obtain⟨dx,hb⟩:=B.obj;refine⟨_,rfl,_,rfl,b,_,dx,_,_,rfl,hb,T.Qaa,T.Qan,rfl,d1,_,rfl,B.births n,?_⟩;rw[ZZ];exact q
theorem Zae {f:Addr}{fd:FuncData}(F:Fun K "want_known" "Lives.want_known" Yj f fd)(T:Txt K g mg)(Qau:XH P w0 K g mg base):FnOk P w0 K mg base (CXR P w0 base) 2 f fd ["self","name"] (YY K g):=by
  refine F.okX Zab (λ vs H Q E h=>?_) (λ cdv A outer s H vs Q E hr h=>?_)
  . obtain⟨b,bs,ds,R,n,rfl,_⟩:=h;rfl
  obtain⟨b,bs,ds,R,n,rfl,L,qe,q⟩:=h;refine⟨_,(
(Zg (ZB (YC (Yl (Yc Zbu Qau (h_ hr) (pv 0) (Za (pv 1) Zd))))
 (Zg (Yr T.QcH.x T.Qcj Zn))
 Zp))),?_⟩
  obtain⟨d1,d2,d3,ws,B,k1,k2,eR⟩:=id L.ex;obtain⟨dx,hb⟩:=B.obj;refine⟨_,rfl,b,dx,_,rfl,hb,rfl,_,rfl,b,bs,ds,R,n,rfl,L,_,rfl,?_⟩;cases e:has bs n with
  |false=>exact Z8 ⟨rfl,qe e⟩
  |true=>exact ZU (q e)
theorem ZcH {f:Addr}{fd:FuncData}(F:Fun K "alive" "Lives.alive" XF f fd)(T:Txt K g mg)  : FnOk P w0 K mg base CX0 1 f fd ["self","name"] (Jw K g):=by
  refine F.ok Zcm (λ vs H Q E h=>?_) (λ cdv A outer s H vs Q E hr h=>?_)
  . obtain⟨b,bs,ds,R,n,rfl,_⟩:=h;rfl
  obtain⟨b,bs,ds,R,n,rfl,L,q⟩:=h;refine⟨_,(
(Zg (Zj (ZaB (Zfa (ZdN (ZP hr) (pv 1) (ZI (pv 0) rfl))) (Zcu (Zfa (Yn (ZP hr) (pv 1) (ZI (pv 0) rfl)))))))),?_⟩
  obtain⟨d1,d2,d3,ws,B,k1,k2,eR⟩:=id L.ex;obtain⟨dx,hb⟩:=B.obj;refine⟨_,rfl,_,rfl,b,_,dx,_,_,rfl,hb,T.Qaa,T.Qan,rfl,d1,_,rfl,B.births n,_,rfl,?_⟩;unfold al at q;rw[ZZ];cases e:has bs n with
  |false=>
    rw[e]at q;exact ZU q
  |true=>
    rw[e]at q;refine Z8 ⟨_,rfl,_,rfl,b,_,dx,_,_,rfl,hb,T.Qaa,T.QaC,rfl,d2,_,rfl,B.deaths n,?_⟩;rw[ZZ];exact q
theorem Zaf {f:Addr}{fd:FuncData}(F:Fun K "want_alive" "Lives.want_alive" Yk f fd)(T:Txt K g mg)(Qae:ZT P w0 K g mg base)(Qav:XJ P w0 K g mg base):FnOk P w0 K mg base (CXR P w0 base) 3 f fd ["self","name"] (YZ K g):=by
  refine F.okX Zac (λ vs H Q E h=>?_) (λ cdv A outer s H vs Q E hr h=>?_)
  . obtain⟨b,bs,ds,R,n,rfl,_⟩:=h;rfl
  obtain⟨b,bs,ds,R,n,rfl,L,q1,q2,q⟩:=h;refine⟨_,(
(Ze (ZE (Yc Xf Qae (h_ hr) (pv 0) (Za (pv 1) Zd)))
 (Zg (ZB (YC (Yl (Yc Zbu Qav (h_ hr) (pv 0) (Za (pv 1) Zd))))
 (Zg (Yr T.QcG.x T.QcE Zn))
 Zp)))),?_⟩
  obtain⟨d1,d2,d3,ws,B,k1,k2,eR⟩:=id L.ex;obtain⟨dx,hb⟩:=B.obj;refine⟨_,rfl,b,dx,_,rfl,hb,rfl,_,rfl,b,bs,ds,R,n,rfl,L,q1,λ hn=>?_⟩;refine⟨_,rfl,b,dx,_,rfl,hb,rfl,_,rfl,b,bs,ds,R,n,rfl,L,_,rfl,?_⟩;unfold al;rw[hn];cases e:has ds n with
  |false=>exact ZU (q hn e)
  |true=>exact Z8 ⟨rfl,q2 hn e⟩
theorem ZbO {f:Addr}{fd:FuncData}(F:Fun K "arrive" "Lives.arrive" Xb f fd)(T:Txt K g mg)(Qaw:JU P w0 K g mg base)(Qau:XH P w0 K g mg base)(Qax:XI P w0 K g mg base):FnOk P w0 K mg base (CXR P w0 base) 4 f fd ["self","word","born"] (Je K g):=by
  refine F.okX ZbI (λ vs H Q E h=>?_) (λ cdv A outer s H vs Q E hr h=>?_)
  . obtain⟨b,bs,ds,R,n,y,rfl,_⟩:=h;rfl
  obtain⟨b,bs,ds,R,n,y,rfl,L,hx,hl,q1,q2,q⟩:=h;refine⟨_,(
(Ze (ZE (JN Xf Qaw (h_ hr) (Za (pv 1) Zd)))
 (Ze (ZB (Yl (Yc Zbu Qau (h_ hr) (pv 0) (Za (pv 1) Zd)))
 (Zg (Yr T.Qck.x T.Qci Zn))
 Zp)
 (Zg (ZE (Yc Zbu Qax (h_ hr) (pv 0) (Za (pv 1) (Za (pv 2) Zd)))))))),?_⟩
  obtain⟨d1,d2,d3,ws,B,k1,k2,eR⟩:=id L.ex;obtain⟨dx,hb⟩:=B.obj;have wl:ws.length=bs.length:=by rw[<- length_map (f:=λ p=>p.1),k1,length_map]
  refine⟨_,rfl,n,rfl,hx,q1,λ hg=>?_⟩;refine⟨_,rfl,b,dx,_,rfl,hb,rfl,_,rfl,b,bs,ds,R,n,rfl,L,_,rfl,?_⟩;cases hn:has bs n with
  |true=>exact Z8 ⟨rfl,q2 hg hn⟩
  |false=>
    refine ZU ?_;refine⟨_,rfl,b,dx,_,rfl,hb,rfl,_,rfl,_,rfl,b,d1,d2,d3,bs,ds,ws,n,y,rfl,B,hn,Zhn k1 hn,by omega,by omega,λ l H' hl0 kp B2=>?_⟩;have c:=ZeN (l:=l) (y:=y) L.wf k1 k2 hg hn;subst eR;exact q hg hn _ H' (kp.wide (λ a ha=>by simp only[mem_cons,not_mem_nil,or_false]at ha;rcases ha with rfl|rfl;exact J8.2.1;exact J8.2.2.2.1)) (Zdj rfl hl0) ⟨⟨d1,d2,d3,_,B2,c.1,c.2,rfl⟩,L.wf.arrive hg hn (by omega)⟩
theorem ZcG {f:Addr}{fd:FuncData}(F:Fun K "birth" "Lives.birth" XE f fd)(T:Txt K g mg)(Qay:Ym P w0 K g mg base)(Qax:XI P w0 K g mg base):FnOk P w0 K mg base (CXR P w0 base) 4 f fd ["self","name","year"] (Jv K g):=by
  refine F.okX Jz (λ vs H Q E h=>?_) (λ cdv A outer s H vs Q E hr h=>?_)
  . obtain⟨b,bs,ds,R,n,y,rfl,_⟩:=h;rfl
  obtain⟨b,bs,ds,R,n,y,rfl,L,hl,h99,q1,q2,q3,q⟩:=h;refine⟨_,(
(Ze (ZE (Yc Xf Qay (h_ hr) (pv 0) (Za (pv 1) Zd)))
 (Ze (ZB (Zm op_ge (JO plainAttrs_str slot_str_count type_str_count ZcI (pv 1) (Za Zn Zd)) (YI (v:=.int 5) rfl T.Qcl ⟨_,rfl⟩) (Zt _))
 (Zg (Yr T.QcJ.x T.QcF Zn))
 Zp)
 (Ze (Zu (i:=3) Jz.nd rfl (Or.inl rfl) (pe_fs (pv 1) (Zl Z7 (Zr Zy rfl T.z_len boot_len (Za (Xq (ZP hr) (ZI (pv 0) rfl) (pv 1) (λ _ _=>rfl)) Zd)) Zf)))
 (Ze (ZE (JO plainAttrs_list PySem.F.slot_list_append PySem.F.type_list_append Y3 (Xq (ZP hr) (ZI (pv 0) rfl) (pv 1) (λ _ _=>rfl)) (Za (pv 3) Zd)))
 (Ze (ZE (Yc Zbu Qax (h_ hr) (pv 0) (Za (pv 3) (Za (pv 2) Zd))))
 (Zg (Zj (pv 3))))))))),?_⟩
  obtain⟨d1,d2,d3,ws,B,k1,k2,eR⟩:=id L.ex;obtain⟨dx,hb⟩:=B.obj;have wl:ws.length=bs.length:=by rw[<- length_map (f:=λ p=>p.1),k1,length_map]
  refine⟨_,rfl,b,dx,_,rfl,hb,rfl,_,rfl,b,bs,ds,R,n,rfl,L,q1,q2,λ hn hd=>?_⟩;refine⟨_,rfl,rfl,n,dot,rfl,rfl,_,_,rfl,rfl,_,rfl,Yb (λ z=>?_) (λ z=>?_)⟩
  . exact⟨rfl,q3 hn hd (by have z':=of_decide_eq_true z;unfold ZN;omega)⟩
  have hdot:ZN n<5:=by
    have z':¬ ((5:Int)<=(ZN n:Nat)):=λ w=>z (decide_eq_true w);omega
  have hx:=X2 (L.wf.wrt n hn);obtain⟨a,hw⟩:=ZhY k1 k2 hn;have g0:Z3 H d3 (.str n) (Z4 (brs ws) (Sum.inr n:Key)):=Z3.k (k:=Sum.inr n) B.h3;rw[Zb3,hw]at g0;have ha:=B.kids _ (Zb1 hw);have kl:(YL n (nk bs n)).length=nk bs n:=by unfold YL;rw[length_map,length_range]
  have c0:(0:Int)<=((nk bs n:Nat):Int)+1:=by omega
  have c1:((nk bs n:Nat):Int)+1<131:=by omega
  have tl:=ZeY c0 c1;have l3:(n++dot).length=n.length+1:=by rw[XR];rfl
  refine⟨_,rfl,n,rfl,ZG (by omega),ZG (by rw[show(n++(".":Str)).length=n.length+1 from l3];omega),?_⟩;refine⟨_,rfl,b,_,dx,_,_,rfl,hb,T.Qaa,T.Qaq,rfl,_,rfl,d3,_,rfl,g0,_,_,rfl, .inl ⟨_,SqL.of ha,rfl⟩,_,_,rfl,rfl,((nk bs n:Nat):Int)+1,(by rw[kl]),J6 c0 c1,ZG (by rw[XR,show(n++(".":Str)).length=n.length+1 from l3];omega),?_⟩;refine⟨_,rfl,b,_,dx,_,_,rfl,hb,T.Qaa,T.Qaq,rfl,_,rfl,d3,_,rfl,g0, .inl ⟨rfl,_,SqL.of ha⟩,_,rfl,a,_,_,rfl,rfl,ha,Zs (by rw[kl];omega),?_⟩;rw[show YL n (nk bs n)++[V.str (n++(".":Str)++(toString (((nk bs n:Nat):Int)+1):Str))]=YL n (nk bs n+1) from Zdh n (nk bs n)];have hk:(ws.map λ p=>p.1).Nodup:=by rw[k1];exact L.wf.nod
  have B2:=B.grown hk (Zb1 hw);obtain⟨dx2,hb2⟩:=B2.obj;have hn2:=L.wf.no_kid n;refine⟨_,rfl,b,dx2,_,rfl,hb2,rfl,_,rfl,_,rfl,b,d1,d2,d3,bs,ds,L2.bump ws n,kid n (nk bs n),y,rfl,B2,hn2,by rw[ZeR];exact Zhn k1 hn2,by omega,by unfold L2.bump;rw[length_map];omega,λ l H' hl1 kp B3=>?_⟩;have hl0:H l=none:=by
    have z:l≠a:=λ e=>by rw[e,Zb]at hl1;cases hl1
    rw[Zc z]at hl1;exact hl1
  have c:=ZeO (l:=l) (y:=y) L.wf k1 k2 hn (by omega);subst eR;refine⟨_,rfl,q hn hd hdot _ H' ?_ (Zdj (ZeT ws n) hl0) ⟨⟨d1,d2,d3,_,B3,c.1,c.2,rfl⟩,L.wf.birth hn hdot (by omega) h99⟩⟩;have k0:ZS (JT b d1 d2 d3 ws) H (upd H a (.lst (YL n (nk bs n+1)))):=Xi.wide (λ x hx=>by rw[List.mem_singleton.mp hx];exact J8.2.2.2.2 _ (Zb1 hw));exact k0.tr kp (λ x hx=>by simp only[mem_cons,not_mem_nil,or_false]at hx;rcases hx with rfl|rfl;exact .inl J8.2.1;exact .inl J8.2.2.2.1)
theorem ZcF {f:Addr}{fd:FuncData}(F:Fun K "death" "Lives.death" XD f fd)(T:Txt K g mg)(Qay:Ym P w0 K g mg base):FnOk P w0 K mg base (CXR P w0 base) 4 f fd ["self","name","year"] (Ju K g):=by
  refine F.okX Zcl (λ vs H Q E h=>?_) (λ cdv A outer s H vs Q E hr h=>?_)
  . obtain⟨b,bs,ds,R,n,y,rfl,_⟩:=h;rfl
  obtain⟨b,bs,ds,R,n,y,rfl,L,hl,q1,q2,q⟩:=h;refine⟨_,(
(Ze (ZE (Yc Xf Qay (h_ hr) (pv 0) (Za (pv 1) Zd)))
 (Zg (YH (ZP hr) (ZI (pv 0) rfl) (pv 1) (pv 2) rfl)))),?_⟩
  obtain⟨d1,d2,d3,ws,B,k1,k2,eR⟩:=id L.ex;obtain⟨dx,hb⟩:=B.obj;refine⟨_,rfl,b,dx,_,rfl,hb,rfl,_,rfl,b,bs,ds,R,n,rfl,L,q1,q2,λ hn hd=>?_⟩;refine⟨_,rfl,_,rfl,b,_,dx,_,_,rfl,hb,T.Qaa,T.QaC,rfl,_,rfl,d2,_,rfl,Zah.k (k:=Sum.inr n) B.h2 (Zs (by unfold yrs;rw[length_map];omega)),?_⟩;rw[Yq _ (J5 hd),J2];obtain⟨B2,kp⟩:=B.died (ds':=ds++[(n,y)]);subst eR;exact q hn hd _ (kp.wide (λ a ha=>by rw[List.mem_singleton.mp ha];exact J8.2.2.1)) ⟨⟨d1,d2,d3,ws,B2,k1,k2,rfl⟩,L.wf.death hn⟩
theorem ZbP {f:Addr}{fd:FuncData}(F:Fun K "age_in" "Lives.age_in" Xc f fd)(T:Txt K g mg)(Qae:ZT P w0 K g mg base):FnOk P w0 K mg base (CXR P w0 base) 3 f fd ["self","name","year"] (Jf K g):=by
  refine F.okX ZbJ (λ vs H Q E h=>?_) (λ cdv A outer s H vs Q E hr h=>?_)
  . obtain⟨b,bs,ds,R,n,t,rfl,_⟩:=h;rfl
  obtain⟨b,bs,ds,R,n,t,rfl,L,q1,q⟩:=h;refine⟨_,(
(Ze (ZE (Yc Xf Qae (h_ hr) (pv 0) (Za (pv 1) Zd)))
 (Zg (Zj (Zl Zcv (Zer (ZP hr) (ZI (pv 0) rfl) (pv 1) (pv 2) ⟨rfl,rfl,rfl,rfl⟩) (Xq (ZP hr) (ZI (pv 0) rfl) (pv 1) (λ _ _=>rfl))))))),?_⟩
  obtain⟨d1,d2,d3,ws,B,k1,k2,eR⟩:=id L.ex;obtain⟨dx,hb⟩:=B.obj;refine⟨_,rfl,b,dx,_,rfl,hb,rfl,_,rfl,b,bs,ds,R,n,rfl,L,q1,λ hn=>?_⟩;have hn':=hn;unfold has at hn';cases hy:yr bs n with
  |none=>rw[hy]at hn';cases hn'
  |some y=>
    have g0:=B.births n;rw[Zb2,hy]at g0;have g1:=B.deaths n;rw[Zb2]at g1;refine⟨_,rfl,b,_,dx,_,_,rfl,hb,T.Qaa,T.QaC,rfl,d2,rfl, .inl ⟨_, .inl B.h2⟩,_,rfl,_,rfl,_,g1,_,rfl,b,_,dx,_,_,rfl,hb,T.Qaa,T.Qan,rfl,_,rfl,d1,_,rfl,g0,(yr ds n).getD t,y,?_,rfl,q y hy⟩;cases yr ds n <;> rfl
theorem Za3 {f:Addr}{fd:FuncData}(F:Fun K "children" "Lives.children" YA f fd)(T:Txt K g mg)(Qae:ZT P w0 K g mg base):FnOk P w0 K mg base (CXR P w0 base) 3 f fd ["self","name"] (Xo K g):=by
  refine F.okX ZaV (λ vs H Q E h=>?_) (λ cdv A outer s H vs Q E hr h=>?_)
  . obtain⟨b,bs,ds,R,n,rfl,_⟩:=h;rfl
  obtain⟨b,bs,ds,R,n,rfl,L,q1,q⟩:=h;refine⟨_,(
(Ze (ZE (Yc Xf Qae (h_ hr) (pv 0) (Za (pv 1) Zd)))
 (Zg (Zj (YD (show Xk _ (.type "list") (Zg8 K) from Zfr) rfl T.z_list boot_list (Za (Xq (ZP hr) (ZI (pv 0) rfl) (pv 1) (λ _ _=>rfl)) Zd)))))),?_⟩
  obtain⟨d1,d2,d3,ws,B,k1,k2,eR⟩:=id L.ex;obtain⟨dx,hb⟩:=B.obj;refine⟨_,rfl,b,dx,_,rfl,hb,rfl,_,rfl,b,bs,ds,R,n,rfl,L,q1,λ hn=>?_⟩;obtain⟨a,hw⟩:=ZhY k1 k2 hn;have g0:Z3 H d3 (.str n) (Z4 (brs ws) (Sum.inr n:Key)):=Z3.k (k:=Sum.inr n) B.h3;rw[Zb3,hw]at g0;exact⟨_,rfl,b,_,dx,_,_,rfl,hb,T.Qaa,T.Qaq,rfl,_,rfl,d3,_,rfl,g0,a,_,rfl, .inl (SqL.of (B.kids _ (Zb1 hw))),λ l hl=>q hn l _ (Zi hl _) hl Zb⟩
theorem ZcC {f:Addr}{fd:FuncData}(F:Fun K "names" "Lives.names" XA f fd)(T:Txt K g mg)  : FnOk P w0 K mg base CX0 1 f fd ["self"] (Jr K g):=by
  refine F.ok Zci (λ vs H Q E h=>?_) (λ cdv A outer s H vs Q E hr h=>?_)
  . obtain⟨b,bs,ds,R,rfl,_⟩:=h;rfl
  obtain⟨b,bs,ds,R,rfl,L,q⟩:=h;refine⟨_,(
(Zg (Zj (YD (ZcY rfl) rfl T.z_list boot_list (Za (ZI (pv 0) rfl) Zd))))),?_⟩
  obtain⟨d1,d2,d3,ws,B,k1,k2,eR⟩:=id L.ex;obtain⟨dx,hb⟩:=B.obj;refine⟨_,rfl,b,_,dx,_,_,rfl,hb,T.Qaa,T.Qan,rfl,d1,_,rfl, .inl B.h1,λ l hl=>?_⟩;have e:(yrs bs).map (λ p=>kV p.1)=bs.map λ p=>V.str p.1:=by
    unfold yrs;rw[map_map];rfl
  rw[e];exact q l _ (Zi hl _) hl Zb
theorem Zgs {f:Addr}{fd:FuncData}(F:Fun K "common" "common" Zcs f fd)(T:Txt K g mg)  : FnOk P w0 K mg base CX0 1 f fd ["one","other"] (Zc8 K g):=by
  refine F.ok Zdc (λ vs H Q E h=>?_) (λ cdv A outer s H vs Q E hr h=>?_)
  . obtain⟨a,b,rfl,_⟩:=h;rfl
  obtain⟨a,b,rfl,ha,hb,q⟩:=h;refine⟨_,(
(Ze (JK PassesOwn.never (Zm JP (pv 1) Zf (Zt _))
 (Zg (Zhd (i:=0) (j:=1) rfl Zdc.nd rfl rfl (by decide) rfl rfl (Za (pv 1) (Za (Zl Z6 (pv 0) (pv 1)) Zd)) rfl)))
 (Zg (Zj (pv 0))))),?_⟩
  refine ZaG (λ σ H'=>∃ x y:Int,σ=[some (.int x),some (.int y)]/\0<=x/\0<=y/\Sh.G x y=Sh.G a b/\H'=H) (λ σ _=>match σ with|[_,some (.int y)]=>y.toNat|_=>0) ⟨a,b,rfl,ha,hb,rfl,rfl⟩ ?_ ?_
  . rintro σ H' ⟨x,y,rfl,hx,hy,hg,rfl⟩;refine⟨_,rfl,_,_,rfl,rfl,_,rfl,?_⟩;refine Yb (λ c=>?_) (λ c=>?_)
    . have c':0<y:=of_decide_eq_true c;refine⟨_,rfl,_,rfl,_,rfl,_,_,rfl,rfl,c',_,_,rfl,⟨y,x % y,rfl,hy,emod_nonneg x (by omega),(Sh.G_step hx c').trans hg,rfl⟩,?_⟩;have h1:=emod_lt_of_pos x c';have h2:=emod_nonneg x (show y≠0 by omega);show(x % y).toNat<y.toNat;omega
    . have c':¬ 0<y:=of_decide_eq_false (Bool.eq_false_iff.mpr c);refine⟨_,rfl,?_⟩;have e:x=Sh.G a b:=(Sh.G_zero hx hy c').trans hg;rw[e];exact q
  . rintro σ H Q Q' h ⟨v,e,i,j,e1,e2,k,e3,q⟩;exact⟨v,e,i,j,e1,e2,k,e3,h _ _ q⟩
theorem Zgq {f:Addr}{fd:FuncData}(F:Fun K "lowest" "lowest" Zcp f fd)(T:Txt K g mg)(Qa2:ZeM P w0 K g mg base):FnOk P w0 K mg base CX0 2 f fd ["num","den"] (Zc6 K g):=by
  refine F.ok Zdb (λ vs H Q E h=>?_) (λ cdv A outer s H vs Q E hr h=>?_)
  . obtain⟨n,d,rfl,_⟩:=h;rfl
  obtain⟨n,d,rfl,hn,hd,hs,q⟩:=h;refine⟨_,(
(Ze (Zu (i:=2) Zdb.nd rfl (Or.inl rfl) (Zz Qa2 (h_ hr) (Za (pv 0) (Za (pv 1) Zd))))
 (Zg (Zj (ZW (Za (Zl Za1 (pv 0) (pv 2)) (Za (Zl Za1 (pv 1) (pv 2)) Zd))))))),?_⟩
  have g0:=Sh.G_pos (a:=n) hd;have g1:=Sh.G_le (a:=n) hd;have g2:(Sh.G n d).natAbs<BIG:=Nat.lt_of_le_of_lt (by omega) hs;refine⟨_,rfl,_,rfl,n,d,rfl,hn,Int.le_of_lt hd,?_⟩;exact⟨_,rfl,_,rfl,_,_,rfl,rfl,⟨g0,g2⟩,_,rfl,_,rfl,_,_,rfl,rfl,⟨g0,g2⟩,(by show 2<=sizeLine;decide),q⟩
theorem Zit {f:Addr}{fd:FuncData}(F:Fun K "plus" "plus" Ze3 f fd)(T:Txt K g mg)(Qaz:ZcS P w0 K g mg base):FnOk P w0 K mg base CX0 3 f fd ["one","other"] (Zfx K g):=by
  refine F.ok Zic (λ vs H Q E h=>?_) (λ cdv A outer s H vs Q E hr h=>?_)
  . obtain⟨p,q,a,b,c,d,rfl,_⟩:=h;rfl
  obtain⟨p,q,a,b,c,d,rfl,t,k⟩:=h;refine⟨_,(
(Zg (Zj (Zz Qaz (h_ hr) (Za (Zl Z7 (Zl Xr (Zq Zo (pv 0) Zf (λ _ _=>rfl)) (Zq Zo (pv 1) Zf (λ _ _=>rfl))) (Zl Xr (Zq Zo (pv 1) Zf (λ _ _=>rfl)) (Zq Zo (pv 0) Zf (λ _ _=>rfl)))) (Za (Zl Xr (Zq Zo (pv 0) Zf (λ _ _=>rfl)) (Zq Zo (pv 1) Zf (λ _ _=>rfl))) Zd)))))),?_⟩
  exact⟨_,rfl,p,_,_,_,rfl,rfl,t.h1,rfl,_,rfl,q,_,_,_,rfl,rfl,t.h2,rfl,_,_,rfl,rfl,⟨t.ba,t.bdd⟩,_,rfl,q,_,_,_,rfl,rfl,t.h2,rfl,_,rfl,p,_,_,_,rfl,rfl,t.h1,rfl,_,_,rfl,rfl,⟨t.bc,t.bb⟩,_,_,rfl,rfl,
    _,rfl,p,_,_,_,rfl,rfl,t.h1,rfl,_,rfl,q,_,_,_,rfl,rfl,t.h2,rfl,_,_,rfl,rfl,⟨t.bb,t.bdd⟩,_,_,rfl,Int.add_nonneg t.ad.1 t.cb.1,t.bd.1,t.bBD,k⟩
theorem Zhi {f:Addr}{fd:FuncData}(F:Fun K "times" "times" ZdD f fd)(T:Txt K g mg)(Qaz:ZcS P w0 K g mg base):FnOk P w0 K mg base CX0 3 f fd ["one","other"] (Zek K g):=by
  refine F.ok Zg1 (λ vs H Q E h=>?_) (λ cdv A outer s H vs Q E hr h=>?_)
  . obtain⟨p,q,a,b,c,d,rfl,_⟩:=h;rfl
  obtain⟨p,q,a,b,c,d,rfl,t,k⟩:=h;refine⟨_,(
(Zg (Zj (Zz Qaz (h_ hr) (Za (Zl Xr (Zq Zo (pv 0) Zf (λ _ _=>rfl)) (Zq Zo (pv 1) Zf (λ _ _=>rfl))) (Za (Zl Xr (Zq Zo (pv 0) Zf (λ _ _=>rfl)) (Zq Zo (pv 1) Zf (λ _ _=>rfl))) Zd)))))),?_⟩
  exact⟨_,rfl,p,_,_,_,rfl,rfl,t.h1,rfl,_,rfl,q,_,_,_,rfl,rfl,t.h2,rfl,_,_,rfl,rfl,⟨t.ba,t.bc⟩,
    _,rfl,p,_,_,_,rfl,rfl,t.h1,rfl,_,rfl,q,_,_,_,rfl,rfl,t.h2,rfl,_,_,rfl,rfl,⟨t.bb,t.bdd⟩,_,_,rfl,t.ac.1,t.bd.1,t.bBD,k⟩
theorem ZdS {f:Addr}{fd:FuncData}(F:Fun K "ledger_of" "ledger_of" JD f fd)(T:Txt K g mg)  : FnOk P w0 K mg base CX0 1 f fd ["held"] (ZaL K g):=by
  refine F.ok Zdz (λ vs H Q E h=>?_) (λ cdv A outer s H vs Q E hr h=>?_)
  . obtain⟨d,es,rfl,_⟩:=h;rfl
  obtain⟨d,es,rfl,hD,hnd,hlen,hN,q⟩:=h;refine⟨_,(
(Zg (Zj (ZfE (x:="name") (cl:=[("held",s.heap.objs.size+1)]) (caps:=[("held",0)]) rfl (Yg (Zr (Zed rfl) rfl T.z_sorted PyProof.Rows.boot_sorted (Za (pv 0) Zd))) (λ _ _ _ _ _=>JM (Zm (show OpR _ (compareOp .NotEq) (rEqD K true) from Zfb hr.units) (Xq (ZP hr) (pv 1) (pv 0) (λ _ _=>rfl)) (YI (v:=.ref g.NOUGHT) rfl T.Qcn rfl) (Zt _))) (λ _ _ _ _ _=>(ZW (Za (pv 0) (Za (Zq (show IxR _ (rIxT K) from Zo) (Xq (ZP hr) (pv 1) (pv 0) (λ _ _=>rfl)) Zf (λ _ _=>rfl)) (Za (Zq (show IxR _ (rIxT K) from Zo) (Xq (ZP hr) (pv 1) (pv 0) (λ _ _=>rfl)) Zf (λ _ _=>rfl)) Zd))))) rfl (by decide +kernel) rfl (by decide +kernel) rfl (λ _ _ h=>h) (XG rfl) (λ p hp=>by rw[List.mem_singleton.mp hp];exact⟨rfl,rfl,by first|exact .inl rfl|exact .inr rfl⟩) (by decide +kernel))))),?_⟩
  obtain⟨ws,hw,hW⟩:=id hD;refine⟨_,rfl,d,_,Yf es,rfl, .inl hW.1,ZhF hw,by rw[Zfk hw];omega,λ ss l hp hs hl=>?_⟩;have s1:Zv H (upd H l (.lst (ss.map V.str))):=Zi hl _;have hsl:ss.length<=60:=by rw[hp.length_eq];unfold Yf;rw[length_map];omega
  refine⟨l,rfl,⟨_,SqL.of Zb⟩,λ D hD0=>⟨λ i m H2=>i<=ss.length/\m=ss.length - i/\Zv (upd H l (.lst (ss.map V.str))) H2/\Led H2 D (ZdI es (ss.take i)),⟨ss.length,zero_le _,rfl,Zi hD0 _,[],rfl,Zb,λ _ h=>nomatch h⟩,?_⟩⟩;rintro i m H2 ⟨hi,rfl,sm,hled⟩;have hl2:SqL K H2 l (ss.map V.str):=sm.seq (SqL.of Zb)
  by_cases ci:i<ss.length
  . refine .inr ⟨⟨_, .str ss[i],hl2,by simp[ci]⟩,λ x H' ⟨e,ex⟩=>?_⟩;subst e;have ex':=ex _ hl2;rw[getElem?_map,getElem?_eq_getElem ci]at ex';cases ex';obtain⟨ws2,hw2,hW2⟩:=hD.same (s1.trans sm);have kin:ss[i]∈Yf es:=hp.mem_iff.mp (getElem_mem ci);rcases Dic.get (k:=ss[i]) hw2 hW2 with ⟨p,g1,g2,_⟩|⟨_,_,nk⟩
    . have hget:Z3 H' d (.str ss[i]) (some (.ref p)):=by rw[<- g1];exact Z3.k (k:=Sum.inr ss[i]) hW2.1
      have hn:=hN _ (ZeG kin);refine⟨_,rfl,_,rfl,d,_,rfl,hget,shD _ _,shD 0 1,Zg6 g2,Zg6 (T.QaY _),Zc9 _ _,Zc9 _ _,_,rfl,?_⟩;refine Yb (λ c=>?_) (λ c=>?_)
      . have c':(look es ss[i]).1≠0:=(ZfL (k:=ss[i]) (n:=(look es ss[i]).1) (d:=(look es ss[i]).2) hn).mp c;refine⟨_,rfl,_,rfl,_,rfl,d,_,rfl,hget,p,_,_,_,rfl,rfl,g2,rfl,_,rfl,_,rfl,d,_,rfl,hget,p,_,_,_,rfl,rfl,g2,rfl,(by show 3<=sizeLine;decide),λ r hr0=>?_⟩;obtain⟨ys,y1,y2,y3⟩:=Led.push (e:=(ss[i],look es ss[i])) hled hr0;refine⟨ys,ss.length - (i+1),y2,Zs ?_,by omega,ci,rfl,Zcn sm hD0 hr0,?_⟩
        . rw[y1];unfold ZdI;rw[length_map];exact le_trans (length_filter_le _ _) (by rw[length_take];omega)
        . rw[Zdd ci,if_pos c'];exact y3
      . have c':¬ (look es ss[i]).1≠0:=λ z=>c ((ZfL (k:=ss[i]) (n:=(look es ss[i]).1) (d:=(look es ss[i]).2) hn).mpr z);exact⟨ss.length - (i+1),by omega,ci,rfl,sm,by rw[Zdd ci,if_neg c'];exact hled⟩
    . exact absurd kin nk
  . have e:i=ss.length:=by omega
    subst e;rw[take_length]at hled;exact .inl ⟨⟨_,hl2,by simp⟩,q D H2 _ (s1.trans sm) (s1.free hD0) hled (ZhX hnd hp hs)⟩
theorem Zhk {f:Addr}{fd:FuncData}(F:Fun K "mixed" "mixed" ZdF f fd)(T:Txt K g mg)(Qa3:ZbB P w0 K g mg base)(Qa4:ZhT P w0 K g mg base)(Qa5:Zf3 P w0 K g mg base):FnOk P w0 K mg base CX0 4 f fd ["ledgers"] (Zem K g):=by
  refine F.ok Y6 (λ vs H Q E h=>?_) (λ cdv A outer s H vs Q E hr h=>?_)
  . obtain⟨L,ls,rfl,_⟩:=h;rfl
  obtain⟨L,ls,rfl,hL,mo,q⟩:=h;refine⟨_,(
(Ze (Zu (i:=1) Y6.nd rfl (Or.inr rfl) Yu)
 (Ze (Ys PassesOwn.never rfl (Yg (pv 0)) (ZD (i:=2) Y6.nd rfl (Or.inl rfl))
 (Zg (Ys PassesOwn.never rfl (Yg (pv 2)) (ZdK rfl (ZV (ZD (i:=3) Y6.nd rfl (Or.inl rfl)) (ZV (ZD (i:=4) Y6.nd rfl (Or.inl rfl)) (ZV (ZD (i:=5) Y6.nd rfl (Or.inl rfl)) ZaZ))))
 (Zg (YH (ZP hr) (pv 1) (pv 3) (Zz Qa4 (h_ hr) (Za (Zer (ZP hr) (pv 1) (pv 3) (YI (v:=.ref g.NOUGHT) rfl T.Qcn rfl) ⟨rfl,rfl,rfl,rfl⟩) (Za (ZW (Za (pv 4) (Za (pv 5) Zd))) Zd))) rfl)))))
 (Ze (Zu (i:=6) Y6.nd rfl (Or.inr rfl) (ZW (Za Zf (Za (Zr Zy rfl T.z_len boot_len (Za (pv 0) Zd)) Zd))))
 (Zg (Zj (Zz Qa3 (h_ hr) (Za (pe_dc (xs:=["name"]) (cl:=[("part",s.heap.objs.size+1+1),("held",s.heap.objs.size+1)]) (caps:=[("held",1),("part",6)]) rfl (ZdJ (pv 1)) (λ _ _ _ _ _=>ZD (i:=0) (show List.Nodup (["name","held","part"]:List Str) by decide +kernel) rfl (Or.inl rfl)) (λ _ _ _ _ _=>pv 0) (λ _ _ _ _ _=>Zz Qa5 (h_ hr) (Za (Xq (ZP hr) (pv 1) (pv 0) (λ _ _=>rfl)) (Za (pv 2) Zd))) rfl (by decide +kernel) rfl (by decide +kernel) (λ _ _ h=>h) (XG rfl) (λ p hp=>by rcases List.mem_cons.mp hp with rfl|hp;exact⟨rfl,rfl,by first|exact .inl rfl|exact .inr rfl⟩;rw[List.mem_singleton.mp hp];exact⟨rfl,rfl,by first|exact .inl rfl|exact .inr rfl⟩)) Zd)))))))),?_⟩
  intro d hd0;have s0:Zv H (upd H d (.dK [])):=Zi hd0 _;obtain⟨xs,hx,hxl⟩:=hL.len;rw[length_map]at hxl;refine⟨_,rfl,L,rfl,⟨xs,s0.seq (SqL.of hx)⟩,JS (xs:=xs) (λ i σ H2=>Zv H H2/\Dic K H2 d ((ls.take i).flatten.map ue)/\∃ v2 v3 v4 v5,σ=[some (.ref L),some (.ref d),v2,v3,v4,v5,none]) ⟨s0,⟨[],rfl,Zb,λ _ h=>nomatch h⟩,_,_,_,_,rfl⟩ ?_ ?_ ?_⟩
  . rintro i σ H2 _ ⟨sm,_⟩;exact sm.seq (SqL.of hx)
  . rintro i x σ H2 hxi ⟨sm,hD,v2,v3,v4,v5,rfl⟩;obtain⟨p,es0,rfl,he0,hp⟩:=(hL.same sm).at (sm _ _ hx) hxi;rw[getElem?_map]at he0;obtain⟨es,he,rfl⟩:=Option.map_eq_some_iff.mp he0;have ci:i<ls.length:=(List.getElem?_eq_some_iff.mp he).1;obtain⟨ys,hy,hyl⟩:=hp.len;rw[length_map]at hyl;refine⟨_,rfl,p,rfl,⟨ys,SqL.of hy⟩,JS (xs:=ys) (λ j σ H3=>Zv H H3/\Led H3 p (es.map ue)/\H3 p=some (.lst ys)/\Dic K H3 d (((ls.take i).flatten++es.take j).map ue)/\∃ v3 v4 v5,σ=[some (.ref L),some (.ref d),some (.ref p),v3,v4,v5,none]) ⟨sm,hp,hy,by rw[List.take_zero,append_nil];exact hD,_,_,_,rfl⟩ ?_ ?_ ?_⟩
    . rintro j σ H3 _ ⟨_,_,z,_⟩;exact SqL.of z
    . rintro j y σ H3 hyj ⟨s3,hp3,hy3,hD3,v3,v4,v5,rfl⟩;obtain⟨r,e0,rfl,hej0,hr⟩:=hp3.at hy3 hyj;rw[getElem?_map]at hej0;obtain⟨e,hej,rfl⟩:=Option.map_eq_some_iff.mp hej0;have cj:j<es.length:=(List.getElem?_eq_some_iff.mp hej).1;obtain⟨fa,ft⟩:=ZfX he hej;have nk:=Zh4 mo.nod fa;rw[ft]at nk;have lF:((ls.take i).flatten++es.take j).length<60:=by
        have:=(List.getElem?_eq_some_iff.mp fa).1;have:=mo.len;omega
      have hE:=mo.den e (mem_of_getElem? fa);have w2:(ls.take i).flatten++es.take (j+1)=((ls.take i).flatten++es.take j)++[e]:=by rw[take_succ,hej,append_assoc];rfl
      rw[w2];generalize (ls.take i).flatten++es.take j=F at *;refine⟨r,_,rfl,SqT.of hr,rfl,_,_,rfl,_,_,rfl,_,_,rfl,rfl,?_⟩;obtain⟨ws,hw,hW⟩:=id hD3;obtain⟨o,o1,o2⟩:∃(o:Option V),Z3 H3 d (.str e.1) o/\o.getD (.ref g.NOUGHT) = .ref g.NOUGHT:=by
        rcases Dic.get (k:=e.1) hw hW with ⟨p',g1,g2,g3⟩|⟨g1,g2,_⟩
        . exact absurd g3 nk
        . exact⟨_,Z3.k (k:=Sum.inr e.1) hW.1,by rw[g1];rfl⟩
      refine⟨_,rfl,d,rfl, .inl ⟨_, .inl hW.1⟩,_,rfl,o,o1,_,rfl,_,rfl,(by show 2<=sizeLine;decide),λ pt hpt=>?_⟩;have s4:=Zi hpt (.tup [.int 1, .int e.2]);have tw:Two K (upd H3 pt (.tup [.int 1, .int e.2])) g.NOUGHT pt 0 1 1 e.2:=ZgP (s4.tupq (T.QaY _)) (SqT.of Zb) ⟨by decide,Jj (m:=1) (by decide) (by decide),by decide,Jj (m:=1) (by decide) (by decide)⟩ ⟨by decide,Jj (m:=1) (by decide) (by decide),hE.1,Jj hE.2 (by decide)⟩;refine⟨g.NOUGHT,pt,0,1,1,e.2,by rw[o2],tw,λ rr hrr=>?_⟩;rw[Zhx];have s5:=s4.trans (Zi hrr (.tup [.int 1, .int e.2]));have n1:=s5 _ _ hW.1;have dW:DicW K _ d ws:=⟨n1,λ w hx=>s5.tupq (hW.2 w hx)⟩;refine⟨_,rfl,_,rfl,d,_,rfl,Zah.k (k:=Sum.inr e.1) n1 (Zs (by rw[Zfk hw,length_map];omega)),Z1 (s3.trans s5) hd0,?_,?_,?_,_,_,_,rfl⟩
      . exact(hp3.same s5).at1 n1 (Za5 hy3 hW.1 (by intro z;cases z)) λ _ z=>by cases z
      . rw[Zc (Za5 hy3 hW.1 (by intro z;cases z))];exact s5 _ _ hy3
      . have z:=Dic.put (k:=e.1) hw dW (SqT.of (Zb (a:=rr) (o:=.tup [.int 1, .int e.2])));rw[Zhb nk]at z;rw[map_append];exact z
    . rintro σ H3 ⟨s3,hp3,hy3,hD3,v3,v4,v5,rfl⟩;rw[hyl,take_length]at hD3;have e1:(ls.take i).flatten++es=(ls.take (i+1)).flatten:=by rw[take_succ,he,List.flatten_append];simp
      rw[e1]at hD3;exact⟨s3,hD3,_,_,_,_,rfl⟩
  . rintro σ H2 ⟨sm,hD,v2,v3,v4,v5,rfl⟩;rw[hxl,take_length]at hD;obtain⟨ws,hw,hW⟩:=id hD;have lw:(ws.map λ w=>((Sum.inr w.1.1:Key),V.ref w.2)).length=ls.flatten.length:=(Zfk hw).trans (length_map _);have hln:=mo.len;have hnd:=mo.nod;have hden:=mo.den;have hpos:=mo.pos;have hfew:=mo.few;rw[<- hxl]at q hpos hfew;generalize ls.flatten=FL at *;refine⟨_,rfl,_,_,rfl, .inl ⟨xs,sm.seq (SqL.of hx),rfl⟩,(by show 2<=sizeLine;decide),λ pp hpp=>?_⟩;have s3:=Zi hpp (.tup [.int 1, .int (xs.length:Nat)]);have W3:=s3 _ _ hW.1;refine⟨_,rfl,d,_,rfl,W3,λ o D hD0=>?_⟩;have sf:=Z1 (u:=.frz o (.dK (ws.map λ w=>((Sum.inr w.1.1:Key),V.ref w.2)))) (sm.trans s3) hd0;have pq:=tupU (u:=.frz o (.dK (ws.map λ w=>((Sum.inr w.1.1:Key),V.ref w.2)))) (SqT.of (K:=K) (Zb (H:=H2) (a:=pp) (o:=.tup [.int 1, .int (xs.length:Nat)]))) W3;have tq:∀ p ys,SqT K H2 p ys->SqT K (upd (upd H2 pp (.tup [.int 1, .int (xs.length:Nat)])) d (.frz o (.dK (ws.map λ w=>((Sum.inr w.1.1:Key),V.ref w.2))))) p ys:=λ p ys z=>tupU (s3.tupq z) W3;have fz:upd (upd H2 pp (.tup [.int 1, .int (xs.length:Nat)])) d (.frz o (.dK (ws.map λ w=>((Sum.inr w.1.1:Key),V.ref w.2)))) d=some (.frz o (.dK (ws.map λ w=>((Sum.inr w.1.1:Key),V.ref w.2)))):=Zb;generalize upd (upd H2 pp (.tup [.int 1, .int (xs.length:Nat)])) d (.frz o (.dK (ws.map λ w=>((Sum.inr w.1.1:Key),V.ref w.2))))=Hf at *;have nd':(Yf ((FL.map (scU (xs.length:Nat))).map ue)).Nodup:=by rw[ZhE];exact hnd
    have le:((FL.map (scU (xs.length:Nat))).map ue).length=FL.length:=by rw[length_map,length_map]
    refine⟨λ i m H4=>i<=FL.length/\m=FL.length - i/\Zv Hf H4/\Dic K H4 D (((FL.map (scU (xs.length:Nat))).map ue).take i),⟨FL.length,zero_le _,rfl,Zi hD0 _,[],rfl,Zb,λ _ h=>nomatch h⟩,?_⟩;rintro i m H4 ⟨hi,rfl,s4,hD4⟩;have fz4:=s4 _ _ fz
    by_cases ci:i<FL.length
    . refine .inr ⟨⟨fz4,by rw[lw];exact ci⟩,λ x H' ⟨e,k,v,hk,hxe⟩ vals hv=>?_⟩;subst e;subst hxe;rw[getElem?_map]at hk;have ciw:i<ws.length:=by
        have z:=congrArg List.length hw;rw[length_map,length_map]at z;omega
      rw[getElem?_eq_getElem ciw]at hk;cases hk;have ew:ue FL[i]=ws[i].1:=by
        have z:(ws.map (·.1))[i]? = some ws[i].1:=by rw[getElem?_map,getElem?_eq_getElem ciw];rfl
        rw[hw,getElem?_map,getElem?_eq_getElem ci]at z;exact Option.some.inj z
      have hde:=hden FL[i] (getElem_mem ci);generalize hu:FL[i]=u at ew hde
      match vals,hv with
      |[a0],_=>
        rw[<- ew];rcases Dic.get (k:=u.1) hw hW with ⟨p',g1,g2,_⟩|⟨_,_,nk⟩
        . have hlk:look (FL.map ue) u.1=(1,u.2):=ZfM (e:=ue u) (by rw[Za8];exact hnd) (List.mem_map.mpr ⟨u,by rw[<- hu];exact getElem_mem ci,rfl⟩);rw[hlk]at g2;have hg:Z3 H' d (.str u.1) (some (.ref p')):=.inl ⟨_,Sum.inr u.1, .inr ⟨o,fz4⟩,rfl,g1.symm⟩;have tw:Two K H' p' pp 1 u.2 1 (xs.length:Nat):=ZgP (s4.tupq (tq _ _ g2)) (s4.tupq pq) ⟨by decide,Jj (m:=1) (by decide) (by decide),hde.1,Jj hde.2 (by decide)⟩ ⟨by decide,Jj (m:=1) (by decide) (by decide),by omega,Jj (m:=10) (by omega) (by decide)⟩;refine⟨[_],rfl,rfl,_,rfl,_,rfl,_,rfl,d,_,rfl,hg,_,rfl,p',pp,_,_,1,_,rfl,tw,λ r hr0=>?_⟩;rw[ZeF];obtain⟨kvs2,k1,k2,k3⟩:=Dic.step hD4 (by rw[le];exact ci) nd' hr0;have e5:((FL.map (scU (xs.length:Nat))).map ue)[i]'(by rw[le];exact ci)=ue (scU (xs.length:Nat) u):=by rw[List.getElem_map,List.getElem_map,hu]
          rw[e5]at k2 k3;exact⟨kvs2,Sum.inr u.1,FL.length - (i+1),rfl,k2,Zs (by omega),by omega,ci,rfl,Zcn s4 hD0 hr0,k3⟩
        . exact absurd (by rw[Za8];exact List.mem_map.mpr ⟨u,by rw[<- hu];exact getElem_mem ci,rfl⟩) nk
    . have e:i=FL.length:=by omega
      subst e;rw[<- le,take_length]at hD4;refine .inl ⟨⟨fz4,by rw[lw];exact le_refl _⟩,D,_,rfl,hD4,nd',by omega,?_,λ l' H' es' s' hl' hL' hc=>q l' H' es' ((sf.trans s4).trans s') ((sf.trans s4).free hl') hL' hc⟩;intro e he;obtain⟨u,hu,rfl⟩:=List.mem_map.mp he;obtain⟨u0,hu0,rfl⟩:=List.mem_map.mp hu;exact ZfJ (Int.mul_pos (hden u0 hu0).1 (by omega))
theorem Ziu {f:Addr}{fd:FuncData}{j:Nat}(F:Fun K "line" "line" Ze4 f fd)(T:Txt K g mg)(Qav:XJ P w0 K g mg base)(Qa6:Zf5 P w0 K g mg base)(Qa7:XW P w0 K g mg base)(QaD:Dn P w0 K mg base (5+j) "line" ["lives","name"] (ZbT j K g)):FnOk P w0 K mg base CX0 (5+j+1) f fd ["lives","name"] (ZbT (j+1) K g):=by
  refine F.ok ZbW (λ vs H Q E h=>?_) (λ cdv A outer s H vs Q E hr h=>?_)
  . obtain⟨b,S,R,n,rfl,_⟩:=h;rfl
  obtain⟨b,S,R,n,rfl,L,hn,hj,hlen,q⟩:=h;refine⟨_,(
(Ze (ZB (Yl (Yc Zbu Qav (hr.mono (by omega)) (pv 0) (Za (pv 1) Zd)))
 (Zg (Zj (Yt (Za (ZW (Za (pv 1) (Za Zf (Za Zf Zd)))) Zd))))
 Zp)
 (Ze (JL (i:=2) ZbW.nd rfl (Or.inl rfl) (x:="child") (cl:=[("lives",s.heap.objs.size+1)]) (caps:=[("lives",0)]) rfl (Yg (Yc Zal Qa7 (hr.mono (by omega)) (pv 0) (Za (pv 1) Zd))) (λ _ _ _ _ _=>ZaY) (λ _ _ _ _ _=>(Zz QaD (hr.mono (by omega)) (Za (pv 1) (Za (pv 0) Zd)))) rfl (by decide +kernel) rfl (by decide +kernel) rfl (λ _ _ h=>h) (XG rfl) (λ p hp=>by rw[List.mem_singleton.mp hp];exact⟨rfl,rfl,by first|exact .inl rfl|exact .inr rfl⟩) (by decide +kernel))
 (Ze (JL (i:=3) ZbW.nd rfl (Or.inl rfl) (x:="stem") (cl:=[]) (caps:=[]) rfl (Yg (pv 2)) (λ _ _ _ _ _=>JM (show PT _ _ (λ σ H Q=>tVar 0 σ H λ x H'=>∃ k,TruV K x H' k/\Q k H') from ZaX (pv 0) (λ _=>rfl))) (λ _ _ _ _ _=>(pv 0)) rfl (by decide +kernel) rfl (by decide +kernel) rfl (λ _ _ h=>nomatch h) (XG rfl) (λ p hp=>nomatch hp) (by decide +kernel))
 (Zg (Zj (Zhf (ZaX (pv 3) (λ _=>rfl)) (Zz Qa6 (hr.mono (by omega)) (Za (pv 3) Zd)) (Yt Zd)))))))),?_⟩
  obtain⟨dx,y1,y2,y3,hb⟩:=L.obj;have W:=L.wf;have pn:=W.wrt n hn;have d5:ZN n<=5:=by
    have hx:=pn;unfold pok at hx;simp only[and_eq_true,decide_eq_true_eq]at hx;rw[Y2];exact hx.1.2
  walk_at "g";obtain⟨k,hk⟩:∃ k,6 - ZN n=k+1:=⟨5 - ZN n,by omega⟩;cases ha:al S.bs S.ds n with
  |true=>
    refine Z8 ?_;have hd:has S.ds n=false:=by rw[ZeS hn]at ha;simpa using ha
    walk_at "g";intro p hp;walk_at "g";intro l hl;have s1:=Zi hp (.tup [.str n, .int 1, .int 1]);have s2:=Zi hl (.lst [.ref p]);refine q l _ [(n,1,1)] (s1.trans s2) (s1.free hl) ⟨[((n,1,1),p)],rfl,Zb,λ w hw=>?_⟩ ?_
    . rw[List.mem_singleton.mp hw];exact s2 _ _ Zb
    . rw[hk,Za7 hd];exact⟨by simp,λ e=>⟨λ z=>by rw[List.mem_singleton.mp z];exact⟨by simp[ue],by show(1:Int)≠0;decide⟩,λ z=>by simpa [ue] using z.1⟩,le_refl _⟩
  |false=>
    refine ZU ?_;have hd:has S.ds n=true:=by rw[ZeS hn]at ha;simpa using ha
    unfold tSeq ZeZ;dsimp only;have hk5:k<=5:=by omega
    have nkf:=W.few n;walk_at "g";refine⟨(λ z=>by rw[hn]at z;cases z),λ _ lc H1 s1 fc hc=>?_⟩;rw[kidVL]at hc;have kl:(JR n (nk S.bs n)).length=nk S.bs n:=by unfold JR;rw[length_map,length_range]
    have ka:∀ t,t<nk S.bs n->((JR n (nk S.bs n)).map V.str)[t]? = some (V.str (kid n t)):=λ t ht=>by
      unfold JR;rw[getElem?_map,getElem?_map,List.getElem?_range ht];rfl
    refine⟨lc,rfl,⟨_,SqL.of hc⟩,λ D hD=>?_⟩;refine⟨λ i m H2=>∃ ess:List (List En),i<=nk S.bs n/\m=nk S.bs n - i/\Zv H1 H2/\LLx H2 D ess/\ess.length=i/\∀ t es,ess[t]? = some es->Can ((lnN S k (kid n t)).map ue) es,⟨nk S.bs n,[],zero_le _,rfl,Zi hD _,⟨[],rfl,Zb,λ _ h=>nomatch h⟩,rfl,λ t es h=>by cases h⟩,?_⟩;rintro i m H2 ⟨ess,hi,rfl,sm,LX,le,hc2⟩;have hcS:SqL K H2 lc ((JR n (nk S.bs n)).map V.str):=SqL.of (sm _ _ hc)
    by_cases ci:i<nk S.bs n
    . refine .inr ⟨⟨_,V.str (kid n i),hcS,ka i ci⟩,λ x H' ⟨e,ex⟩=>?_⟩;subst e;have ex':=ex _ hcS;rw[ka i ci]at ex';cases ex';refine Zdu ?_;have e6:6 - ZN (kid n i)=k:=by rw[YN];omega
      refine⟨_,rfl,_,rfl,b,S,R,kid n i,rfl,(L.same s1).same sm,(W.cnt n i (by omega)).mpr ci,by rw[YN];omega,hlen,λ l' H3 es' s3 fl' led can=>?_⟩;rw[e6]at can;obtain⟨xs,hx,hxl⟩:=LX.ll.len;have ne:l'≠D:=λ z=>by rw[z,hx]at fl';cases fl'
      refine⟨xs,nk S.bs n - (i+1),s3 _ _ hx,Zs (by omega),by omega,ess++[es'],ci,rfl,Z1 (sm.trans s3) hD,(LX.same s3).push (s3 _ _ hx) led ne,by rw[length_append,le];rfl,λ t es h=>?_⟩;rcases lt_or_ge t ess.length with ht|ht
      . rw[getElem?_append_left ht]at h;exact hc2 t es h
      . rw[getElem?_append_right ht]at h;have:t=ess.length:=by
          rcases Nat.eq_or_lt_of_le ht with z|z
          . exact z.symm
          . rw[show t - ess.length=(t - ess.length - 1)+1 by omega]at h;cases h
        rw[this,Nat.sub_self]at h;cases h;rw[this,le];exact can
    have e:i=nk S.bs n:=by omega
    subst e;refine .inl ⟨⟨_,hcS,by rw[length_map,kl];exact le_refl _⟩,?_⟩;obtain⟨LP1,LP2,LP3⟩:=Zgx W hlen hn hd hk5 le hc2;have hcn:∀ es∈ess,es.length<60:=λ es hes=>by
      obtain⟨t,ht⟩:=List.mem_iff_getElem?.mp hes;have z:=(hc2 t es ht).2.2;have ht2:=(List.getElem?_eq_some_iff.mp ht).1;have lo:=YV W (by omega) k (kid n t) ((W.cnt n t (by omega)).mpr (by omega));have:=Xg lo.nd (m:=S.bs.map (·.1)) (λ x hx=>by
        obtain⟨u,hu,rfl⟩:=List.mem_map.mp hx;exact(Z2 S.bs u.1).mp (lo.bk u hu))
      rw[length_map,length_map]at this;rw[length_map]at z;omega
    obtain⟨xs,hx,hxl⟩:=LX.ll.len;have s12:=s1.trans sm;walk_at "g";intro D2 hD2;refine⟨λ i m H3=>i<=ess.length/\m=ess.length - i/\Zv H2 H3/\LLx H3 D2 ((ess.take i).filter λ l => !l.isEmpty),⟨ess.length,zero_le _,rfl,Zi hD2 _,⟨[],rfl,Zb,λ _ h=>nomatch h⟩⟩,?_⟩;rintro i m H3 ⟨hi3,rfl,s3,LX3⟩;have hxS:SqL K H3 D xs:=SqL.of (s3 _ _ hx)
    by_cases ci:i<ess.length
    . have ex0:xs[i]? = some xs[i]:=getElem?_eq_getElem (by omega);refine .inr ⟨⟨_,xs[i],hxS,ex0⟩,λ x H' ⟨e,ex⟩=>?_⟩;subst e;have ex':=ex _ hxS;rw[ex0]at ex';cases ex';obtain⟨p,es,ep,hes,hled⟩:=((LX.ll).same s3).at (s3 _ _ hx) ex0;rw[ep];obtain⟨ys,hy,hyl⟩:=hled.len;have tk:(ess.take (i+1)).filter (λ l => !l.isEmpty)=((ess.take i).filter λ l => !l.isEmpty)++(if es.isEmpty=true then [] else [es]):=by
        rw[take_succ,hes,filter_append];congr 1;cases es <;> rfl
      refine⟨_,rfl,!ys.isEmpty, .inl ⟨ys,SqL.of hy,rfl⟩,?_⟩;have eb:ys.isEmpty=es.isEmpty:=ZfT hyl;rw[eb];cases hb:es.isEmpty with
      |true=>
        refine ZU ?_;refine⟨ess.length - (i+1),by omega,ci,rfl,s3,?_⟩;rw[tk,hb];simpa using LX3
      |false=>
        refine Z8 ?_;obtain⟨zs,hz,hzl⟩:=LX3.ll.len;have ne:p≠D2:=λ z=>by
          obtain⟨p',es',ep',hes',hled'⟩:=(LX.ll).at hx ex0;rw[ep]at ep';cases ep';obtain⟨us,hu,_⟩:=hled'.len;rw[z,hD2]at hu;cases hu
        have zl:zs.length<900:=by
          rw[hzl];have:=length_filter_le (λ l:List En => !l.isEmpty) (ess.take i);rw[length_take]at this;omega
        refine⟨_,rfl,zs,ess.length - (i+1),hz,Zs (by omega),by omega,ci,rfl,Z1 s3 hD2,?_⟩;have z:=LX3.push hz hled ne;rw[tk,hb];simpa using z
    have e:i=ess.length:=by omega
    subst e;rw[take_length]at LX3;refine .inl ⟨⟨_,hxS,by omega⟩,?_⟩;obtain⟨zs,hz,hzl⟩:=LX3.ll.len;rw[<- LP1]at LX3 hzl;rw[length_map]at hzl;refine⟨_,rfl,!zs.isEmpty, .inl ⟨zs,SqL.of hz,rfl⟩,?_⟩;have s13:=s12.trans s3
    by_cases he:fil (ess.map (List.map bk))=[]
    . have ez:zs.isEmpty=true:=by rw[he]at hzl;cases zs <;> simp_all
      rw[ez];refine ZU ?_;walk_at "g";intro l hl;refine q l _ [] (s13.trans (Zi hl _)) (s13.free hl) ⟨[],rfl,Zb,λ _ h=>nomatch h⟩ ?_;rw[hk];refine Can.perm ?_ LP2;rw[he];exact⟨List.Pairwise.nil,λ e=>by simp,le_refl _⟩
    . have ez:zs.isEmpty=false:=by
        have:=List.length_pos_iff.mpr he;cases zs with
        |nil=>simp at hzl;omega
        |cons x r=>rfl
      rw[ez];refine Z8 ?_;refine⟨_,rfl,D2,fil (ess.map (List.map bk)),rfl,LX3.ll,LP3 he,λ l' H' es' s' fl' led can=>?_⟩;refine q l' H' es' (s13.trans s') (s13.free fl') led ?_;rw[hk];exact can.perm LP2
theorem Ziw:∀ vs H Q E,¬ ZbT 0 K g vs H Q E:=by
 rintro vs H Q E ⟨b,S,R,n,_,L,hn,hj,_⟩;have hx:=L.wf.wrt n hn;unfold pok at hx;simp only[and_eq_true,decide_eq_true_eq]at hx;rw[Y2]at hj;have:=hx.1.2;omega
theorem Zhl {f:Addr}{fd:FuncData}(F:Fun K "heirs" "heirs" ZdG f fd)(T:Txt K g mg)(Qae:ZT P w0 K g mg base)(QaD:ZhU P w0 K g mg base)(Qa8:ZbA P w0 K g mg base):FnOk P w0 K mg base (CXR P w0 base) 13 f fd ["lives","name"] (Zen K g):=by
  refine F.okX ZaT (λ vs H Q E h=>?_) (λ cdv A outer s H vs Q E hr h=>?_)
  . obtain⟨b,S,R,n,rfl,_⟩:=h;rfl
  obtain⟨b,S,R,n,rfl,L,q1,q⟩:=h;refine⟨_,(
(Ze (ZE (Yc Xf Qae (h_ hr) (pv 0) (Za (pv 1) Zd)))
 (Ze (Zu (i:=2) ZaT.nd rfl (Or.inl rfl) (pv 1))
 (Ze (JK PassesOwn.leaving (ZaX (pv 2) (λ _=>rfl))
 (Ze (Zu (i:=3) ZaT.nd rfl (Or.inl rfl) (Zz QaD (h_ hr) (Za (pv 0) (Za (pv 2) Zd))))
 (Ze (ZB (ZaX (pv 3) (λ _=>rfl))
 (Zg (Zj (pv 3)))
 Zp)
 (Zg (Zu (i:=2) ZaT.nd rfl (Or.inl rfl) (Zz Qa8 (h_ hr) (Za (pv 2) Zd)))))))
 (Zg (Zj (Yt (Za (ZW (Za Zn (Za Zf (Za Zf Zd)))) Zd)))))))),?_⟩
  obtain⟨dx,y1,y2,y3,hb⟩:=L.obj;walk_at "g";intro hn;obtain⟨hlen,q⟩:=q hn;have W:=L.wf;refine⟨_,rfl,?_⟩;unfold ZfV tSeq;dsimp only;refine ZaG (λ σ H'=>∃(x:Str)(v3:Option V),σ=[some (.ref b),some (.str n),some (.str x),v3]/\Zv H H'/\hrs S x=hrs S n/\(x.length=0\/has S.bs x=true)) (λ σ _=>match σ with|[_,_,some (.str x),_]=>x.length|_=>0) ⟨n,_,rfl,Zv.refl _,rfl, .inr hn⟩ ?_ ?_
  . rintro σ H1 ⟨x,v3,rfl,s1,hx,hk⟩;have xl:x.length<=200:=by
      rcases hk with z|z
      . omega
      . have:=X2 (W.wrt x z);omega
    refine⟨_,rfl,_,⟨ZG (by omega),rfl⟩,?_⟩
    by_cases c:x.length=0
    . rw[show((x.length:Int) != 0)=false by rw[c];rfl];refine ZU ?_;walk_at "g";intro p hp;walk_at "g";intro l hl;have s2:=Zi hp (.tup [.str "crown", .int 1, .int 1]);have s3:=Zi hl (.lst [.ref p]);refine q l _ [("crown",1,1)] (s1.trans (s2.trans s3)) (s1.free (s2.free hl)) ⟨[(("crown",1,1),p)],rfl,Zb,λ w hw=>?_⟩ ?_
      . rw[List.mem_singleton.mp hw];exact s3 _ _ Zb
      . rw[<- hx,Zd6 c];exact⟨by simp,λ e=>⟨λ z=>by rw[List.mem_singleton.mp z];exact⟨by simp[ue],by show(1:Int)≠0;decide⟩,λ z=>by simpa [ue] using z.1⟩,le_refl _⟩
    . rw[show((x.length:Int) != 0)=true from bne_iff_ne.mpr (by omega)];refine Z8 ?_;have hb2:has S.bs x=true:=hk.resolve_left c;refine⟨_,rfl,_,rfl,b,S,R,x,rfl,L.same s1,hb2,by omega,hlen,λ l' H2 es' s2 fl' led can=>?_⟩;obtain⟨ys,hy,hyl⟩:=led.len;have can:Can ((ln S x).map ue) es':=can;have es_e:ys.isEmpty=(ln S x).isEmpty:=by
        have lo:=YV W (by omega) (6 - ZN x) x hb2;have:=(ZcX lo.nd can).length_eq;rw[length_map]at this;have e2:ys.length=(ln S x).length:=by rw[hyl];exact this
        exact ZfT e2
      refine⟨_,rfl,!ys.isEmpty, .inl ⟨ys,SqL.of hy,rfl⟩,?_⟩;rw[es_e];cases he:(ln S x).isEmpty with
      |false=>
        refine Z8 ?_;refine⟨_,rfl,?_⟩;refine q l' H2 es' (s1.trans s2) (s1.free fl') led ?_;rw[<- hx,Zfm c he];exact can
      |true=>
        refine ZU ?_;have px:=W.wrt x hb2;walk_at "g";intro H3 s3;have ux:(up x).length=0\/has S.bs (up x)=true:=by
          rcases Zbf px with hg|⟨p,i,hi,rfl,pp,hd⟩
          . left;rw[ZgO hg];rfl
          . right;rw[Zau];exact W.par p i hb2
        exact⟨⟨up x,_,rfl,(s1.trans s2).trans s3,by rw[<- hx,Zd5 c he],ux⟩,Zb5 c⟩
  . rintro σ H Q Q' h ⟨v,e,k,t,q⟩;exact⟨v,e,k,t,h _ _ q⟩
theorem ZbK {f:Addr}{fd:FuncData}(F:Fun K "want_between" "want_between" Y7 f fd)(T:Txt K g mg)  : FnOk P w0 K mg base (CXR P w0 base) 1 f fd ["number","low","high"] (Ja K g):=by
  refine F.okX ZbF (λ vs H Q E h=>?_) (λ cdv A outer s H vs Q E hr h=>?_)
  . obtain⟨n,lo,hi,rfl,_⟩:=h;rfl
  obtain⟨n,lo,hi,rfl,q1,q⟩:=h;refine⟨_,(
(Zg (ZB (PW.pt (XS (Zm Za0 (pv 0) (pv 1) (Zt _)) (YU (Zm JP (pv 0) (pv 2) (Zt _)))))
 (Zg (Yr T.QcI.x T.QcD Zn))
 Zp))),?_⟩
  refine⟨_,rfl,_,rfl,_,_,rfl,rfl,_,rfl,Yb (λ c=>Z8 ⟨rfl,q1 ?_⟩) (λ c=>?_)⟩
  . have:=of_decide_eq_true c;omega
  refine⟨_,rfl,_,rfl,_,_,rfl,rfl,_,rfl,Yb (λ c2=>⟨rfl,q1 ?_⟩) (λ c2=>q ?_)⟩
  . have:=of_decide_eq_true c2;omega
  . have z1:¬ n<lo:=λ z=>c (decide_eq_true z);have z2:¬ hi<n:=λ z=>c2 (decide_eq_true z);omega
theorem Za2 {f:Addr}{fd:FuncData}(F:Fun K "__init__" "World.__init__" Yz f fd)(T:Txt K g mg)(Qal:Yx P w0 K g mg base)(Qa9:ZeJ P w0 K g mg base):FnOk P w0 K mg base (CXR P w0 base) 3 f fd ["self","year"] (Xn K g):=by
  refine F.okX ZaU (λ vs H Q E h=>?_) (λ cdv A outer s H vs Q E hr h=>?_)
  . obtain⟨w,dx,y,rfl,_⟩:=h;rfl
  obtain⟨w,dx,y,rfl,hw,q1,q⟩:=h;refine⟨_,(
(Ze (ZE (JN Xf Qal (h_ hr) (Za (pv 1) (Za Zf (Za (YI (v:=.int 9999) rfl T.QcP ⟨_,rfl⟩) Zd)))))
 (Ze (Zbe (pv 0) (pv 1) rfl)
 (Ze (Zbe (pv 0) (pe_mk0 Zbu Qa9 (h_ hr) rfl) rfl)
 (Zg (Zbe (pv 0) Yu rfl)))))),?_⟩
  refine⟨_,rfl,y,0,9999,rfl,q1,λ hy=>?_⟩;refine⟨_,rfl,_,rfl,w,_,dx,_,rfl,hw,T.Qac,T.Qam,by decide,?_⟩;intro b dxb nb ndb neb;have nwb:b≠w:=λ e=>by rw[e,Zb]at nb;cases nb
  have hb0:H b=none:=by rw[Zc nwb]at nb;exact nb
  refine⟨b,dxb,rfl,Zb,λ RL H1 kp fr L=>⟨rfl,?_⟩⟩;have s1:=made nb ndb kp;have hw1:=s1 _ _ (Zb (H:=H) (a:=w));have fRL:∀ a∈RL,upd H w (.ins g.World dx [("year", .int y)]) a=none:=λ a ha=>(fr a ha).elim (λ e=>by rw[e];exact nb) Zdg;have nwRL:w∉RL:=λ z=>by have:=fRL w z;rw[Zb]at this;cases this
  refine⟨_,rfl,w,_,dx,_,rfl,hw1,T.Qac,T.Qar,(by show 1<1000;decide),?_⟩;intro hd hhd;have nhw:hd≠w:=λ e=>by rw[e,Zb]at hhd;cases hhd
  have hhd1:H1 hd=none:=by rw[Zc nhw]at hhd;exact hhd
  have nhRL:hd∉RL:=λ z=>by obtain⟨o,e⟩:=L.live hd z;rw[hhd1]at e;cases e
  refine⟨_,rfl,w,_,dx,_,rfl,(by rw[Zc (Ne.symm nhw),Zb]),T.Qac,T.QaJ,(by show 2<1000;decide),?_⟩;have f0:∀ a,upd H w (.ins g.World dx [("year", .int y)]) a=none->H a=none:=λ a e=>by
    have n:a≠w:=λ z=>by rw[z,Zb]at e;cases e
    rw[Zc n]at e;exact e
  have hd0:H hd=none:=f0 hd (s1.free hhd1);refine q hy (w::hd::RL) _ ⟨λ a o hn e=>?_,λ a e=>?_⟩ (λ a ha=>?_) ⟨dx,b,hd,RL,Zb,?_,?_,rfl,nwRL,nhRL⟩
  . have na:a≠w:=λ z=>hn (by simp[z]);have nh:a≠hd:=Zk e hd0;rw[Zc na,Zc nh,Zc na];exact s1 _ _ (by rw[Zc na];exact e)
  . have na:a≠w:=λ z=>by rw[z,Zb]at e;cases e
    rw[Zc na]at e;have nh:a≠hd:=λ z=>by rw[z,Zb]at e;cases e
    rw[Zc nh,Zc na]at e;exact f0 a (s1.free e)
  . rcases List.mem_cons.mp ha with rfl|ha
    . exact .inl rfl
    rcases List.mem_cons.mp ha with rfl|ha
    . exact .inr hd0
    exact .inr (f0 a (fRL a ha))
  . refine L.mv λ a ha o e=>?_;have na:a≠w:=λ z=>nwRL (z▸ha);have nh:a≠hd:=λ z=>nhRL (z▸ha);rw[Zc na,Zc nh,Zc na];exact e
  . rw[Zc nhw,Zb];rfl
theorem Zad {f:Addr}{fd:FuncData}(F:Fun K "pass_years" "World.pass_years" Yi f fd)(T:Txt K g mg)(Qal:Yx P w0 K g mg base):FnOk P w0 K mg base (CXR P w0 base) 2 f fd ["self","many"] (YX K g):=by
  refine F.okX Zaa (λ vs H Q E h=>?_) (λ cdv A outer s H vs Q E hr h=>?_)
  . obtain⟨w,S,R,k,rfl,_⟩:=h;rfl
  obtain⟨w,S,R,k,rfl,W,q1,q⟩:=h;refine⟨_,(
(Ze (ZE (JN Xf Qal (h_ hr) (Za (pv 1) (Za Zf (Za (YI (v:=.int 60) rfl T.QcQ ⟨_,rfl⟩) Zd)))))
 (Zg (Zgj (pv 0) (pv 1) in_add)))),?_⟩
  obtain⟨dx,b,hd,RL,hw,L,hh,eR,n1,n2⟩:=W.ex;obtain⟨dy,y1,y2,y3,hb⟩:=L.obj;refine⟨_,rfl,k,1,60,rfl,q1,λ hk=>?_⟩;refine⟨_,rfl,w,_,dx,_,_,rfl,hw,T.Qac,T.Qam,rfl,_,rfl,_,_,rfl,rfl,dx,_,hw,(by show 3<1000;decide),?_⟩;have nwh:hd≠w:=ZA hh hw (λ z=>by cases z);subst eR;exact q hk _ (Xi.wide (λ a ha=>by rw[List.mem_singleton.mp ha];simp)) ⟨dx,b,hd,RL,Zb,L.mv (λ a ha o e=>by rw[Zc (show a≠w from λ z=>n1 (by rw[<- z];exact ha))];exact e),by rw[Zc nwh];exact hh,rfl,n1,n2⟩
theorem ZbN {f:Addr}{fd:FuncData}(F:Fun K "arrive" "World.arrive" Xa f fd)(T:Txt K g mg)(Qal:Yx P w0 K g mg base)(Qba:JZ P w0 K g mg base):FnOk P w0 K mg base (CXR P w0 base) 5 f fd ["self","word","age"] (Jd K g):=by
  refine F.okX ZbH (λ vs H Q E h=>?_) (λ cdv A outer s H vs Q E hr h=>?_)
  . obtain⟨w,S,R,n,a,rfl,_⟩:=h;rfl
  obtain⟨w,S,R,n,a,rfl,W,hx,hl,q0,q1,q2,q⟩:=h;refine⟨_,(
(Ze (ZE (JN Xf Qal (h_ hr) (Za (pv 2) (Za Zf (Za (YI (v:=.int 120) rfl T.QcR ⟨_,rfl⟩) Zd)))))
 (Zg (ZE (Yc Xf Qba (h_ hr) (ZI (pv 0) rfl) (Za (pv 1) (Za (Zl Zcv (ZI (pv 0) rfl) (pv 2)) Zd))))))),?_⟩
  obtain⟨dx,b,hd,RL,hw,L,hh,eR,n1,n2⟩:=W.ex;obtain⟨dy,y1,y2,y3,hb⟩:=L.obj;refine⟨_,rfl,a,0,120,rfl,q0,λ ha=>?_⟩;refine⟨_,rfl,w,_,dx,_,_,rfl,hw,T.Qac,T.Qar,rfl,b,dy,_,rfl,hb,rfl,_,rfl,_,rfl,w,_,dx,_,_,rfl,hw,T.Qac,T.Qam,rfl,_,rfl,_,_,rfl,rfl,b,S.bs,S.ds,RL,n,_,rfl,L,hx,hl,q1 ha,q2 ha,λ e1 e2 R' H' kp gr L'=>?_⟩;subst eR;obtain⟨W',k',g'⟩:=WorldAt.book (S:=S) hw hh n1 n2 kp gr L';exact q ha e1 e2 _ H' k' g' W'
theorem ZcB {f:Addr}{fd:FuncData}(F:Fun K "birth" "World.birth" Xz f fd)(T:Txt K g mg)(Qbb:Zat P w0 K g mg base):FnOk P w0 K mg base (CXR P w0 base) 5 f fd ["self","name"] (Jq K g):=by
  refine F.okX Zch (λ vs H Q E h=>?_) (λ cdv A outer s H vs Q E hr h=>?_)
  . obtain⟨w,S,R,n,rfl,_⟩:=h;rfl
  obtain⟨w,S,R,n,rfl,W,hl,h99,q0,q1,q2,q⟩:=h;refine⟨_,(
(Zg (Zj (Yc Xf Qbb (h_ hr) (ZI (pv 0) rfl) (Za (pv 1) (Za (ZI (pv 0) rfl) Zd)))))),?_⟩
  obtain⟨dx,b,hd,RL,hw,L,hh,eR,n1,n2⟩:=W.ex;obtain⟨dy,y1,y2,y3,hb⟩:=L.obj;refine⟨_,rfl,w,_,dx,_,_,rfl,hw,T.Qac,T.Qar,rfl,b,dy,_,rfl,hb,rfl,_,rfl,_,rfl,w,_,dx,_,_,rfl,hw,T.Qac,T.Qam,rfl,b,S.bs,S.ds,RL,n,_,rfl,L,hl,h99,q0,q1,q2,λ e1 e2 e3 R' H' kp gr L'=>?_⟩;subst eR;obtain⟨W',k',g'⟩:=WorldAt.book (S:=S) hw hh n1 n2 kp gr L';exact q e1 e2 e3 _ H' k' g' W'
theorem Zcz {f:Addr}{fd:FuncData}(F:Fun K "death" "World.death" Xx f fd)(T:Txt K g mg)(Qbc:Zas P w0 K g mg base):FnOk P w0 K mg base (CXR P w0 base) 5 f fd ["self","name"] (Jo K g):=by
  refine F.okX Zcf (λ vs H Q E h=>?_) (λ cdv A outer s H vs Q E hr h=>?_)
  . obtain⟨w,S,R,n,rfl,_⟩:=h;rfl
  obtain⟨w,S,R,n,rfl,W,hl,q0,q1,q⟩:=h;refine⟨_,(
(Zg (ZE (Yc Xf Qbc (h_ hr) (ZI (pv 0) rfl) (Za (pv 1) (Za (ZI (pv 0) rfl) Zd)))))),?_⟩
  obtain⟨dx,b,hd,RL,hw,L,hh,eR,n1,n2⟩:=W.ex;obtain⟨dy,y1,y2,y3,hb⟩:=L.obj;refine⟨_,rfl,w,_,dx,_,_,rfl,hw,T.Qac,T.Qar,rfl,b,dy,_,rfl,hb,rfl,_,rfl,_,rfl,w,_,dx,_,_,rfl,hw,T.Qac,T.Qam,rfl,b,S.bs,S.ds,RL,n,_,rfl,L,hl,q0,q1,λ e1 e2 H' kp L'=>?_⟩;subst eR;obtain⟨W',k',g'⟩:=WorldAt.book (S:=S) hw hh n1 n2 kp (Xl.refl _ _) L';exact q e1 e2 H' k' W'
theorem ZcA {f:Addr}{fd:FuncData}(F:Fun K "comes" "World.comes" Xy f fd)(T:Txt K g mg)(Qaw:JU P w0 K g mg base):FnOk P w0 K mg base (CXR P w0 base) 4 f fd ["self","word"] (Jp K g):=by
  refine F.okX Zcg (λ vs H Q E h=>?_) (λ cdv A outer s H vs Q E hr h=>?_)
  . obtain⟨w,S,R,n,rfl,_⟩:=h;rfl
  obtain⟨w,S,R,n,rfl,W,hx,hl,q0,q1,q⟩:=h;refine⟨_,(
(Ze (ZE (JN Xf Qaw (h_ hr) (Za (pv 1) Zd)))
 (Ze (ZB (X1 (ZdN (ZP hr) (pv 1) (ZI (pv 0) rfl)))
 (Zg (Yr T.Qck.x T.Qci Zn))
 Zp)
 (Zg (YH (ZP hr) (ZI (pv 0) rfl) (pv 1) (ZI (pv 0) rfl) rfl))))),?_⟩
  obtain⟨dx,b,hd,RL,hw,L,hh,eR,n1,n2⟩:=W.ex;obtain⟨dy,y1,y2,y3,hb⟩:=L.obj;refine⟨_,rfl,n,rfl,hx,q0,λ hg=>?_⟩;refine⟨_,rfl,_,rfl,w,_,dx,_,_,rfl,hw,T.Qac,T.QaJ,rfl,hd,_,rfl,Z3.k (k:=Sum.inr n) hh,_,rfl,?_⟩;rw[ZZ];cases hc:has S.cs n with
  |true=>exact Z8 ⟨rfl,q1 hg hc⟩
  |false=>
    refine ZU ⟨_,rfl,w,_,dx,_,_,rfl,hw,T.Qac,T.Qam,rfl,_,rfl,w,_,dx,_,_,rfl,hw,T.Qac,T.QaJ,rfl,_,rfl,hd,_,rfl,Zah.k (k:=Sum.inr n) hh (Zs (by unfold yrs;rw[length_map];omega)),?_⟩;rw[Yq _ (J5 hc),J2];have nwh:w≠hd:=ZA hw hh (λ z=>by cases z);subst eR;exact q hg hc _ (Xi.wide (λ a ha=>by rw[List.mem_singleton.mp ha];simp)) ⟨dx,b,hd,RL,by rw[Zc nwh];exact hw,L.mv (λ a ha o e=>by rw[Zc (show a≠hd from λ z=>n2 (by rw[<- z];exact ha))];exact e),Zb,rfl,n1,n2⟩
theorem ZdX {f:Addr}{fd:FuncData}(F:Fun K "age" "World.age" JI f fd)(T:Txt K g mg)(Qbd:J0 P w0 K g mg base):FnOk P w0 K mg base (CXR P w0 base) 4 f fd ["self","name"] (ZaQ K g):=by
  refine F.okX ZdC (λ vs H Q E h=>?_) (λ cdv A outer s H vs Q E hr h=>?_)
  . obtain⟨w,S,R,n,rfl,_⟩:=h;rfl
  obtain⟨w,S,R,n,rfl,W,q0,q⟩:=h;refine⟨_,(
(Zg (Zj (Yc Xf Qbd (h_ hr) (ZI (pv 0) rfl) (Za (pv 1) (Za (ZI (pv 0) rfl) Zd)))))),?_⟩
  obtain⟨dx,b,hd,RL,hw,L,hh,eR,n1,n2⟩:=W.ex;obtain⟨dy,y1,y2,y3,hb⟩:=L.obj;exact⟨_,rfl,w,_,dx,_,_,rfl,hw,T.Qac,T.Qar,rfl,b,dy,_,rfl,hb,rfl,_,rfl,_,rfl,w,_,dx,_,_,rfl,hw,T.Qac,T.Qam,rfl,b,S.bs,S.ds,RL,n,_,rfl,L,q0,q⟩
theorem Zfc {f:Addr}{fd:FuncData}(F:Fun K "_law_num" "_law_num" Zbb f fd)(T:Txt K g mg)  : FnOk P w0 K mg base CX0 1 f fd ["_law_found"] (Zb6 K g):=by
  refine F.ok Ze2 (λ vs H Q E h=>?_) (λ cdv A outer s H vs Q E hr h=>?_)
  . obtain⟨i,rfl,_⟩:=h;rfl
  obtain⟨i,rfl,q⟩:=h;refine⟨_,(
(Zg (Zj (ZaB (Zr XX rfl T.z_isinstance PyProof.Rows.boot_isinstance (Za (pv 0) (Za (J4 (v:=V.ty "int") rfl T.z_int PyProof.Rows.boot_int rfl) Zd))) (Zcu (pe_not (Zr XX rfl T.z_isinstance PyProof.Rows.boot_isinstance (Za (pv 0) (Za (J4 (v:=V.ty "bool") rfl T.z_bool PyProof.Rows.boot_bool rfl) Zd))))))))),?_⟩
  refine⟨_,rfl,_,_,_,_,rfl, .int _,kit_ii,_,rfl,Z8 ?_⟩;exact⟨_,rfl,_,_,_,_,rfl, .int _,kit_ib,_,rfl,q⟩
theorem Zcx {f:Addr}{fd:FuncData}(F:Fun K "_law_cell_at" "_law_cell_at" Xv f fd)(T:Txt K g mg)  : FnOk P w0 K mg base CX0 1 f fd ["_law_script","_law_k"] (Jm K g):=by
  refine F.ok Zcd (λ vs H Q E h=>?_) (λ cdv A outer s H vs Q E hr h=>?_)
  . obtain⟨a,ns,k,rfl,_⟩:=h;rfl
  obtain⟨a,ns,k,rfl,hS,h0,q⟩:=h;refine⟨_,(
(Ze (ZB (Zm Za0 (pv 1) (Zr Zy rfl T.z_len boot_len (Za (pv 0) Zd)) (Zt _))
 (Zg (Zj (Zq Ya (pv 0) (pv 1) (λ _ _=>rfl))))
 Zp)
 (Zg (Zj Zf)))),?_⟩
  have hl:(ns.map V.int).length=ns.length:=length_map _;refine⟨_,rfl,_,rfl,_,_,rfl, .inl ⟨_,hS,rfl⟩,_,_,rfl,rfl,_,rfl,?_⟩;refine Yb (λ c=>?_) (λ c=>?_)
  . have c':k<(((ns.map V.int).length:Nat):Int):=of_decide_eq_true c;rw[hl]at c';have hk:k.toNat<ns.length:=by omega
    have e:atI (ns.map V.int) ((k.toNat:Nat):Int)=some (.int ns[k.toNat]):=X8 (by rw[getElem?_map,getElem?_eq_getElem hk] <;> rfl);rw[show((k.toNat:Nat):Int)=k by omega]at e;exact⟨_,rfl,_,rfl,a,_,_,_,rfl,rfl,hS,e,q _⟩
  . exact q 0
theorem Zev {f:Addr}{fd:FuncData}(F:Fun K "_law_rich" "_law_rich" Zaw f fd)(T:Txt K g mg)  : FnOk P w0 K mg base CX0 1 f fd ["_law_cell","_law_place"] (Zbp K g):=by
  refine F.ok Jx (λ vs H Q E h=>?_) (λ cdv A outer s H vs Q E hr h=>?_)
  . obtain⟨c,p,rfl,_⟩:=h;rfl
  obtain⟨c,p,rfl,q⟩:=h;refine⟨_,(
(Ze (ZB (Zm op_ge (pv 0) (Zl op_pow Zf Zf) (Zt _))
 (Zg (Zj (pv 0)))
 Zp)
 (Ze (Zu (i:=2) Jx.nd rfl (Or.inl rfl) (Zl Z6 (Zl Z7 (Zl Z7 (Zl ZaD (pv 0) Zf) (Zl ZaD (pv 1) Zf)) Zf) Zf))
 (Ze (Zu (i:=3) Jx.nd rfl (Or.inl rfl) (Zl Z6 (Zl Z7 (Zl Z7 (Zl ZaD (pv 2) (pv 2)) (Zl ZaD (pv 0) Zf)) (Zl ZaD (pv 1) Zf)) Zf))
 (Zg (Zj (Zl Z7 (Zl ZaD (pv 2) Zf) (pv 3)))))))),?_⟩
  refine⟨_,rfl,_,_,rfl,rfl,⟨by decide,by decide,by decide⟩,_,_,rfl,rfl,_,rfl,?_⟩;refine Yb (λ _=>?_) (λ _=>?_)
  . exact⟨_,rfl,q _⟩
  . have small:∀ z:Int,(-(2 ^ 64)<z % 2147483647/\z % 2147483647<2 ^ 64):=λ z=>⟨by omega,by omega⟩;refine⟨_,rfl,_,_,rfl,rfl, .inr ⟨by decide,by decide⟩,_,rfl,_,_,rfl,rfl, .inr ⟨by decide,by decide⟩,_,_,rfl,rfl,_,_,rfl,rfl,_,_,rfl,rfl,(by show(0:Int)<2147483647;decide),?_⟩;refine⟨_,rfl,_,rfl,_,_,rfl,rfl, .inl (small _),_,rfl,_,_,rfl,rfl, .inr ⟨by decide,by decide⟩,_,_,rfl,rfl,_,rfl,_,_,rfl,rfl, .inr ⟨by decide,by decide⟩,_,_,rfl,rfl,_,_,rfl,rfl,(by show(0:Int)<2147483629;decide),?_⟩;exact⟨_,rfl,_,_,rfl,rfl, .inr ⟨by decide,by decide⟩,_,rfl,_,_,rfl,rfl,q _⟩
theorem Zeu {f:Addr}{fd:FuncData}(F:Fun K "_law_word" "_law_word" Zav f fd)(T:Txt K g mg)  : FnOk P w0 K mg base CX0 1 f fd ["_law_n"] (Zbo K g):=by
  refine F.ok Z5 (λ vs H Q E h=>?_) (λ cdv A outer s H vs Q E hr h=>?_)
  . obtain⟨n,rfl,_⟩:=h;rfl
  obtain⟨n,rfl,q⟩:=h;refine⟨_,(
(Ze (Zu (i:=1) Z5.nd rfl (Or.inl rfl) (Zl Z7 Zf (Zl Z6 (pv 0) Zf)))
 (Ze (Zu (i:=0) Z5.nd rfl (Or.inl rfl) (Zl Yv (pv 0) Zf))
 (Ze (Zu (i:=2) Z5.nd rfl (Or.inl rfl) Zn)
 (Ze (Ys PassesOwn.never rfl (XT rfl T.z_range (Za (pv 1) Zd)) (ZD (i:=3) Z5.nd rfl (Or.inl rfl))
 (Ze (Zu (i:=2) Z5.nd rfl (Or.inl rfl) (Zl ZL (pv 2) (Zq ZhH Zn (Zl Z6 (pv 0) Zf) (λ _ _=>rfl))))
 (Zg (Zu (i:=0) Z5.nd rfl (Or.inl rfl) (Zl Yv (pv 0) Zf)))))
 (Ze (ZB (PW.pt (XS (Zm YK (pv 2) Zn (Zt _)) (YU (Zm YK (pv 2) Zn (Zt _)))))
 (Zg (Zj (Zeq ZgZ (pv 2) ZfD (ZfC Zf))))
 Zp)
 (Zg (Zj (pv 2))))))))),?_⟩
  refine⟨_,rfl,_,_,rfl,rfl,(by show(0:Int)<8;decide),_,_,rfl,rfl,?_⟩;refine⟨_,rfl,_,_,rfl,rfl,⟨by decide,by decide⟩,?_⟩;have b1:=emod_lt_of_pos n (show(0:Int)<8 by decide);have b0:=emod_nonneg n (show(8:Int)≠0 by decide);refine⟨_,rfl,1+n % 8,rfl,by omega,by omega,J7 (n:=(1+n % 8).toNat) (λ i σ H2=>H2=H/\∃(n':Int)(z:Str)(v:Option V),σ=[some (.int n'),some (.int (1+n % 8)),some (.str z),v]/\z.length=i/\z.cps.toList.all (inR 97 122)=true) ⟨rfl,_,_,_,rfl,rfl,by decide +kernel⟩ ?_ ?_⟩
  . rintro i σ H2 hi ⟨rfl,n',z,v,rfl,hz,hk⟩;obtain⟨c,hc,hc2⟩:=abc_in (emod_nonneg n' (show(26:Int)≠0 by decide)) (emod_lt_of_pos n' (show(0:Int)<26 by decide));refine⟨_,rfl,_,rfl,_,_,rfl,rfl,(by show(0:Int)<26;decide),abc,_,c,rfl,rfl,by decide +kernel,hc,z,_,rfl,rfl,?_,?_⟩
    . have:(⟨#[c]⟩:Str).length=1:=rfl;have:=Zs (n:=9) (by decide);omega
    . refine⟨_,rfl,_,_,rfl,rfl,⟨by decide,by decide⟩,rfl,_,_,_,rfl,?_,?_⟩
      . rw[XR,hz];rfl
      . rw[Yh,all_append,hk];simp[hc2]
  . rintro σ H2 ⟨rfl,n',z,v,rfl,hz,hk⟩;have hz8:z.length<=8:=by omega
    have hz1:1<=z.length:=by omega
    have cut:gw (Txt.slice z none (some 3))=true->tRet (tSl (λ x lo hi H Q=>∃ z,x = .str z/\z.length<=sizeLine/\Q (.str (Txt.slice z lo hi)) H) (tVar 2) Zfu (tPart (tC (.int 3)))) { nx:=λ _ H'=>Q .non H',rt:=Q } [some (.int n'),some (.int (1+n % 8)),some (.str z),v] H2:=
      λ hg=>⟨_,rfl,_,rfl,z,rfl,le_of_lt (Zs (by omega)),q _ hg⟩
    refine⟨_,rfl,rfl,_,rfl,?_⟩;refine Yb (λ c=>Z8 (cut ?_)) (λ c1=>?_)
    . have e:z="crown":=by injection (of_decide_eq_true c)
      rw[e];decide +kernel
    refine⟨_,rfl,rfl,_,rfl,?_⟩;refine Yb (λ c=>cut ?_) (λ c2=>?_)
    . have e:z="kids":=by injection (of_decide_eq_true c)
      rw[e];decide +kernel
    refine⟨_,rfl,q z ?_⟩;unfold gw;rw[decide_eq_true hz1,decide_eq_true hz8,hk,decide_eq_false (λ e=>c1 (by rw[e];rfl)),decide_eq_false (λ e=>c2 (by rw[e];rfl))];rfl
theorem Zc1 {f:Addr}{fd:FuncData}(F:Fun K "_law_common" "_law_common" XZ f fd)(T:Txt K g mg)  : FnOk P w0 K mg base CX0 1 f fd ["_law_a","_law_b"] (Zaj K g):=by
  refine F.ok Zak (λ vs H Q E h=>?_) (λ cdv A outer s H vs Q E hr h=>?_)
  . obtain⟨a,b,rfl,_⟩:=h;rfl
  obtain⟨a,b,rfl,ha,hb,q⟩:=h;refine⟨_,(
(Ze (JK PassesOwn.never (Zm JP (pv 1) Zf (Zt _))
 (Zg (Zhd (i:=0) (j:=1) rfl Zak.nd rfl rfl (by decide) rfl rfl (Za (pv 1) (Za (Zl Z6 (pv 0) (pv 1)) Zd)) rfl)))
 (Zg (Zj (pv 0))))),?_⟩
  refine ZaG (λ σ H'=>∃ x y:Int,σ=[some (.int x),some (.int y)]/\0<=x/\0<=y/\Sh.G x y=Sh.G a b/\H'=H) (λ σ _=>match σ with|[_,some (.int y)]=>y.toNat|_=>0) ⟨a,b,rfl,ha,hb,rfl,rfl⟩ ?_ ?_
  . rintro σ H' ⟨x,y,rfl,hx,hy,hg,rfl⟩;refine⟨_,rfl,_,_,rfl,rfl,_,rfl,?_⟩;refine Yb (λ c=>?_) (λ c=>?_)
    . have c':0<y:=of_decide_eq_true c;refine⟨_,rfl,_,rfl,_,rfl,_,_,rfl,rfl,c',_,_,rfl,⟨y,x % y,rfl,hy,emod_nonneg x (by omega),(Sh.G_step hx c').trans hg,rfl⟩,?_⟩;have h1:=emod_lt_of_pos x c';have h2:=emod_nonneg x (show y≠0 by omega);show(x % y).toNat<y.toNat;omega
    . have c':¬ 0<y:=of_decide_eq_false (Bool.eq_false_iff.mpr c);refine⟨_,rfl,?_⟩;have e:x=Sh.G a b:=(Sh.G_zero hx hy c').trans hg;rw[e];exact q
  . rintro σ H Q Q' h ⟨v,e,i,j,e1,e2,k,e3,q⟩;exact⟨v,e,i,j,e1,e2,k,e3,h _ _ q⟩
theorem Zfd {f:Addr}{fd:FuncData}(F:Fun K "_law_low" "_law_low" Zbc f fd)(T:Txt K g mg)(QaA:X5 P w0 K g mg base):FnOk P w0 K mg base CX0 2 f fd ["_law_num_here","_law_den"] (Zb7 K g):=by
  refine F.ok Zcc (λ vs H Q E h=>?_) (λ cdv A outer s H vs Q E hr h=>?_)
  . obtain⟨n,d,rfl,_⟩:=h;rfl
  obtain⟨n,d,rfl,hn,hd,hs,q⟩:=h;refine⟨_,(
(Ze (Zu (i:=2) Zcc.nd rfl (Or.inl rfl) (Zz QaA (h_ hr) (Za (pv 0) (Za (pv 1) Zd))))
 (Zg (Zj (ZW (Za (Zl Za1 (pv 0) (pv 2)) (Za (Zl Za1 (pv 1) (pv 2)) Zd))))))),?_⟩
  have g0:=Sh.G_pos (a:=n) hd;have g1:=Sh.G_le (a:=n) hd;have g2:(Sh.G n d).natAbs<BIG:=Nat.lt_of_le_of_lt (by omega) hs;refine⟨_,rfl,_,rfl,n,d,rfl,hn,Int.le_of_lt hd,?_⟩;exact⟨_,rfl,_,rfl,_,_,rfl,rfl,⟨g0,g2⟩,_,rfl,_,rfl,_,_,rfl,rfl,⟨g0,g2⟩,(by show 2<=sizeLine;decide),q⟩
theorem ZbM {f:Addr}{fd:FuncData}(F:Fun K "_law_is_share" "_law_is_share" Y9 f fd)(T:Txt K g mg)(QaA:X5 P w0 K g mg base)(QaK:Zdm P w0 K g mg base):FnOk P w0 K mg base CX0 2 f fd ["_law_found"] (Jc K g):=by
  refine F.ok ZbG (λ vs H Q E h=>?_) (λ cdv A outer s H vs Q E hr h=>?_)
  . obtain⟨p,x,y,rfl,_⟩:=h;rfl
  obtain⟨p,x,y,rfl,hp,hx,hy,hg,q⟩:=h;refine⟨_,(
(Ze (ZB (PW.pt (XS (YC (Yl (Zr XX rfl T.z_isinstance PyProof.Rows.boot_isinstance (Za (pv 0) (Za (J4 (v:=V.ty "tuple") rfl T.z_tuple PyProof.Rows.boot_tuple rfl) Zd))))) (YU (Zm ZfH (Zr Zy rfl T.z_len boot_len (Za (pv 0) Zd)) Zf (Zt _)))))
 (Zg (Zj Xd))
 Zp)
 (Ze (ZB (PW.pt (XS (YC (Yl (Zz QaK (h_ hr) (Za (Zq Zo (pv 0) Zf (λ _ _=>rfl)) Zd)))) (YU (YC (Yl (Zz QaK (h_ hr) (Za (Zq Zo (pv 0) Zf (λ _ _=>rfl)) Zd)))))))
 (Zg (Zj Xd))
 Zp)
 (Ze (ZB (PW.pt (XS (Zm Za0 (Zq Zo (pv 0) Zf (λ _ _=>rfl)) Zf (Zt _)) (YU (Zm Za0 (Zq Zo (pv 0) Zf (λ _ _=>rfl)) Zf (Zt _)))))
 (Zg (Zj Xd))
 Zp)
 (Zg (Zj (ZdL YK (Zz QaA (h_ hr) (Za (Zq Zo (pv 0) Zf (λ _ _=>rfl)) (Za (Zq Zo (pv 0) Zf (λ _ _=>rfl)) Zd))) Zf (Zt _)))))))),?_⟩
  have t0:SqT K H p [.int x, .int y]:=SqT.of hp;have a0:atI [V.int x,V.int y] 0=some (.int x):=rfl;have a1:atI [V.int x,V.int y] 1=some (.int y):=rfl;refine⟨_,rfl,_,_,_,_,rfl, .tup hp,ZhB,_,rfl,ZU ?_⟩;refine⟨_,rfl,_,_,rfl, .inr ⟨_,t0,rfl⟩,rfl,_,rfl,ZU ?_⟩;refine⟨_,rfl,p,_,_,_,rfl,rfl,t0,a0,x,rfl,_,rfl,ZU ?_⟩;refine⟨_,rfl,p,_,_,_,rfl,rfl,t0,a1,y,rfl,_,rfl,ZU ?_⟩;refine⟨_,rfl,p,_,_,_,rfl,rfl,t0,a0,_,_,rfl,rfl,_,rfl,?_⟩;rw[decide_eq_false (show ¬ x<0 by omega)];refine ZU ?_;refine⟨_,rfl,p,_,_,_,rfl,rfl,t0,a1,_,_,rfl,rfl,_,rfl,?_⟩;rw[decide_eq_false (show ¬ y<1 by omega)];refine ZU ?_;refine⟨_,rfl,p,_,_,_,rfl,rfl,t0,a0,_,rfl,p,_,_,_,rfl,rfl,t0,a1,x,y,rfl,hx,Int.le_of_lt hy,rfl,?_⟩;rw[hg];exact q
theorem Zbi {f:Addr}{fd:FuncData}(F:Fun K "_law_is_ledger" "_law_is_ledger" YT f fd)(T:Txt K g mg)(Qbe:JW P w0 K g mg base):FnOk P w0 K mg base CX0 3 f fd ["_law_found"] (XQ K g):=by
  refine F.ok Z0 (λ vs H Q E h=>?_) (λ cdv A outer s H vs Q E hr h=>?_)
  . obtain⟨l,es,rfl,_⟩:=h;rfl
  obtain⟨l,es,rfl,hL,hP,hN,q⟩:=h;refine⟨_,(
(Ze (ZB (YC (Yl (Zr XX rfl T.z_isinstance PyProof.Rows.boot_isinstance (Za (pv 0) (Za (J4 (v:=V.ty "list") rfl T.z_list boot_list rfl) Zd)))))
 (Zg (Zj Xd))
 Zp)
 (Ze (Zu (i:=1) Z0.nd rfl (Or.inl rfl) Zn)
 (Ze (Ys PassesOwn.never rfl (Zin rfl T.z_enumerate (Za (pv 0) Zd)) (ZdK rfl (ZV (ZD (i:=2) Z0.nd rfl (Or.inl rfl)) (ZV (ZD (i:=3) Z0.nd rfl (Or.inl rfl)) ZaZ)))
 (Ze (ZB (PW.pt (XS (YC (Yl (Zr XX rfl T.z_isinstance PyProof.Rows.boot_isinstance (Za (pv 3) (Za (J4 (v:=V.ty "tuple") rfl T.z_tuple PyProof.Rows.boot_tuple rfl) Zd))))) (XS (Zm ZfH (Zr Zy rfl T.z_len boot_len (Za (pv 3) Zd)) Zf (Zt _)) (YU (YC (Yl (Zr XX rfl T.z_isinstance PyProof.Rows.boot_isinstance (Za (Zq Zo (pv 3) Zf (λ _ _=>rfl)) (Za (J4 (v:=V.ty "str") rfl T.z_str boot_str rfl) Zd)))))))))
 (Zg (Zj Xd))
 Zp)
 (Ze (ZB (PW.pt (XS (YC (Yl (Zz Qbe (h_ hr) (Za (ZW (Za (Zq Zo (pv 3) Zf (λ _ _=>rfl)) (Za (Zq Zo (pv 3) Zf (λ _ _=>rfl)) Zd))) Zd)))) (YU (Zm YK (Zq Zo (pv 3) Zf (λ _ _=>rfl)) Zf (Zt _)))))
 (Zg (Zj Xd))
 Zp)
 (Ze (ZB (PW.pt (Zct (Zm JP (pv 2) Zf (Zt _)) (ZbX (Zm Zgm (Zq Zo (pv 3) Zf (λ _ _=>rfl)) (pv 1) (Zt _)))))
 (Zg (Zj Xd))
 Zp)
 (Zg (Zu (i:=1) Z0.nd rfl (Or.inl rfl) (Zq Zo (pv 3) Zf (λ _ _=>rfl))))))))
 (Zg (Zj Xd)))))),?_⟩
  obtain⟨xs,hl,hx⟩:=hL.len;refine⟨_,rfl,_,_,_,_,rfl, .lst hl,kit_ll,_,rfl,ZU ?_⟩;refine⟨_,rfl,l,rfl,⟨xs,SqL.of hl⟩,ZhN (xs:=xs) (λ i σ H2=>Zv H H2/\∃(vk ve:Option V)(last:Str),σ=[some (.ref l),some (.str last),vk,ve]/\∀ j,j+1=i->∃ e,es[j]? = some e/\last=e.1) ⟨Zv.refl _,_,_,_,rfl,λ j hj=>by omega⟩ ?_ ?_ ?_⟩
  . rintro i σ H2 _ ⟨sm,_⟩;exact sm.seq (SqL.of hl)
  . rintro i x σ H2 Tt hxi ⟨sm,vk,ve,last,rfl,hlast⟩ hT;obtain⟨p,e,rfl,he,hp⟩:=hL.at hl hxi;have hp3:upd H2 Tt (.tup [.int i, .ref p]) p=some (.tup [.str e.1, .int e.2.1, .int e.2.2]):=by
      rw[Zc (Zk (sm _ _ hp) hT)];exact sm _ _ hp
    have ne:=hN e (mem_of_getElem? he);refine⟨Tt,_,rfl,SqT.of Zb,rfl,_,_,rfl,_,_,rfl,rfl,?_⟩;refine⟨_,rfl,_,_,_,_,rfl, .tup hp3,ZhB,_,rfl,ZU ?_⟩;refine⟨_,rfl,_,_,rfl, .inr ⟨_,SqT.of hp3,rfl⟩,rfl,_,rfl,ZU ?_⟩;refine⟨_,rfl,p,_,_,_,rfl,rfl,SqT.of hp3,rfl,_,_,_,_,rfl, .str _,kit_ss,_,rfl,ZU ?_⟩;refine⟨_,rfl,p,_,_,_,rfl,rfl,SqT.of hp3,rfl,_,rfl,p,_,_,_,rfl,rfl,SqT.of hp3,rfl,(by show 2<=sizeLine;decide),λ r hr0=>?_⟩;refine⟨r,_,_,rfl,Zb,ne.1.1,ne.1.2.1,ne.1.2.2,_,rfl,ZU ?_⟩;have hp4:∀ o,upd (upd H2 Tt (.tup [.int i, .ref p])) r o p=some (.tup [.str e.1, .int e.2.1, .int e.2.2]):=λ o=>by
      rw[Zc (Zk hp3 hr0)];exact hp3
    refine⟨_,rfl,p,_,_,_,rfl,rfl,SqT.of (hp4 _),rfl,rfl,_,rfl,?_⟩;refine Yb (λ c=>absurd (V.int.inj (of_decide_eq_true c)) ne.2) (λ _=>?_);have sN:∀ o u,Zv H (upd (upd H2 Tt o) r u):=λ o u b w z=>by
      have z2:=sm b w z;rw[Zc,Zc (Zk z2 hT)]
      . exact z2
      . intro y;subst y
        by_cases y2:b=Tt
        . subst y2;rw[hT]at z2;cases z2
        . rw[Zc y2,z2]at hr0;cases hr0
    refine⟨_,rfl,_,_,rfl,rfl,_,rfl,?_⟩;have fin:∃ v,([some (V.ref l),some (V.str last),some (V.int i),some (V.ref p)]:St)[3]? = some (some v)/\True:=⟨_,rfl,trivial⟩;refine Yb (λ c=>?_) (λ c=>?_)
    . have c':(0:Int)<(i:Int):=of_decide_eq_true c;refine⟨_,rfl,p,_,_,_,rfl,rfl,SqT.of (hp4 _),rfl,_,rfl,_,_,rfl,rfl,_,rfl,?_⟩;obtain⟨e0,he0,rfl⟩:=hlast (i - 1) (by omega);have lt:ltS e0.1 e.1:=by
        obtain⟨i0,j0⟩:=List.getElem?_eq_some_iff.mp he0;obtain⟨i1,j1⟩:=List.getElem?_eq_some_iff.mp he;rw[<- j0,<- j1];exact List.pairwise_iff_getElem.mp hP (i - 1) i i0 i1 (by omega)
      have z:(!decide (e0.1.cps.toList<e.1.cps.toList))=false:=by
        rw[decide_eq_true (show e0.1.cps.toList<e.1.cps.toList from lt)];rfl
      refine Yb (λ c=>?_) (λ _=>?_)
      . have c2:(!decide (e0.1.cps.toList<e.1.cps.toList))=true:=c;rw[z]at c2;cases c2
      . exact⟨_,rfl,p,_,_,_,rfl,rfl,SqT.of (hp4 _),rfl,sN _ _,_,_,_,rfl,λ j hj=>by
        have ej:j=i:=by omega
        subst ej;exact⟨e,he,rfl⟩⟩
    . refine ZU ?_;exact⟨_,rfl,p,_,_,_,rfl,rfl,SqT.of (hp4 _),rfl,sN _ _,_,_,_,rfl,λ j hj=>by
        have ej:j=i:=by omega
        subst ej;exact⟨e,he,rfl⟩⟩
  . rintro σ H2 ⟨sm,_⟩;exact q H2 sm
theorem ZdU {f:Addr}{fd:FuncData}(F:Fun K "_law_model" "_law_model" JF f fd)(T:Txt K g mg)  : FnOk P w0 K mg base CX0 1 f fd ["_law_year"] (ZaN K g):=by
  refine F.ok ZdA (λ vs H Q E h=>?_) (λ cdv A outer s H vs Q E hr h=>?_)
  . obtain⟨y,rfl,_⟩:=h;rfl
  obtain⟨y,rfl,q⟩:=h;refine⟨_,(
(Zg (Zj (ZW (Za (Yt (Za (pv 0) Zd)) (Za Yu (Za Yu (Za Yu Zd)))))))),?_⟩
  refine⟨_,rfl,(by show 1<=sizeLine;decide),λ c hc=>?_⟩;intro e1 h1 e2 h2 e3 h3;refine⟨(by show 4<=sizeLine;decide),λ m hm=>?_⟩;have s1:=Zi hc (.lst [V.int y]);have s2:=Zi h1 (.dK []);have s3:=Zi h2 (.dK []);have s4:=Zi h3 (.dK []);have s5:=Zi hm (.tup [V.ref c,V.ref e1,V.ref e2,V.ref e3]);have t2:=s1.trans s2;have t3:=t2.trans s3;have t4:=t3.trans s4;have u1:upd (upd H c (.lst [V.int y])) e1 (.dK []) e1=some (.dK []):=Zb;have v1:=s3 _ _ u1;have u2:upd (upd (upd H c (.lst [V.int y])) e1 (.dK [])) e2 (.dK []) e2=some (.dK []):=Zb;have v2:=s4 _ _ u2;refine q m (Xh m c e1 e2 e3) _ (t4.trans s5) (λ a ha=>?_) ⟨c,e1,e2,e3,
    ⟨Zb,s5 _ _ (s4 _ _ (s3 _ _ (s2 _ _ Zb))),s5 _ _ (s4 _ _ v1),s5 _ _ v2,s5 _ _ Zb,Zk u1 h2,Zk v1 h3,Zk u2 h3⟩,rfl⟩
  unfold Xh at ha;simp only[mem_cons,not_mem_nil,or_false]at ha;rcases ha with rfl|rfl|rfl|rfl|rfl
  . exact t4.free hm
  . exact hc
  . exact s1.free h1
  . exact t2.free h2
  . exact t3.free h3
theorem Zez {f:Addr}{fd:FuncData}(F:Fun K "_law_kids" "_law_kids" ZaA f fd)(T:Txt K g mg)  : FnOk P w0 K mg base CX0 1 f fd ["_law_model_here","_law_name"] (Zbs K g):=by
  refine F.ok Zbt (λ vs H Q E h=>?_) (λ cdv A outer s H vs Q E hr h=>?_)
  . obtain⟨m,S,R,n,rfl,_⟩:=h;rfl
  obtain⟨m,S,R,n,rfl,MM,W,hx,hk,q⟩:=h;obtain⟨c,e1,e2,e3,M,eR⟩:=MdlAt.ex MM;have h1:∀ i,i<nk S.bs n->has S.bs (kid n i)=true:=λ i hi=>(W.cnt n i (by omega)).mpr hi;have h2:=W.no_kid n;generalize nk S.bs n=k at *;refine⟨_,(
(Ze (Zu (i:=2) Zbt.nd rfl (Or.inl rfl) (Yt Zd))
 (Ze (JK PassesOwn.never (X1 (ZdN (ZP hr) (Zl ZL (Zl ZL (pv 1) Zn) (YD X6 rfl T.z_str boot_str (Za (Zl Z7 (Zr Zy rfl T.z_len boot_len (Za (pv 2) Zd)) Zf) Zd))) (Zq Zo (pv 0) Zf (λ _ _=>rfl))))
 (Zg (ZE (JO plainAttrs_list PySem.F.slot_list_append PySem.F.type_list_append Y3 (pv 2) (Za (Zl ZL (Zl ZL (pv 1) Zn) (YD X6 rfl T.z_str boot_str (Za (Zl Z7 (Zr Zy rfl T.z_len boot_len (Za (pv 2) Zd)) Zf) Zd))) Zd)))))
 (Zg (Zj (pv 2)))))),?_⟩
  refine⟨zero_le _,λ l hl=>?_⟩;have nm:m≠l:=Zk M.tup hl;have n1:e1≠l:=Zk M.h1 hl;refine⟨λ mm σ H2=>∃ i,i<=k/\mm=k - i/\σ=[some (.ref m),some (.str n),some (.ref l)]/\H2=upd H l (.lst (YL n i)),⟨k,0,zero_le _,rfl,rfl,rfl⟩,?_⟩;rintro mm σ H2 ⟨i,hi,rfl,rfl,rfl⟩;have kl:(YL n i).length=i:=by unfold YL;rw[length_map,length_range]
  have c0:(0:Int)<=(((YL n i).length:Nat):Int)+1:=by omega
  have c1:(((YL n i).length:Nat):Int)+1<131:=by omega
  have tl:=ZeY c0 c1;have l3:(n++(".":Str)).length=n.length+1:=by rw[Ziz];rfl
  have ke:n++(".":Str)++(toString ((((YL n i).length:Nat):Int)+1):Str)=kid n i:=by rw[kl];rfl
  have g:Z3 (upd H l (.lst (YL n i))) e1 (.str (kid n i)) (Z4 (yrs S.bs) (Sum.inr (kid n i):Key)):=Z3.k (k:=Sum.inr (kid n i)) (by rw[Zc n1];exact M.h1);refine⟨_,rfl,n,_,rfl,rfl,ZG (by show n.length+1<=500;omega),_,rfl,_,_,rfl, .inl ⟨_,SqL.of Zb,rfl⟩,_,_,rfl,rfl,_,rfl,J6 c0 c1,_,_,rfl,rfl,ZG (by rw[l3];omega),?_⟩;rw[ke];refine⟨_,rfl,m,_,_,_,rfl,rfl,SqT.of (by rw[Zc nm];exact M.tup),rfl,e1,_,rfl,g,_,rfl,?_⟩;rw[ZZ]
  by_cases ci:i<k
  . rw[h1 i ci];refine Z8 ⟨λ σ H2=>σ=[some (.ref m),some (.str n),some (.ref l)]/\H2=upd H l (.lst (YL n (i+1))),λ σ' H' ⟨a1,a2⟩=>⟨k - (i+1),by omega,i+1,ci,rfl,a1,a2⟩,?_⟩;refine⟨_,rfl, .inl ⟨rfl,_,SqL.of Zb⟩,_,rfl,n,_,rfl,rfl,ZG (by show n.length+1<=500;omega),_,rfl,_,_,rfl, .inl ⟨_,SqL.of Zb,rfl⟩,_,_,rfl,rfl,_,rfl,J6 c0 c1,_,_,rfl,rfl,ZG (by rw[l3];omega),l,_,_,rfl,rfl,Zb,Zs (by rw[kl];omega),rfl,?_⟩;rw[ke,Zdt,Zdh]
  . have e:i=k:=by omega
    subst e;rw[h2];exact ZU ⟨_,rfl,q l _ (Zi hl _) hl Zb⟩
theorem Zc0 {f:Addr}{fd:FuncData}(F:Fun K "_law_living" "_law_living" XY f fd)(T:Txt K g mg)  : FnOk P w0 K mg base CX0 1 f fd ["_law_model_here"] (Zai K g):=by
  refine F.ok ZcZ (λ vs H Q E h=>?_) (λ cdv A outer s H vs Q E hr h=>?_)
  . obtain⟨m,S,R,rfl,_⟩:=h;rfl
  obtain⟨m,S,R,rfl,MM,hlen,q⟩:=h;obtain⟨c,d1,d2,d3,B,eR⟩:=MdlAt.ex MM;obtain⟨y,bs,ds,cs⟩:=S;simp only at B hlen q;refine⟨_,(
(Zg (Zj (Zip (d:=d1) (kvs:=yrs bs) (ZfE (x:="_law_name") (cl:=[("_law_model_here",s.heap.objs.size+1)]) (caps:=[("_law_model_here",0)]) rfl (ZdJ (Zq Zo (pv 0) Zf (λ _ _=>rfl))) (λ _ _ _ _ _=>JM (X1 (Yn (ZP hr) (pv 0) (Zq (show IxR _ (rIxT K) from Zo) (pv 1) Zf (λ _ _=>rfl))))) (λ _ _ _ _ _=>(pv 0)) rfl (by decide +kernel) rfl (by decide +kernel) rfl (λ _ _ h=>h) (XG rfl) (λ p hp=>by rw[List.mem_singleton.mp hp];exact⟨rfl,rfl,by first|exact .inl rfl|exact .inr rfl⟩) (by decide +kernel)))))),?_⟩
  have hb:=B.tup;have nb1:m≠d1:=ZA hb B.h1 (λ z=>by cases z);have yl:(yrs bs).length=bs.length:=by unfold yrs;rw[length_map]
  refine⟨B.h1,_,rfl,m,_,_,_,rfl,rfl,SqT.of hb,rfl,d1,_,rfl,B.h1,λ o D hD=>⟨λ i k H2=>i<=bs.length/\k=bs.length - i/\H2=upd (upd H d1 (.frz o (.dK (yrs bs)))) D (.lst (((bs.take i).filter λ p => !has ds p.1).map λ p=>V.str p.1)),⟨bs.length,zero_le _,rfl,rfl⟩,?_⟩⟩;have n1:D≠d1:=λ e=>by rw[e,Zb]at hD;cases hD
  have hD0:H D=none:=by rw[Zc n1]at hD;exact hD
  have nb:m≠D:=Zk hb hD0;have n2:d2≠D:=Zk B.h2 hD0;rintro i k H2 ⟨hi,rfl,rfl⟩
  by_cases ci:i<bs.length
  . refine .inr ⟨⟨by rw[Zc (Ne.symm n1),Zb],by rw[yl];exact ci⟩,λ x H' ⟨e,kk,v,ek,ex⟩=>?_⟩;subst e;have ek':(yrs bs)[i]? = some ((Sum.inr (bs[i]).1:Key),V.int (bs[i]).2):=by unfold yrs;rw[getElem?_map,getElem?_eq_getElem ci];rfl
    rw[ek']at ek;cases ek;subst ex;have g:Z3 (upd (upd H d1 (.frz o (.dK (yrs bs)))) D (.lst (((bs.take i).filter λ p => !has ds p.1).map λ p=>V.str p.1))) d2 (.str (bs[i]).1) (Z4 (yrs ds) (Sum.inr (bs[i]).1:Key)):=Z3.k (k:=Sum.inr (bs[i]).1) (by rw[Zc n2,Zc (Ne.symm B.n12)];exact B.h2);refine⟨_,rfl,_,rfl,m,_,_,_,rfl,rfl,SqT.of (by rw[Zc nb,Zc nb1];exact hb),rfl,d2,_,rfl,g,_,rfl,?_⟩;rw[ZZ];have tk:bs.take (i+1)=bs.take i++[bs[i]]:=(XN ci).symm;cases e:has ds (bs[i]).1 with
    |true=>
      refine ZU ⟨bs.length - (i+1),by omega,ci,rfl,?_⟩;rw[tk,filter_append];simp[e]
    |false=>
      refine Z8 ⟨_,rfl,_,bs.length - (i+1),Zb,Zs ?_,by omega,ci,rfl,?_⟩
      . rw[length_map];exact le_trans (length_filter_le _ _) (by rw[length_take];omega)
      . rw[Zdt,tk,filter_append,map_append];simp[e];rfl
  . have e:i=bs.length:=by omega
    subst e;refine .inl ⟨⟨by rw[Zc (Ne.symm n1),Zb],by rw[yl];exact le_refl _⟩,o,by rw[Zc (Ne.symm n1),Zb],?_⟩;rw[take_length];have eq:upd (upd (upd H d1 (.frz o (.dK (yrs bs)))) D (.lst ((bs.filter λ p => !has ds p.1).map λ p=>V.str p.1))) d1 (.dK (yrs bs))=upd H D (.lst ((bs.filter λ p => !has ds p.1).map λ p=>V.str p.1)):=by
      funext a
      by_cases ha:a=d1
      . rw[ha,Zb,Zc (Ne.symm n1),B.h1]
      . rw[Zc ha]
        by_cases hA:a=D
        . rw[hA,Zb,Zb]
        . rw[Zc hA,Zc ha,Zc hA]
    rw[eq];exact q D _ (Zi hD0 _) hD0 Zb
theorem Zew {f:Addr}{fd:FuncData}(F:Fun K "_law_play" "_law_play" Zax f fd)(T:Txt K g mg)(QaB:ZaF P w0 K g mg base):FnOk P w0 K mg base CX0 2 f fd ["_law_model_here","_law_deed"] (Zbq K g):=by
  refine F.ok YJ (λ vs H Q E h=>?_) (λ cdv A outer s H vs Q E hr h=>?_)
  . obtain⟨m,S,R,p,d,far,k,rfl,_⟩:=h;rfl
  obtain⟨m,S,R,p,d,far,k,rfl,M,hp,O,hk98,hg,q⟩:=h;obtain⟨c,e1,e2,e3,B,eR⟩:=MdlAt.ex M;refine⟨_,(
(Ze (Ze8 (pv 0) (ZdK rfl (ZV (ZD (i:=2) YJ.nd rfl (Or.inl rfl)) (ZV (ZD (i:=3) YJ.nd rfl (Or.inl rfl)) (ZV (ZD (i:=4) YJ.nd rfl (Or.inl rfl)) (ZV (ZD (i:=5) YJ.nd rfl (Or.inl rfl)) ZaZ))))))
 (Ze (ZB (Zm YK (Zq Zo (pv 1) Zf (λ _ _=>rfl)) Zn (Zt _))
 (Zg (Ze8 (Zl Z7 (Zq Ya (pv 2) Zf (λ _ _=>rfl)) (Zq Zo (pv 1) Zf (λ _ _=>rfl))) (pg_sub (pv 2) Zf Zg0)))
 Zp)
 (Ze (ZB (Zm YK (Zq Zo (pv 1) Zf (λ _ _=>rfl)) Zn (Zt _))
 (Zg (YH (ZP hr) (pv 3) (Zq Zo (pv 1) Zf (λ _ _=>rfl)) (Zl Zcv (Zq Ya (pv 2) Zf (λ _ _=>rfl)) (Zq Zo (pv 1) Zf (λ _ _=>rfl))) rfl))
 Zp)
 (Ze (ZB (Zm YK (Zq Zo (pv 1) Zf (λ _ _=>rfl)) Zn (Zt _))
 (Zg (YH (ZP hr) (pv 3) (Zl ZL (Zl ZL (Zq Zo (pv 1) Zf (λ _ _=>rfl)) Zn) (YD X6 rfl T.z_str boot_str (Za (Zl Z7 (Zr Zy rfl T.z_len boot_len (Za (Zz QaB (h_ hr) (Za (pv 0) (Za (Zq Zo (pv 1) Zf (λ _ _=>rfl)) Zd))) Zd)) Zf) Zd))) (Zq Ya (pv 2) Zf (λ _ _=>rfl)) rfl))
 Zp)
 (Ze (ZB (Zm YK (Zq Zo (pv 1) Zf (λ _ _=>rfl)) Zn (Zt _))
 (Zg (YH (ZP hr) (pv 4) (Zq Zo (pv 1) Zf (λ _ _=>rfl)) (Zq Ya (pv 2) Zf (λ _ _=>rfl)) rfl))
 Zp)
 (Zg (ZB (Zm YK (Zq Zo (pv 1) Zf (λ _ _=>rfl)) Zn (Zt _))
 (Zg (YH (ZP hr) (pv 5) (Zq Zo (pv 1) Zf (λ _ _=>rfl)) (Zq Ya (pv 2) Zf (λ _ _=>rfl)) rfl))
 Zp)))))))),?_⟩
  refine⟨_,rfl,m,_,rfl,SqT.of B.tup,rfl,_,_,rfl,_,_,rfl,_,_,rfl,_,_,rfl,rfl,?_⟩;cases d with
  |arrive ww aa=>
    refine⟨_,rfl,p,_,_,_,rfl,rfl,SqT.of hp,rfl,rfl,_,rfl,Yo (by decide +kernel) ?_⟩;refine⟨_,rfl,p,_,_,_,rfl,rfl,SqT.of hp,rfl,rfl,_,rfl,Zd4 ?_⟩;refine⟨_,rfl,c,_,_,_,rfl,rfl,SqL.of B.clk,rfl,_,rfl,p,_,_,_,rfl,rfl,SqT.of hp,rfl,_,_,rfl,rfl,_,rfl,_,rfl,p,_,_,_,rfl,rfl,SqT.of hp,rfl,e1,_,rfl,Zah.k (k:=Sum.inr ww) B.h1 (Zs (by unfold yrs;rw[length_map];have:=O.lb;omega)),?_⟩;rw[Yq _ (J5 hg.2.1),J2];obtain⟨hp,hk,fin⟩:=B.put1 eR hp (bs':=S.bs++[(ww,S.y - aa)]);refine⟨_,rfl,p,_,_,_,rfl,rfl,SqT.of hp,rfl,rfl,_,rfl,Yo (by decide +kernel) ?_⟩;refine⟨_,rfl,p,_,_,_,rfl,rfl,SqT.of hp,rfl,rfl,_,rfl,Yo (by decide +kernel) ?_⟩;refine⟨_,rfl,p,_,_,_,rfl,rfl,SqT.of hp,rfl,rfl,_,rfl,Yo (by decide +kernel) ?_⟩;exact q _ hk fin
  |birth nn=>
    refine⟨_,rfl,p,_,_,_,rfl,rfl,SqT.of hp,rfl,rfl,_,rfl,Yo (by decide +kernel) ?_⟩;refine⟨_,rfl,p,_,_,_,rfl,rfl,SqT.of hp,rfl,rfl,_,rfl,Yo (by decide +kernel) ?_⟩;refine⟨_,rfl,p,_,_,_,rfl,rfl,SqT.of hp,rfl,rfl,_,rfl,Zd4 ?_⟩;have hx:=X2 (O.wf.wrt nn hg.1);have hf:=O.wf.few nn;have hlb:=O.lb;refine⟨_,rfl,c,_,_,_,rfl,rfl,SqL.of B.clk,rfl,_,rfl,_,rfl,p,_,_,_,rfl,rfl,SqT.of hp,rfl,nn,_,rfl,rfl,ZG (by show nn.length+1<=500;omega),_,rfl,_,rfl,p,_,_,_,rfl,rfl,SqT.of hp,rfl,m,S,R,nn,rfl,M,O.wf,by omega,by omega,λ l H1 s1 hl1 hl2=>?_⟩;have B:=B.keep s1;have hp:=s1 _ _ hp;have M:=M.same s1;have kl:(YL nn (nk S.bs nn)).length=nk S.bs nn:=by unfold YL;rw[length_map,length_range]
    have c0:(0:Int)<=((nk S.bs nn:Nat):Int)+1:=by omega
    have c1:((nk S.bs nn:Nat):Int)+1<131:=by omega
    have tl:=ZeY c0 c1;refine⟨_,_,rfl, .inl ⟨_,SqL.of hl2,rfl⟩,_,_,rfl,rfl,?_⟩;rw[kl];refine⟨_,rfl,J6 c0 c1,_,_,rfl,rfl,ZG (by rw[show(nn++(".":Str)).length=nn.length+1 from XR _ _];omega),e1,_,rfl,Zah.k (k:=Sum.inr (kid nn (nk S.bs nn))) B.h1 (Zs (by unfold yrs;rw[length_map];omega)),?_⟩;rw[Yq _ (J5 (O.wf.no_kid nn)),J2];obtain⟨hp,hk1,fin⟩:=B.put1 eR hp (bs':=S.bs++[(kid nn (nk S.bs nn),S.y)]);have hk:=s1.kp.wide (Y:=R) (λ _ h=>nomatch h) |>.tr hk1 (λ a ha => .inl ha);refine⟨_,rfl,p,_,_,_,rfl,rfl,SqT.of hp,rfl,rfl,_,rfl,Yo (by decide +kernel) ?_⟩;refine⟨_,rfl,p,_,_,_,rfl,rfl,SqT.of hp,rfl,rfl,_,rfl,Yo (by decide +kernel) ?_⟩;exact q _ hk fin
  |death nn=>
    refine⟨_,rfl,p,_,_,_,rfl,rfl,SqT.of hp,rfl,rfl,_,rfl,Yo (by decide +kernel) ?_⟩;refine⟨_,rfl,p,_,_,_,rfl,rfl,SqT.of hp,rfl,rfl,_,rfl,Yo (by decide +kernel) ?_⟩;refine⟨_,rfl,p,_,_,_,rfl,rfl,SqT.of hp,rfl,rfl,_,rfl,Yo (by decide +kernel) ?_⟩;refine⟨_,rfl,p,_,_,_,rfl,rfl,SqT.of hp,rfl,rfl,_,rfl,Zd4 ?_⟩;refine⟨_,rfl,c,_,_,_,rfl,rfl,SqL.of B.clk,rfl,_,rfl,_,rfl,p,_,_,_,rfl,rfl,SqT.of hp,rfl,e2,_,rfl,Zah.k (k:=Sum.inr nn) B.h2 (Zs (by unfold yrs;rw[length_map];have:=O.ld;omega)),?_⟩;rw[Yq _ (J5 hg.2),J2];obtain⟨hp,hk,fin⟩:=B.put2 eR hp (ds':=S.ds++[(nn,S.y)]);refine⟨_,rfl,p,_,_,_,rfl,rfl,SqT.of hp,rfl,rfl,_,rfl,Yo (by decide +kernel) ?_⟩;exact q _ hk fin
  |comes ww=>
    refine⟨_,rfl,p,_,_,_,rfl,rfl,SqT.of hp,rfl,rfl,_,rfl,Yo (by decide +kernel) ?_⟩;refine⟨_,rfl,p,_,_,_,rfl,rfl,SqT.of hp,rfl,rfl,_,rfl,Yo (by decide +kernel) ?_⟩;refine⟨_,rfl,p,_,_,_,rfl,rfl,SqT.of hp,rfl,rfl,_,rfl,Yo (by decide +kernel) ?_⟩;refine⟨_,rfl,p,_,_,_,rfl,rfl,SqT.of hp,rfl,rfl,_,rfl,Yo (by decide +kernel) ?_⟩;refine⟨_,rfl,p,_,_,_,rfl,rfl,SqT.of hp,rfl,rfl,_,rfl,Zd4 ?_⟩;refine⟨_,rfl,c,_,_,_,rfl,rfl,SqL.of B.clk,rfl,_,rfl,_,rfl,p,_,_,_,rfl,rfl,SqT.of hp,rfl,e3,_,rfl,Zah.k (k:=Sum.inr ww) B.h3 (Zs (by unfold yrs;rw[length_map];have:=O.lc;omega)),?_⟩;rw[Yq _ (J5 hg.2),J2];obtain⟨hp,hk,fin⟩:=B.put3 eR hp (cs':=S.cs++[(ww,S.y)]);exact q _ hk fin
  |years kk=>
    refine⟨_,rfl,p,_,_,_,rfl,rfl,SqT.of hp,rfl,rfl,_,rfl,Zd4 ?_⟩;refine⟨_,rfl,c,_,_,_,rfl,rfl,SqL.of B.clk,rfl,_,rfl,p,_,_,_,rfl,rfl,SqT.of hp,rfl,_,_,rfl,rfl,_,rfl,c,_,0,0,rfl,rfl,B.clk,rfl,?_⟩;have ky:=Xi (H:=H) (a:=c) (o:=.lst [V.int (S.y+kk)]);have hp:upd H c (.lst [V.int (S.y+kk)]) p=some (.tup (Deed.years kk).vals):=by rw[Zc (ZA hp B.clk (λ z=>by cases z))];exact hp
    have fin:YR (upd H c (.lst [V.int (S.y+kk)])) m (S.step (.years kk)) R:=⟨c,e1,e2,e3,⟨by rw[Zc (ZA B.tup B.clk (λ z=>by cases z))];exact B.tup,Zb,by rw[Zc (ZA B.h1 B.clk (λ z=>by cases z))];exact B.h1,by rw[Zc (ZA B.h2 B.clk (λ z=>by cases z))];exact B.h2,by rw[Zc (ZA B.h3 B.clk (λ z=>by cases z))];exact B.h3,B.n12,B.n13,B.n23⟩,eR⟩;have hk:ZS R H (upd H c (.lst [V.int (S.y+kk)])):=ky.wide (λ a ha=>by rw[List.mem_singleton.mp ha,eR];simp[Xh]);refine⟨_,rfl,p,_,_,_,rfl,rfl,SqT.of hp,rfl,rfl,_,rfl,Yo (by decide +kernel) ?_⟩;refine⟨_,rfl,p,_,_,_,rfl,rfl,SqT.of hp,rfl,rfl,_,rfl,Yo (by decide +kernel) ?_⟩;refine⟨_,rfl,p,_,_,_,rfl,rfl,SqT.of hp,rfl,rfl,_,rfl,Yo (by decide +kernel) ?_⟩;refine⟨_,rfl,p,_,_,_,rfl,rfl,SqT.of hp,rfl,rfl,_,rfl,Yo (by decide +kernel) ?_⟩;exact q _ hk fin
theorem Zbh {f:Addr}{fd:FuncData}(F:Fun K "_law_next_deed" "_law_next_deed" Zx f fd)(T:Txt K g mg)(Qbf:Zba P w0 K g mg base)(Qao:ZaE P w0 K g mg base):FnOk P w0 K mg base CX0 2 f fd ["_law_model_here","_law_n","_law_far"] (XO K g):=by
  refine F.ok ZH (λ vs H Q E h=>?_) (λ cdv A outer s H vs Q E hr h=>?_)
  . obtain⟨m,S,R,n,far,rfl,_⟩:=h;rfl
  obtain⟨m,S,R,n,far,rfl,M,hlen,hfar,q⟩:=h;have rest6:PSs (YW CX0 P w0 K mg base ["_law_model_here","_law_n","_law_far","_law_some","_law_kind","_law_word_here","_law_name"] "_law_next_deed" (Zh Zx) f cdv A outer s H E).nox ((ZY Zx).drop 6) (λ D σ H1=>∃(n' kd:Int)(l:Addr)(v5 v6:Option V),σ=[some (.ref m),some (.int n'),some (.int far),some (.ref l),some (.int kd),v5,v6]/\Zv H H1/\H1 l=some (.lst (ZcK S.bs S.ds))/\(∀ d p H',S.good far d->Zv H H'->H p=none->H' p=some (.tup d.vals)->D.rt (.ref p) H')):=by
    refine @J9 _ _ _ _ ((Zg (Zj (ZW (Za Zn (Za (Zl Z7 Zf (Zl Z6 (pv 1) (pv 2))) Zd)))))) ?_;rintro D σ H1 ⟨n',kd,l,v5,v6,rfl,s1,hl,q⟩;have z0:=emod_nonneg n' (show far≠0 by omega);have z1:=emod_lt_of_pos n' hfar;refine⟨_,rfl,_,rfl,_,_,rfl,rfl,hfar,_,_,rfl,rfl,(by show 2<=sizeLine;decide),λ p hp=>?_⟩;exact q (.years (1+n' % far)) p _ ⟨by omega,by omega⟩ (s1.trans (Zi hp _)) (s1.free hp) Zb
  have rest5:PSs (YW CX0 P w0 K mg base ["_law_model_here","_law_n","_law_far","_law_some","_law_kind","_law_word_here","_law_name"] "_law_next_deed" (Zh Zx) f cdv A outer s H E).nox ((ZY Zx).drop 5) (λ D σ H1=>∃(n' kd:Int)(l:Addr)(v5 v6:Option V),σ=[some (.ref m),some (.int n'),some (.int far),some (.ref l),some (.int kd),v5,v6]/\Zv H H1/\H1 l=some (.lst (ZcK S.bs S.ds))/\(∀ d p H',S.good far d->Zv H H'->H p=none->H' p=some (.tup d.vals)->D.rt (.ref p) H')):=by
    refine @J9 _ _ _ _ ((Ze (ZB (Zm YK (pv 4) Zf (Zt _))
 (Ze (Zu (i:=5) ZH.nd rfl (Or.inl rfl) (Zq Ya (Yt (Za Zn (Za Zn (Za Zn (Za (Zz Qao (h_ hr) (Za (Zl Yv (pv 1) Zf) Zd)) Zd))))) (Zl Z6 (pv 1) Zf) (λ _ _=>rfl)))
 (Zg (ZB (X1 (Yn (ZP hr) (pv 5) (Zq Zo (pv 0) Zf (λ _ _=>rfl))))
 (Zg (Zj (ZW (Za Zn (Za (pv 5) Zd)))))
 Zp)))
 Zp)
 @rest6)) ?_
    rintro D σ H1 ⟨n',kd,l,v5,v6,rfl,s1,hl,q⟩;obtain⟨c,e1,e2,e3,B⟩:=(M.same s1).tup_of;refine⟨_,rfl,rfl,_,rfl,Yb (λ _=>?_) (λ _=>⟨n',kd,l,v5,v6,rfl,s1,hl,q⟩)⟩;refine⟨_,rfl,_,_,rfl,rfl,⟨by decide,by decide⟩,_,rfl,λ z hz=>⟨(by show 4<=sizeLine;decide),λ pl hpl=>?_⟩⟩;have z0:=emod_nonneg n' (show(4:Int)≠0 by omega);have z1:=emod_lt_of_pos n' (show(0:Int)<4 by omega);obtain⟨y,hy,gy⟩:=pick4 hz z0 z1;have s2:=Zi hpl (.lst [V.str "war",V.str "flood",V.str "a",V.str z]);refine⟨_,rfl,_,_,rfl,rfl,(by show(0:Int)<4;decide),pl,_,_,_,rfl,rfl,SqL.of Zb,hy,?_⟩;refine⟨_,rfl,_,rfl,m,_,_,_,rfl,rfl,SqT.of (s2 _ _ B.tup),rfl,e3,_,rfl,Z3.k (k:=Sum.inr y) (s2 _ _ B.h3),_,rfl,?_⟩;rw[ZZ];cases e:has S.cs y with
    |true=>exact ZU ⟨n',kd,l,_,v6,rfl,s1.trans s2,s2 _ _ hl,q⟩
    |false=>
      refine Z8 ⟨_,rfl,(by show 2<=sizeLine;decide),λ p hp=>?_⟩;exact q (.comes y) p _ ⟨gy,e⟩ ((s1.trans s2).trans (Zi hp _)) ((s1.trans s2).free hp) Zb
  have rest4:PSs (YW CX0 P w0 K mg base ["_law_model_here","_law_n","_law_far","_law_some","_law_kind","_law_word_here","_law_name"] "_law_next_deed" (Zh Zx) f cdv A outer s H E).nox ((ZY Zx).drop 4) (λ D σ H1=>∃(n' kd:Int)(l:Addr)(v5 v6:Option V),σ=[some (.ref m),some (.int n'),some (.int far),some (.ref l),some (.int kd),v5,v6]/\Zv H H1/\H1 l=some (.lst (ZcK S.bs S.ds))/\(∀ d p H',S.good far d->Zv H H'->H p=none->H' p=some (.tup d.vals)->D.rt (.ref p) H')):=by
    refine @J9 _ _ _ _ ((Ze (ZB (PW.pt (Zct (Zm JP (pv 4) Zf (Zt _)) (Zct (Zm Za0 (pv 4) Zf (Zt _)) (ZbX (Zm JP (Zr Zy rfl T.z_len boot_len (Za (pv 3) Zd)) Zf (Zt _))))))
 (Ze (Zu (i:=6) ZH.nd rfl (Or.inl rfl) (Zq Ya (pv 3) (Zl Z6 (pv 1) (Zr Zy rfl T.z_len boot_len (Za (pv 3) Zd))) (λ _ _=>rfl)))
 (Ze (ZB (Zm JP (pv 4) Zf (Zt _))
 (Zg (Zj (ZW (Za Zn (Za (pv 6) Zd)))))
 Zp)
 (Zg (ZB (Zm Za0 (JO plainAttrs_str slot_str_count type_str_count ZcI (pv 6) (Za Zn Zd)) Zf (Zt _))
 (Zg (Zj (ZW (Za Zn (Za (pv 6) Zd)))))
 Zp))))
 Zp)
 @rest5)) ?_
    rintro D σ H1 ⟨n',kd,l,v5,v6,rfl,s1,hl,q⟩;refine⟨_,rfl,_,_,rfl,rfl,_,rfl,Yb (λ c1=>?_) (λ _=>ZU ⟨n',kd,l,v5,v6,rfl,s1,hl,q⟩)⟩;refine⟨_,rfl,_,_,rfl,rfl,_,rfl,Yb (λ c2=>?_) (λ _=>ZU ⟨n',kd,l,v5,v6,rfl,s1,hl,q⟩)⟩;refine⟨_,rfl,_,_,rfl, .inl ⟨_,SqL.of hl,rfl⟩,_,_,rfl,rfl,_,rfl,Yb (λ c3=>?_) (λ _=>⟨n',kd,l,v5,v6,rfl,s1,hl,q⟩)⟩;have hpos:(0:Int)<((ZcK S.bs S.ds).length:Nat):=of_decide_eq_true c3;obtain⟨v,hv⟩:=atI_in (xs:=ZcK S.bs S.ds) (emod_nonneg n' (show((ZcK S.bs S.ds).length:Int)≠0 by omega)) (emod_lt_of_pos n' hpos);obtain⟨nm,rfl,hb,hd⟩:=Ziy hv;refine⟨_,rfl,_,rfl,_,rfl,_,_,rfl, .inl ⟨_,SqL.of hl,rfl⟩,_,_,rfl,rfl,hpos,l,_,_,_,rfl,rfl,SqL.of hl,hv,?_⟩;refine⟨_,rfl,_,_,rfl,rfl,_,rfl,Yb (λ c4=>?_) (λ _=>?_)⟩
    . refine⟨_,rfl,(by show 2<=sizeLine;decide),λ p hp=>?_⟩;exact q (.death nm) p _ ⟨hb,hd⟩ (s1.trans (Zi hp _)) (s1.free hp) Zb
    . refine⟨_,rfl,rfl,nm,dot,rfl,rfl,_,_,rfl,rfl,_,rfl,Yb (λ c5=>?_) (λ _=>⟨n',kd,l,v5,_,rfl,s1,hl,q⟩)⟩;refine⟨_,rfl,(by show 2<=sizeLine;decide),λ p hp=>?_⟩;exact q (.birth nm) p _ ⟨hb,hd,by have z:=of_decide_eq_true c5;unfold ZN;omega⟩ (s1.trans (Zi hp _)) (s1.free hp) Zb
  have rest3:PSs (YW CX0 P w0 K mg base ["_law_model_here","_law_n","_law_far","_law_some","_law_kind","_law_word_here","_law_name"] "_law_next_deed" (Zh Zx) f cdv A outer s H E).nox ((ZY Zx).drop 3) (λ D σ H1=>∃(n' kd:Int)(l:Addr)(v5 v6:Option V),σ=[some (.ref m),some (.int n'),some (.int far),some (.ref l),some (.int kd),v5,v6]/\Zv H H1/\H1 l=some (.lst (ZcK S.bs S.ds))/\(∀ d p H',S.good far d->Zv H H'->H p=none->H' p=some (.tup d.vals)->D.rt (.ref p) H')):=by
    refine @J9 _ _ _ _ ((Ze (ZB (PW.pt (XS (Zm YK (pv 4) Zf (Zt _)) (YU (PW.pt (Zct (Zm Za0 (pv 4) Zf (Zt _)) (ZbX (Zm YK (Zr Zy rfl T.z_len boot_len (Za (pv 3) Zd)) Zf (Zt _))))))))
 (Ze (Zu (i:=5) ZH.nd rfl (Or.inl rfl) (Zz Qao (h_ hr) (Za (Zl Yv (pv 1) Zf) Zd)))
 (Zg (ZB (X1 (Yn (ZP hr) (pv 5) (Zq Zo (pv 0) Zf (λ _ _=>rfl))))
 (Zg (Zj (ZW (Za Zn (Za (pv 5) (Za (Zl Z6 (pv 1) Zf) Zd))))))
 Zp)))
 Zp)
 @rest4)) ?_
    rintro D σ H1 ⟨n',kd,l,v5,v6,rfl,s1,hl,q⟩;obtain⟨c,e1,e2,e3,B⟩:=(M.same s1).tup_of;refine⟨_,rfl,rfl,_,rfl,Yb (λ _=>Z8 ?_) (λ _=>⟨_,rfl,_,_,rfl,rfl,_,rfl,Yb (λ _=>⟨_,rfl,_,_,rfl, .inl ⟨_,SqL.of hl,rfl⟩,rfl,_,rfl,Yb (λ _=>?_) (λ _=>?_)⟩) (λ _=>ZU ?_)⟩)⟩
    all_goals try exact⟨n',kd,l,v5,v6,rfl,s1,hl,q⟩
    all_goals
      refine⟨_,rfl,_,_,rfl,rfl,⟨by decide,by decide⟩,_,rfl,λ z hz=>?_⟩;refine⟨_,rfl,_,rfl,m,_,_,_,rfl,rfl,SqT.of B.tup,rfl,e1,_,rfl,Z3.k (k:=Sum.inr z) B.h1,_,rfl,?_⟩;rw[ZZ];cases e:has S.bs z with
      |true=>exact ZU ⟨n',kd,l,_,v6,rfl,s1,hl,q⟩
      |false=>
        refine Z8 ⟨_,rfl,_,rfl,_,_,rfl,rfl,(by show(0:Int)<121;decide),(by show 3<=sizeLine;decide),λ p hp=>?_⟩;have z0:=emod_nonneg n' (show(121:Int)≠0 by omega);have z1:=emod_lt_of_pos n' (show(0:Int)<121 by omega);exact q (.arrive z (n' % 121)) p _ ⟨hz,e,z0,by omega⟩ (s1.trans (Zi hp _)) (s1.free hp) Zb
  refine⟨_,(Ze (Zu (i:=3) ZH.nd rfl (Or.inl rfl) (Zz Qbf (h_ hr) (Za (pv 0) Zd)))
 (Ze (Zu (i:=4) ZH.nd rfl (Or.inl rfl) (Zl Z6 (pv 1) Zf))
 (Ze (Zu (i:=1) ZH.nd rfl (Or.inl rfl) (Zl Yv (pv 1) Zf))
 @rest3))),?_⟩
  refine⟨_,rfl,m,S,R,rfl,M,hlen,λ l H1 s1 _ hl=>?_⟩;exact⟨_,rfl,_,_,rfl,rfl,(by show(0:Int)<9;decide),_,rfl,_,_,rfl,rfl,⟨by decide,by decide⟩,_,_,l,_,_,rfl,s1,hl,q⟩
theorem ZdT {f:Addr}{fd:FuncData}(F:Fun K "_law_start" "_law_start" JE f fd)(T:Txt K g mg)(Qao:ZaE P w0 K g mg base):FnOk P w0 K mg base CX0 2 f fd ["_law_n"] (ZaM K g):=by
  refine F.ok Z9 (λ vs H Q E h=>?_) (λ cdv A outer s H vs Q E hr h=>?_)
  . obtain⟨n,rfl,_⟩:=h;rfl
  obtain⟨n,rfl,q⟩:=h;refine⟨_,(
(Ze (Zu (i:=1) Z9.nd rfl (Or.inl rfl) (Yt Zd))
 (Ze (Zu (i:=2) Z9.nd rfl (Or.inl rfl) Yu)
 (Ze (Ys PassesOwn.never rfl (XT rfl T.z_range (Za (Zl Z7 Zf (Zl Z6 (pv 0) Zf)) Zd)) (ZD (i:=3) Z9.nd rfl (Or.inl rfl))
 (Ze (Zu (i:=0) Z9.nd rfl (Or.inl rfl) (Zl Z7 (Zl Yv (pv 0) Zf) (Zl ZaD (pv 3) Zf)))
 (Ze (Zu (i:=4) Z9.nd rfl (Or.inl rfl) (Zz Qao (h_ hr) (Za (Zl Yv (pv 0) Zf) Zd)))
 (Zg (ZB (X1 (Yn (ZP hr) (pv 4) (pv 2)))
 (Ze (YH (ZP hr) (pv 2) (pv 4) Xd rfl)
 (Zg (ZE (JO plainAttrs_list PySem.F.slot_list_append PySem.F.type_list_append Y3 (pv 1) (Za (ZW (Za Zn (Za (pv 4) (Za (Zl Z6 (pv 0) Zf) Zd)))) Zd)))))
 Zp)))))
 (Zg (Zj (pv 1))))))),?_⟩
  refine⟨zero_le _,λ l hl=>?_⟩;intro dw hdw;have b1:=emod_lt_of_pos n (show(0:Int)<3 by decide);have b0:=emod_nonneg n (show(3:Int)≠0 by decide);have ndl:l≠dw:=λ e=>by rw[e,Zb]at hdw;cases hdw
  have hdw0:H dw=none:=by rw[Zc (Ne.symm ndl)]at hdw;exact hdw
  refine⟨_,rfl,_,_,rfl,rfl,(by show(0:Int)<3;decide),_,_,rfl,rfl,1+n % 3,rfl,by omega,by omega,J7 (n:=(1+n % 3).toNat) (λ i σ H2=>∃(n':Int)(v3 v4:Option V)(was:List (Str×Int))(ps:List Addr),σ=[some (.int n'),some (.ref l),some (.ref dw),v3,v4]/\Zv H H2/\(∀ a∈ps,H a=none)/\DeedsAt H2 l (was.map arr) ps/\H2 dw=some (.dK (Zej was))/\was.length<=i/\First was/\(0<i->was≠[])) ?_ ?_ ?_⟩
  . refine⟨n,none,none,[],[],rfl,(Zi hl _).trans (Zi hdw _),(λ _ h=>nomatch h),⟨?_,rfl,(λ i p d h=>by simp at h)⟩,Zb,le_refl _,⟨.nil,zero_le _,(λ _ h=>nomatch h)⟩,λ h=>absurd h (lt_irrefl 0)⟩;rw[Zc ndl,Zb];rfl
  . rintro i σ H2 hi ⟨n',v3,v4,was,ps,rfl,s2,hps,DD,hw,hlw,FF,hne⟩;have i3:i<3:=by omega
    refine⟨_,rfl,_,_,rfl,rfl,⟨by decide,by decide⟩,_,rfl,_,_,rfl,rfl, .inr ⟨by decide,by decide⟩,_,_,rfl,rfl,?_⟩;refine⟨_,rfl,_,_,rfl,rfl,⟨by decide,by decide⟩,_,rfl,λ z hz=>?_⟩;refine⟨_,rfl,_,rfl,dw,_,rfl,Z3.k (k:=Sum.inr z) hw,_,rfl,?_⟩;rw[Zei]
    by_cases hin:z∈was.map (·.1)
    . rw[decide_eq_true hin];exact ZU ⟨_,_,_,was,ps,rfl,s2,hps,DD,hw,by omega,FF,λ _ e=>by rw[e]at hin;cases hin⟩
    . rw[decide_eq_false hin];have vn:Z4 (Zej was) (Sum.inr z:Key)=none:=by
        have t:=Zei was z;rw[decide_eq_false hin]at t;cases e:Z4 (Zej was) (Sum.inr z:Key) with
        |none=>rfl
        |some v=>rw[e]at t;cases t
      refine Z8 ⟨_,rfl,_,rfl,dw,_,rfl,Zah.k (k:=Sum.inr z) hw (Zs (by unfold Zej;rw[length_map];omega)),?_⟩;rw[Yq _ vn];have nld:l≠dw:=ndl;refine⟨_,rfl, .inl ⟨rfl,_,SqL.of (by rw[Zc nld];exact DD.lst)⟩,_,rfl,_,rfl,_,_,rfl,rfl,(by show(0:Int)<67;decide),(by show 3<=sizeLine;decide),λ p hp=>?_⟩;have z0:=emod_nonneg (n' / 3+(0+(i:Int)) * 104729) (show(67:Int)≠0 by omega);have z1:=emod_lt_of_pos (n' / 3+(0+(i:Int)) * 104729) (show(0:Int)<67 by omega);have npd:p≠dw:=λ e=>by rw[e,Zb]at hp;cases hp
      have hp2:H2 p=none:=by rw[Zc npd]at hp;exact hp
      have npl:p≠l:=λ e=>by rw[e,DD.lst]at hp2;cases hp2
      have lw:=DD.lst;have pl:ps.length<=3:=by rw[DD.len,length_map];exact FF.len
      refine⟨l,_,_,rfl,rfl,(by rw[Zc (Ne.symm npl),Zc nld];exact lw),Zs (by rw[length_map];omega),?_⟩;have tp:∀ q∈ps,q≠dw:=λ q hq e=>by
        obtain⟨o,ho⟩:=DD.live q (mem_cons_of_mem _ hq);obtain⟨j,hj⟩:=List.mem_iff_getElem?.mp hq;have hj2:j<(was.map arr).length:=by rw[<- DD.len];exact(List.getElem?_eq_some_iff.mp hj).1
        have t:=DD.at_ j q _ hj (getElem?_eq_getElem hj2);rw[e,hw]at t;cases t
      have D1:DeedsAt (upd H2 dw (.dK (Zej was++[((Sum.inr z:Key),V.bl true)]))) l (was.map arr) ps:=DD.mv λ a ha o e=>by
        rw[Zc]
        . exact e
        . rcases List.mem_cons.mp ha with rfl|ha
          . exact nld
          . exact tp a ha
      have D2:=D1.push (d:=arr (z,(n' / 3+(0+(i:Int)) * 104729) % 67)) (p:=p) (Zi hp (.tup (arr (z,(n' / 3+(0+(i:Int)) * 104729) % 67)).vals)) Zb;refine⟨_,_,_,was++[(z,(n' / 3+(0+(i:Int)) * 104729) % 67)],ps++[p],rfl,?_,?_,?_,?_,?_,?_,λ _=>by simp⟩
      . exact Z1 ((Z1 s2 hdw0).trans (Zi hp _)) hl
      . intro a ha;rcases List.mem_append.mp ha with ha|ha
        . exact hps a ha
        . rw[List.mem_singleton.mp ha];exact s2.free hp2
      . rw[map_append];exact D2
      . rw[Zc (Ne.symm nld),Zc (Ne.symm npd),Zb];unfold Zej;rw[map_append];rfl
      . rw[length_append,length_singleton];omega
      . refine⟨ZdY FF.nod ((Zd8 was z).mpr hin),by rw[length_append,length_singleton];omega,λ x hx=>?_⟩;rcases List.mem_append.mp hx with hx|hx
        . exact FF.ok x hx
        . rw[List.mem_singleton.mp hx];exact⟨hz,z0,by show _ % 67<=120;omega⟩
  . rintro σ H2 ⟨n',v3,v4,was,ps,rfl,s2,hps,DD,hw,hlw,FF,hne⟩;refine⟨_,rfl,q l was ps H2 s2 (λ a ha=>?_) FF (hne (by omega)) DD⟩;rcases List.mem_cons.mp ha with rfl|ha
    . exact hl
    . exact hps a ha
theorem Zgr {f:Addr}{fd:FuncData}(F:Fun K "_law_do" "_law_do" Zcq f fd)(T:Txt K g mg)(Qbg:Zaq P w0 K g mg base)(Qbh:Xj P w0 K g mg base)(Qbi:JY P w0 K g mg base)(Qbj:Zar P w0 K g mg base)(Qbk:Zap P w0 K g mg base):FnOk P w0 K mg base CX0 6 f fd ["_law_world","_law_deed"] (Zc7 K g):=by
  refine F.ok Zgi (λ vs H Q E h=>?_) (λ cdv A outer s H vs Q E hr h=>?_)
  . obtain⟨w,S,R,p,d,far,k,rfl,_⟩:=h;rfl
  obtain⟨w,S,R,p,d,far,k,rfl,W,hp,O,hk,hg,hfar,q⟩:=h;refine⟨_,(
(Ze (ZB (Zm YK (Zq Zo (pv 1) Zf (λ _ _=>rfl)) Zn (Zt _))
 (Zg (Zj (Yc Zal Qbh (h_ hr) (pv 0) (Za (Zq Zo (pv 1) Zf (λ _ _=>rfl)) Zd))))
 Zp)
 (Ze (ZB (Zm YK (Zq Zo (pv 1) Zf (λ _ _=>rfl)) Zn (Zt _))
 (Zg (Zj (Yc Zal Qbi (h_ hr) (pv 0) (Za (Zq Zo (pv 1) Zf (λ _ _=>rfl)) (Za (Zq Zo (pv 1) Zf (λ _ _=>rfl)) Zd)))))
 Zp)
 (Ze (ZB (Zm YK (Zq Zo (pv 1) Zf (λ _ _=>rfl)) Zn (Zt _))
 (Zg (Zj (Yc Zal Qbj (h_ hr) (pv 0) (Za (Zq Zo (pv 1) Zf (λ _ _=>rfl)) Zd))))
 Zp)
 (Ze (ZB (Zm YK (Zq Zo (pv 1) Zf (λ _ _=>rfl)) Zn (Zt _))
 (Zg (Zj (Yc Zal Qbk (h_ hr) (pv 0) (Za (Zq Zo (pv 1) Zf (λ _ _=>rfl)) Zd))))
 Zp)
 (Zg (Zj (Yc Zal Qbg (h_ hr) (pv 0) (Za (Zq Zo (pv 1) Zf (λ _ _=>rfl)) Zd))))))))),?_⟩
  have lb:=O.lb;have ld:=O.ld;have lc:=O.lc;obtain⟨dx,b,hd,RL,hw,L,hh,eR,n1,n2⟩:=W.ex;cases d with
  |arrive ww aa=>
    refine⟨_,rfl,p,_,_,_,rfl,rfl,SqT.of hp,rfl,rfl,_,rfl,Yo (by decide +kernel) ?_⟩;refine⟨_,rfl,p,_,_,_,rfl,rfl,SqT.of hp,rfl,rfl,_,rfl,Zd4 ?_⟩;refine⟨_,rfl,w,dx,_,rfl,hw,rfl,_,rfl,p,_,_,_,rfl,rfl,SqT.of hp,rfl,_,rfl,p,_,_,_,rfl,rfl,SqT.of hp,rfl,w,S,R,ww,aa,rfl,W,by have:=(Zfn hg.1).2;omega,by omega,(λ e=>absurd hg.2.2 e),(λ _ e=>by rw[hg.1]at e;cases e),(λ _ _ e=>by rw[hg.2.1]at e;cases e),λ _ _ _ R' H' kp gr W'=>?_⟩;exact q _ R' H' kp gr W'
  |birth nn=>
    refine⟨_,rfl,p,_,_,_,rfl,rfl,SqT.of hp,rfl,rfl,_,rfl,Yo (by decide +kernel) ?_⟩;refine⟨_,rfl,p,_,_,_,rfl,rfl,SqT.of hp,rfl,rfl,_,rfl,Yo (by decide +kernel) ?_⟩;refine⟨_,rfl,p,_,_,_,rfl,rfl,SqT.of hp,rfl,rfl,_,rfl,Zd4 ?_⟩;refine⟨_,rfl,w,dx,_,rfl,hw,rfl,_,rfl,p,_,_,_,rfl,rfl,SqT.of hp,rfl,w,S,R,nn,rfl,W,by omega,by have:=O.few nn;omega,(λ e=>by rw[hg.1]at e;cases e),(λ _ e=>by rw[hg.2.1]at e;cases e),(λ _ _ e=>by have:=hg.2.2;omega),λ _ _ _ R' H' kp gr W'=>?_⟩;exact q _ R' H' kp gr W'
  |death nn=>
    refine⟨_,rfl,p,_,_,_,rfl,rfl,SqT.of hp,rfl,rfl,_,rfl,Yo (by decide +kernel) ?_⟩;refine⟨_,rfl,p,_,_,_,rfl,rfl,SqT.of hp,rfl,rfl,_,rfl,Yo (by decide +kernel) ?_⟩;refine⟨_,rfl,p,_,_,_,rfl,rfl,SqT.of hp,rfl,rfl,_,rfl,Yo (by decide +kernel) ?_⟩;refine⟨_,rfl,p,_,_,_,rfl,rfl,SqT.of hp,rfl,rfl,_,rfl,Zd4 ?_⟩;refine⟨_,rfl,w,dx,_,rfl,hw,rfl,_,rfl,p,_,_,_,rfl,rfl,SqT.of hp,rfl,w,S,R,nn,rfl,W,by omega,(λ e=>by rw[hg.1]at e;cases e),(λ _ e=>by rw[hg.2]at e;cases e),λ _ _ H' kp W'=>?_⟩;exact q _ R H' kp (Xl.refl _ _) W'
  |comes ww=>
    refine⟨_,rfl,p,_,_,_,rfl,rfl,SqT.of hp,rfl,rfl,_,rfl,Yo (by decide +kernel) ?_⟩;refine⟨_,rfl,p,_,_,_,rfl,rfl,SqT.of hp,rfl,rfl,_,rfl,Yo (by decide +kernel) ?_⟩;refine⟨_,rfl,p,_,_,_,rfl,rfl,SqT.of hp,rfl,rfl,_,rfl,Yo (by decide +kernel) ?_⟩;refine⟨_,rfl,p,_,_,_,rfl,rfl,SqT.of hp,rfl,rfl,_,rfl,Yo (by decide +kernel) ?_⟩;refine⟨_,rfl,w,dx,_,rfl,hw,rfl,_,rfl,p,_,_,_,rfl,rfl,SqT.of hp,rfl,w,S,R,ww,rfl,W,by have:=(Zfn hg.1).2;omega,by omega,(λ e=>by rw[hg.1]at e;cases e),(λ _ e=>by rw[hg.2]at e;cases e),λ _ _ H' kp W'=>?_⟩;exact q _ R H' kp (Xl.refl _ _) W'
  |years kk=>
    refine⟨_,rfl,p,_,_,_,rfl,rfl,SqT.of hp,rfl,rfl,_,rfl,Zd4 ?_⟩;refine⟨_,rfl,w,dx,_,rfl,hw,rfl,_,rfl,p,_,_,_,rfl,rfl,SqT.of hp,rfl,w,S,R,kk,rfl,W,(λ e=>absurd ⟨hg.1,by have:=hg.2;omega⟩ e),λ _ H' kp W'=>?_⟩;exact q _ R H' kp (Xl.refl _ _) W'
theorem Zey {f:Addr}{fd:FuncData}{j:Nat}(F:Fun K "_law_line" "_law_line" Zaz f fd)(T:Txt K g mg)(QaB:ZaF P w0 K g mg base)(Qbl:Zdn P w0 K g mg base)(QaE:Dn P w0 K mg base (3+j) "_law_line" ["_law_model_here","_law_name","_law_num_here","_law_den"] (Xm j K g)):FnOk P w0 K mg base CX0 (3+j+1) f fd ["_law_model_here","_law_name","_law_num_here","_law_den"] (Xm (j+1) K g):=by
  refine F.ok ZO (λ vs H Q E h=>?_) (λ cdv A outer s H vs Q E hr h=>?_)
  . obtain⟨m,S,R,n,rfl,_⟩:=h;rfl
  obtain⟨m,S,R,n,rfl,M,W,hn,hj,hlen,q⟩:=h;refine⟨_,(
(Ze (ZB (X1 (Yn (ZP hr) (pv 1) (Zq Zo (pv 0) Zf (λ _ _=>rfl))))
 (Zg (Zj (Yt (Za (ZW (Za (pv 1) (Za (pv 2) (Za (pv 3) Zd)))) Zd))))
 Zp)
 (Ze (JL (i:=4) ZO.nd rfl (Or.inl rfl) (x:="_law_child") (cl:=[("_law_model_here",s.heap.objs.size+1)]) (caps:=[("_law_model_here",0)]) rfl (Yg (Zz QaB (hr.mono (by omega)) (Za (pv 0) (Za (pv 1) Zd)))) (λ _ _ _ _ _=>ZaY) (λ _ _ _ _ _=>(Zz QaE (hr.mono (by omega)) (Za (pv 1) (Za (pv 0) (Za Zf (Za Zf Zd)))))) rfl (by decide +kernel) rfl (by decide +kernel) rfl (λ _ _ h=>h) (XG rfl) (λ p hp=>by rw[List.mem_singleton.mp hp];exact⟨rfl,rfl,by first|exact .inl rfl|exact .inr rfl⟩) (by decide +kernel))
 (Ze (JL (i:=4) ZO.nd rfl (Or.inl rfl) (x:="_law_one") (cl:=[]) (caps:=[]) rfl (Yg (pv 4)) (λ _ _ _ _ _=>JM (Zm JP (Zr (show Xk _ (.builtin "len") (λ xs H Q=>∃(x:V)(n:Nat),xs=[x]/\LenV K x H n/\Q (V.int n) H) from Zy) rfl T.z_len boot_len (Za (pv 0) Zd)) Zf (Zt _))) (λ _ _ _ _ _=>(pv 0)) rfl (by decide +kernel) rfl (by decide +kernel) rfl (λ _ _ h=>nomatch h) (XG rfl) (λ p hp=>nomatch hp) (by decide +kernel))
 (Ze (Zu (i:=5) ZO.nd rfl (Or.inl rfl) (Yt Zd))
 (Ze (Ys PassesOwn.never rfl (Yg (pv 4)) (ZD (i:=6) ZO.nd rfl (Or.inl rfl))
 (Zg (Ys PassesOwn.never rfl (Yg (pv 6)) (ZdK rfl (ZV (ZD (i:=7) ZO.nd rfl (Or.inl rfl)) (ZV (ZD (i:=8) ZO.nd rfl (Or.inl rfl)) (ZV (ZD (i:=9) ZO.nd rfl (Or.inl rfl)) ZaZ))))
 (Ze (Zu (i:=10) ZO.nd rfl (Or.inl rfl) (Zz Qbl (hr.mono (by omega)) (Za (Zl Xr (pv 2) (pv 8)) (Za (Zl Xr (Zl Xr (pv 3) (pv 9)) (Zr Zy rfl T.z_len boot_len (Za (pv 4) Zd))) Zd))))
 (Zg (ZE (JO plainAttrs_list PySem.F.slot_list_append PySem.F.type_list_append Y3 (pv 5) (Za (ZW (Za (pv 7) (Za (Zq Zo (pv 10) Zf (λ _ _=>rfl)) (Za (Zq Zo (pv 10) Zf (λ _ _=>rfl)) Zd)))) Zd))))))))
 (Zg (Zj (pv 5))))))))),?_⟩
  obtain⟨c,e1,e2,e3,B⟩:=M.tup_of;have htup:=B.tup;have pn:=W.wrt n hn;have d5:ZN n<=5:=by
    have hx:=pn;unfold pok at hx;simp only[and_eq_true,decide_eq_true_eq]at hx;rw[Y2];exact hx.1.2
  have g2:Z3 H e2 (.str n) _:=Z3.k (k:=Sum.inr n) B.h2;walk_at "g";rw[ZZ];obtain⟨k,hk⟩:∃ k,6 - ZN n=k+1:=⟨5 - ZN n,by omega⟩;cases hd:has S.ds n with
  |false=>
    refine Z8 ?_;walk_at "g";intro p hp;walk_at "g";intro l hl;have s1:=Zi hp (.tup [.str n, .int 1, .int 1]);have s2:=Zi hl (.lst [.ref p]);refine q l _ (s1.trans s2) (s1.free hl) ?_;rw[hk,Za7 hd];refine⟨[((n,1,1),p)],rfl,Zb,λ w hw=>?_⟩;rw[List.mem_singleton.mp hw];exact s2 _ _ Zb
  |true=>
    refine ZU ?_;unfold Zfv tSeq ZeZ;dsimp only;have hk5:k<=5:=by omega
    have nkf:=W.few n;have nk100:nk S.bs n<=100:=by omega
    have nlen:n.length<=200:=by have:=X2 pn;omega
    walk_at "g";intro lc H1 s1 fc hc;rw[kidVL]at hc;have kl:(JR n (nk S.bs n)).length=nk S.bs n:=by unfold JR;rw[length_map,length_range]
    have ka:∀ t,t<nk S.bs n->((JR n (nk S.bs n)).map V.str)[t]? = some (V.str (kid n t)):=λ t ht=>by
      unfold JR;rw[getElem?_map,getElem?_map,List.getElem?_range ht];rfl
    have kb:∀ t,t<nk S.bs n->(ZX S n)[t]? = some (kid n t):=λ t ht=>by
      unfold ZX JR;rw[getElem?_map,List.getElem?_range ht];rfl
    obtain⟨ls,els⟩:∃ ls,ls=(ZX S n).map (lnN S k):=⟨_,rfl⟩;have lsl:ls.length=nk S.bs n:=by rw[els,length_map];exact kl
    have lsk:∀ t,t<nk S.bs n->ls[t]? = some (lnN S k (kid n t)):=λ t ht=>by rw[els,getElem?_map,kb t ht];rfl
    have eln:lnN S (k+1) n=(fil ls).flatten.map (scU ((fil ls).length:Nat)):=by rw[XV hd,els]
    have LO:=YV W (by omega) (k+1) n hn;have lln:(fil ls).flatten.length<60:=by
      have:=Xg LO.nd (m:=S.bs.map (·.1)) (λ x hx=>by
        obtain⟨u,hu,rfl⟩:=List.mem_map.mp hx;exact(Z2 S.bs u.1).mp (LO.bk u hu))
      rw[length_map,length_map,eln,length_map]at this;omega
    have lfew:(fil ls).length<=98:=by have:=Zb0 ls;omega
    have lden:∀ e∈(fil ls).flatten,0<e.2/\e.2<2 ^ 100:=λ e he=>by
      rw[YM]at he;obtain⟨l,hl,he2⟩:=List.mem_flatten.mp he;obtain⟨t,ht⟩:=List.mem_iff_getElem?.mp hl;have ht2:t<nk S.bs n:=by rw[<- lsl];exact(List.getElem?_eq_some_iff.mp ht).1
      rw[lsk t ht2]at ht;cases ht;have z:=(YV W (by omega) k (kid n t) ((W.cnt n t (by omega)).mpr ht2)).dn e he2;refine⟨z.1,Int.lt_of_le_of_lt z.2 ?_⟩;have z2:(98:Nat) ^ k<=98 ^ 5:=Nat.pow_le_pow_right (by decide) hk5;have z3:(98:Nat) ^ 5<2 ^ 100:=by decide
      have z4:(((98:Nat) ^ k:Nat):Int)<((2 ^ 100:Nat):Int):=by omega
      rw[Int.natCast_pow,Int.natCast_pow]at z4;exact z4
    refine⟨lc,rfl,⟨_,SqL.of hc⟩,λ D hD=>?_⟩;refine⟨λ i m H2=>i<=nk S.bs n/\m=nk S.bs n - i/\Zv H1 H2/\LLx H2 D ((ls.take i).map (List.map ue)),⟨nk S.bs n,zero_le _,rfl,Zi hD _,⟨[],rfl,Zb,λ _ h=>nomatch h⟩⟩,?_⟩;rintro i m' H2 ⟨hi,rfl,sm,LX⟩;have hcS:SqL K H2 lc ((JR n (nk S.bs n)).map V.str):=SqL.of (sm _ _ hc)
    by_cases ci:i<nk S.bs n
    . refine .inr ⟨⟨_,V.str (kid n i),hcS,ka i ci⟩,λ x H' ⟨e,ex⟩=>?_⟩;subst e;have ex':=ex _ hcS;rw[ka i ci]at ex';cases ex';refine Zdu ?_;have e6:6 - ZN (kid n i)=k:=by rw[YN];omega
      refine⟨_,rfl,_,rfl,m,S,R,kid n i,rfl,(M.same s1).same sm,W,(W.cnt n i (by omega)).mpr ci,by rw[YN];omega,hlen,λ l' H3 s3 fl' led=>?_⟩;rw[e6]at led;obtain⟨xs,hx,hxl⟩:=LX.ll.len;have ne:l'≠D:=λ z=>by rw[z,hx]at fl';cases fl'
      have tk:(ls.take (i+1)).map (List.map ue)=(ls.take i).map (List.map ue)++[(lnN S k (kid n i)).map ue]:=by
        rw[take_succ,lsk i ci,map_append];rfl
      rw[length_map,length_take]at hxl;refine⟨xs,nk S.bs n - (i+1),s3 _ _ hx,Zs (by omega),by omega,ci,rfl,Z1 (sm.trans s3) hD,?_⟩;rw[tk];exact(LX.same s3).push (s3 _ _ hx) led ne
    have e:i=nk S.bs n:=by omega
    subst e;refine .inl ⟨⟨_,hcS,by rw[length_map,kl];exact le_refl _⟩,?_⟩;rw[<- lsl,take_length]at LX;obtain⟨xs,hx,hxl⟩:=LX.ll.len;rw[length_map]at hxl;have s12:=s1.trans sm;walk_at "g";intro D2 hD2;have tkf:∀ i,i<ls.length->∀ us,ls[i]? = some us->fil (ls.take (i+1))=fil (ls.take i)++(if us.isEmpty=true then [] else [us]):=λ i hi us hu=>by
      unfold fil;rw[take_succ,hu,filter_append];congr 1;cases us <;> rfl
    refine⟨λ i m H3=>i<=ls.length/\m=ls.length - i/\Zv H2 H3/\LLx H3 D2 ((fil (ls.take i)).map (List.map ue)),⟨ls.length,zero_le _,rfl,Zi hD2 _,⟨[],rfl,Zb,λ _ h=>nomatch h⟩⟩,?_⟩;rintro i m' H3 ⟨hi3,rfl,s3,LX3⟩;have hxS:SqL K H3 D xs:=SqL.of (s3 _ _ hx)
    by_cases ci:i<ls.length
    . have ex0:xs[i]? = some xs[i]:=getElem?_eq_getElem (by omega);refine .inr ⟨⟨_,xs[i],hxS,ex0⟩,λ x H' ⟨e,ex⟩=>?_⟩;subst e;have ex':=ex _ hxS;rw[ex0]at ex';cases ex';obtain⟨p,es0,ep,hes0,hled0⟩:=((LX.ll).same s3).at (s3 _ _ hx) ex0;rw[getElem?_map]at hes0;obtain⟨es,hes,rfl⟩:=Option.map_eq_some_iff.mp hes0;rw[ep];obtain⟨ys,hy,hyl⟩:=hled0.len;rw[length_map]at hyl;have tk:=tkf i ci es hes;have hyS:=SqL.of (K:=K) hy;walk_at "g";have eb:decide ((0:Int)<(ys.length:Int)) = !es.isEmpty:=by rw[hyl];cases es <;> simp
      rw[eb];cases hb:es.isEmpty with
      |true=>
        refine ZU ?_;refine⟨ls.length - (i+1),by omega,ci,rfl,s3,?_⟩;rw[tk,hb];simpa using LX3
      |false=>
        refine Z8 ?_;obtain⟨zs,hz,hzl⟩:=LX3.ll.len;have ne:p≠D2:=λ z=>by
          obtain⟨p',es',ep',hes',hled'⟩:=(LX.ll).at hx ex0;rw[ep]at ep';cases ep';obtain⟨us,hu,_⟩:=hled'.len;rw[z,hD2]at hu;cases hu
        have zl:zs.length<900:=by
          rw[hzl,length_map];have:=Zb0 (ls.take i);rw[length_take]at this;omega
        refine⟨_,rfl,zs,ls.length - (i+1),hz,Zs (by omega),by omega,ci,rfl,Z1 s3 hD2,?_⟩;have z:=LX3.push hz hled0 ne;rw[tk,hb];simpa using z
    have e:i=ls.length:=by omega
    subst e;rw[take_length]at LX3;refine .inl ⟨⟨_,hxS,by omega⟩,?_⟩;obtain⟨zs,hz,hzl⟩:=LX3.ll.len;rw[length_map]at hzl;have s13:=s12.trans s3;obtain⟨fs,efs⟩:∃ fs,fs=fil ls:=⟨_,rfl⟩;rw[<- efs]at LX3 hzl eln lln lfew lden;walk_at "g";intro l hl;have s4:=Zi hl (.lst []);have hz4:=s4 _ _ hz;walk_at "g";have hzn:zs.length=fs.length:=hzl;have fpos:∀ i,i<fs.length->(1:Int)<=(fs.length:Int):=λ i h=>by omega
    have bigL:((fs.length:Nat):Int).natAbs<BIG:=X7 (m:=10) (by omega) (by omega) (by decide);refine JS (xs:=zs) (λ i σ H4=>∃ v6 v7 v8 v9 v10,σ=[some (.ref m),some (.str n),some (.int 1),some (.int 1),some (.ref D2),some (.ref l),v6,v7,v8,v9,v10]/\Zv H3 H4/\Led H4 l (((fs.take i).flatten.map (scU (fs.length:Nat))).map ue)) ⟨_,_,_,_,_,rfl,s4,⟨[],rfl,Zb,λ _ h=>nomatch h⟩⟩ ?_ ?_ ?_
    . rintro i σ H4 _ ⟨v6,v7,v8,v9,v10,rfl,s5,_⟩;exact SqL.of (s5 _ _ hz)
    . rintro i x σ H4 hxi ⟨v6,v7,v8,v9,v10,rfl,s5,led4⟩;obtain⟨p,es0,rfl,hes0,hled0⟩:=((LX3.ll).same s5).at (s5 _ _ hz) hxi;rw[getElem?_map]at hes0;obtain⟨es,hes,rfl⟩:=Option.map_eq_some_iff.mp hes0;have ci:i<fs.length:=(List.getElem?_eq_some_iff.mp hes).1;obtain⟨ys,hy,hyl⟩:=hled0.len;rw[length_map]at hyl;have hy3:H3 p=some (.lst ys):=by
        obtain⟨p',es',ep',hes',hled'⟩:=(LX3.ll).at hz hxi;cases ep';obtain⟨us,hu,_⟩:=hled'.len;have:=s5 _ _ hu;rw[hy]at this;cases this;exact hu
      have led3:Led H3 p (es.map ue):=by
        obtain⟨p',es',ep',hes',hled'⟩:=(LX3.ll).at hz hxi;cases ep';rw[getElem?_map,hes]at hes';cases hes';exact hled'
      refine⟨_,rfl,p,rfl,⟨ys,SqL.of hy⟩,λ j m' σ H5=>j<=ys.length/\m'=ys.length - j/\∃ v7 v8 v9 v10,σ=[some (.ref m),some (.str n),some (.int 1),some (.int 1),some (.ref D2),some (.ref l),some (.ref p),v7,v8,v9,v10]/\Zv H3 H5/\Led H5 l ((((fs.take i).flatten++es.take j).map (scU (fs.length:Nat))).map ue),⟨ys.length,zero_le _,rfl,_,_,_,_,rfl,s5,by rw[List.take_zero,append_nil];exact led4⟩,?_⟩;rintro j m' σ H5 ⟨hj,rfl,v7,v8,v9,v10,rfl,s6,led5⟩;have hyS5:SqL K H5 p ys:=SqL.of (s6 _ _ hy3)
      by_cases cj:j<ys.length
      . have hyj:ys[j]? = some ys[j]:=getElem?_eq_getElem cj;refine .inr ⟨⟨_,ys[j],hyS5,hyj⟩,λ σ H5=>∃ v7 v8 v9 v10,σ=[some (.ref m),some (.str n),some (.int 1),some (.int 1),some (.ref D2),some (.ref l),some (.ref p),v7,v8,v9,v10]/\Zv H3 H5/\Led H5 l ((((fs.take i).flatten++es.take (j+1)).map (scU (fs.length:Nat))).map ue),λ σ' H' h=>⟨ys.length - (j+1),by omega,cj,rfl,h⟩,λ x H' ⟨eH,ex⟩=>?_⟩;subst eH;have ex':=ex _ hyS5;rw[hyj]at ex';cases ex';generalize ys[j]=y at *;obtain⟨r,e0,rfl,hej0,hr⟩:=(led3.same s6).at (s6 _ _ hy3) hyj;rw[getElem?_map]at hej0;obtain⟨e,hej,rfl⟩:=Option.map_eq_some_iff.mp hej0;obtain⟨fa,ft⟩:=ZfX hes hej;have hE:=lden e (mem_of_getElem? fa);have lF:((fs.take i).flatten++es.take j).length<60:=by
          have:=(List.getElem?_eq_some_iff.mp fa).1;omega
        have w2:(fs.take i).flatten++es.take (j+1)=((fs.take i).flatten++es.take j)++[e]:=by rw[take_succ,hej,append_assoc];rfl
        rw[w2];generalize (fs.take i).flatten++es.take j=F at *;refine⟨r,_,rfl,SqT.of hr,rfl,?_⟩;have one:(1:Int).natAbs<BIG:=X7 (m:=1) (by decide) (by decide) (by decide);have zpos:(0:Int)<(zs.length:Int):=by omega
        have zbig:((zs.length:Nat):Int).natAbs<BIG:=by rw[hzn];exact bigL
        have ebig:(ue e).2.2.natAbs<BIG:=X7 (Int.le_of_lt hE.1) hE.2 (by decide);have c1:Zga 1 (ue e).2.1:=⟨one,one⟩;have c2:Zga 1 (ue e).2.2:=⟨one,ebig⟩;have c3:Zga (1 * (ue e).2.2) (zs.length:Int):=⟨by rw[Int.one_mul];exact ebig,zbig⟩;have hz5:SqL K H' D2 zs:=SqL.of (s6 _ _ hz);have n0:(0:Int)<=1 * (ue e).2.1:=by show(0:Int)<=1 * 1;decide
        have dpos:(0:Int)<1 * (ue e).2.2 * (zs.length:Int):=by rw[Int.one_mul];exact Int.mul_pos hE.1 zpos
        have dbig:(1 * (ue e).2.2 * (zs.length:Int)).natAbs<BIG:=by
          have z:=Za6 (m:=100) (n:=10) (Int.le_of_lt hE.1) hE.2 (Int.le_of_lt zpos) (by omega);rw[Int.one_mul];exact X7 z.1 z.2 (by decide)
        walk_at "g";refine⟨.inl ⟨zs,hz5,rfl⟩,?_⟩;walk_at "g";intro p2 hp2;have eT:([.int (1 * (ue e).2.1 / Sh.G (1 * (ue e).2.1) (1 * (ue e).2.2 * (zs.length:Int))), .int (1 * (ue e).2.2 * (zs.length:Int) / Sh.G (1 * (ue e).2.1) (1 * (ue e).2.2 * (zs.length:Int)))]:List V)=[.int 1, .int (e.2 * (zs.length:Int))]:=by
          have z:=ZeF (d:=e.2) (n:=(zs.length:Int));unfold Zfj at z;rw[Int.one_mul,Int.one_mul];exact z
        rw[eT];have s7:=Zi hp2 (.tup [.int 1, .int (e.2 * (zs.length:Int))]);have t2:SqT K (upd H' p2 (.tup [.int 1, .int (e.2 * (zs.length:Int))])) p2 [.int 1, .int (e.2 * (zs.length:Int))]:=SqT.of Zb;have led6:=led5.same s7;have s67:=s6.trans s7;generalize upd H' p2 (.tup [.int 1, .int (e.2 * (zs.length:Int))])=H6 at *;walk_at "g";obtain⟨ws,hw6,hw6l⟩:=led6.len;refine⟨.inl ⟨rfl,_,SqL.of hw6⟩,?_⟩;walk_at "g";intro p3 hp3;obtain⟨ys6,y1,y2,y3⟩:=Led.push (e:=(e.1,(1:Int),e.2 * (zs.length:Int))) led6 hp3;walk_at "g";rw[length_map,length_map]at y1;refine⟨Zs (by omega),_,_,_,_,rfl,Zcn s67 hl hp3,?_⟩;rw[map_append,map_append,<- hzn];rw[<- hzn]at y3;exact y3
      . refine .inl ⟨⟨_,hyS5,by omega⟩,?_⟩;rw[show j=es.length by omega,take_length]at led5;have e1:(fs.take i).flatten++es=(fs.take (i+1)).flatten:=by rw[take_succ,hes,List.flatten_append];simp
        rw[e1]at led5;exact⟨_,_,_,_,_,rfl,s6,led5⟩
    . rintro σ H4 ⟨v6,v7,v8,v9,v10,rfl,s5,led4⟩;rw[hzn,take_length]at led4;refine⟨_,rfl,q l H4 (s13.trans s5) (s13.free hl) ?_⟩;rw[hk,eln];exact led4
theorem ZeB:∀ vs H Q E,¬ Xm 0 K g vs H Q E:=by
 rintro vs H Q E ⟨m,S,R,n,_,M,W,hn,hj,_⟩;have hx:=W.wrt n hn;unfold pok at hx;simp only[and_eq_true,decide_eq_true_eq]at hx;rw[Y2]at hj;have:=hx.1.2;omega
theorem ZdV {f:Addr}{fd:FuncData}(F:Fun K "_law_heirs" "_law_heirs" JG f fd)(T:Txt K g mg)(QaE:ZcW P w0 K g mg base):FnOk P w0 K mg base CX0 11 f fd ["_law_model_here","_law_name"] (ZaO K g):=by
  refine F.ok Y1 (λ vs H Q E h=>?_) (λ cdv A outer s H vs Q E hr h=>?_)
  . obtain⟨m,S,R,n,rfl,_⟩:=h;rfl
  obtain⟨m,S,R,n,rfl,M,W,hn,hlen,q⟩:=h;refine⟨_,(
(Ze (JK PassesOwn.never (Zm ZfH (pv 1) Zn (Zt _))
 (Ze (Zu (i:=2) Y1.nd rfl (Or.inl rfl) (Zz QaE (h_ hr) (Za (pv 0) (Za (pv 1) (Za Zf (Za Zf Zd))))))
 (Ze (ZB (Zm JP (Zr Zy rfl T.z_len boot_len (Za (pv 2) Zd)) Zf (Zt _))
 (Zg (Zj (Zr Zec rfl T.z_sorted PyProof.Rows.boot_sorted (Za (pv 2) Zd))))
 Zp)
 (Zg (ZB (Zm Zgn Zn (pv 1) rfl)
 (Zg (Zu (i:=1) Y1.nd rfl (Or.inl rfl) (Zeq ZgZ (pv 1) ZfD (ZfC (JO plainAttrs_str PySem.F.slot_str_rfind PySem.F.type_str_rfind Zht (pv 1) (Za Zn Zd))))))
 (Zg (Zu (i:=1) Y1.nd rfl (Or.inl rfl) Zn)))))))
 (Zg (Zj (Yt (Za (ZW (Za Zn (Za Zf (Za Zf Zd)))) Zd)))))),?_⟩
  unfold tSeq;dsimp only;refine ZaG (λ σ H'=>∃(x:Str)(v2:Option V),σ=[some (.ref m),some (.str x),v2]/\Zv H H'/\hrs S x=hrs S n/\(x.length=0\/has S.bs x=true)) (λ σ _=>match σ with|[_,some (.str x),_]=>x.length|_=>0) ⟨n,_,rfl,Zv.refl _,rfl, .inr hn⟩ ?_ ?_
  . rintro σ H1 ⟨x,v2,rfl,s1,hx,hk⟩;have xl:x.length<=200:=by
      rcases hk with z|z
      . omega
      . have:=X2 (W.wrt x z);omega
    have xl2:x.length<=sizeLine:=ZG (by omega);have hb:∀ x:Str,(!decide (V.str x=V.str (Str.ofString "")))=decide (x.length≠0):=λ x=>by
      rw[ZgV]
      by_cases c:x.length=0
      . have:x=Str.ofString "":=Yp (by
          have hl:x.cps.toList.length=0:=by rw[length_toList];exact c
          rw[List.eq_nil_of_length_eq_zero hl];rfl)
        rw[this];rfl
      . rw[decide_eq_true c,decide_eq_false (λ z=>c (by rw[z];rfl))];rfl
    walk_at "g";dsimp only;rw[hb]
    by_cases c:x.length=0
    . rw[decide_eq_false (by omega)];refine ZU ?_;walk_at "g";intro p hp;walk_at "g";intro l hl;have s2:=Zi hp (.tup [.str "crown", .int 1, .int 1]);have s3:=Zi hl (.lst [.ref p]);refine q l _ [("crown",1,1)] (s1.trans (s2.trans s3)) (s1.free (s2.free hl)) ⟨[(("crown",1,1),p)],rfl,Zb,λ w hw=>?_⟩ ?_
      . rw[List.mem_singleton.mp hw];exact s3 _ _ Zb
      . rw[<- hx,Zd6 c];exact⟨by simp,λ e=>⟨λ z=>by rw[List.mem_singleton.mp z];exact⟨by simp[ue],by show(1:Int)≠0;decide⟩,λ z=>by simpa [ue] using z.1⟩,le_refl _⟩
    . rw[decide_eq_true c];refine Z8 ?_;have hb2:has S.bs x=true:=hk.resolve_left c;have lo:=YV W (by omega) (6 - ZN x) x hb2;unfold ZeZ;dsimp only;refine⟨_,rfl,_,rfl,m,S,R,x,rfl,M.same s1,W,hb2,by omega,hlen,λ l' H2 s2 fl' led=>?_⟩;have led:Led H2 l' ((ln S x).map ue):=led;have lnd:((ln S x).map (·.1)).Nodup:=lo.nd;obtain⟨ys,hy,hyl⟩:=led.len;have hyS:=SqL.of (K:=K) hy;rw[length_map]at hyl;walk_at "g";dsimp only;have eb:decide ((0:Int)<(ys.length:Int)) = !(ln S x).isEmpty:=by rw[hyl];cases ln S x <;> simp
      rw[eb];have s12:=s1.trans s2;cases he:(ln S x).isEmpty with
      |false=>
        refine Z8 ?_;obtain⟨ws,hws,hW⟩:=led;have hwn:ws.map (·.1.1)=(ln S x).map (·.1):=by
          have z:=congrArg (List.map (·.1)) hws;rw[map_map,map_map]at z;exact z
        have hwl:ws.length<64:=by
          have:=Xg lnd (m:=S.bs.map (·.1)) (λ x hx=>by
            obtain⟨u,hu,rfl⟩:=List.mem_map.mp hx;exact(Z2 S.bs u.1).mp (lo.bk u hu))
          have z:=congrArg List.length hws;rw[length_map,length_map]at this z;omega
        refine⟨_,rfl,l',ws,rfl,hW,by rw[hwn];exact lnd,hwl,λ ws' l3 p srt fl=>?_⟩;refine q l3 _ (ws'.map (·.1)) (s12.trans (Zi fl _)) (s12.free fl) (led_ws (es:=[]) hW p fl) ?_;rw[<- hx,Zfm c he];exact Zfq lnd hws p srt
      |true=>
        refine ZU ?_;unfold Zfv;dsimp only;have px:=W.wrt x hb2;have ux:(up x).length=0\/has S.bs (up x)=true:=by
          rcases Zbf px with hg|⟨p,i,hi,rfl,pp,hd⟩
          . left;rw[ZgO hg];rfl
          . right;rw[Zau];exact W.par p i hb2
        walk_at "g";dsimp only;rw[in_dot]
        by_cases d:46∈x.cps.toList
        . rw[decide_eq_true d];refine Z8 ?_;walk_at "g";exact⟨⟨_,_,rfl,s12,(congrArg (hrs S) (Zb9 d)).trans ((Zd5 c he).symm.trans hx),(congrArg (λ z:Str=>z.length=0\/has S.bs z=true) (Zb9 d)).mpr ux⟩,Nat.lt_of_le_of_lt (Nat.le_of_eq (congrArg Str.length (Zb9 d))) (Zb5 c)⟩
        . rw[decide_eq_false d];refine ZU ?_;refine⟨⟨Str.empty,_,rfl,s12,by rw[<- hx,Zd5 c he,ZgN d], .inl rfl⟩,?_⟩;show 0<x.length;omega
  . rintro σ H Q Q' h ⟨v,e,k,t,z,q⟩;exact⟨v,e,k,t,z,h _ _ q⟩
theorem ZbL {f:Addr}{fd:FuncData}(F:Fun K "_law_stranger" "_law_stranger" Y8 f fd)(T:Txt K g mg)  : FnOk P w0 K mg base CX0 1 f fd ["_law_model_here"] (Jb K g):=by
  refine F.ok YS (λ vs H Q E h=>?_) (λ cdv A outer s H vs Q E hr h=>?_)
  . obtain⟨m,S,R,rfl,_⟩:=h;rfl
  obtain⟨m,S,R,rfl,M,hlen,q⟩:=h;refine⟨_,(
(Ze (Ys PassesOwn.never rfl (Ze9 Zn) (ZD (i:=1) YS.nd rfl (Or.inl rfl))
 (Zg (Ys PassesOwn.never rfl (Ze9 Zn) (ZD (i:=2) YS.nd rfl (Or.inl rfl))
 (Zg (ZB (X1 (Yn (ZP hr) (Zl ZL (Zl ZL Zn (pv 1)) (pv 2)) (Zq Zo (pv 0) Zf (λ _ _=>rfl))))
 (Zg (Zj (Zl ZL (Zl ZL Zn (pv 1)) (pv 2))))
 Zp)))))
 (Zg (Zj Zn)))),?_⟩
  obtain⟨c,e1,e2,e3,B⟩:=M.tup_of;have htup:=B.tup;walk_at "g";refine⟨λ i m' σ H1=>i<=26/\m'=26 - i/\H1=H/\(∃ v1 v2,σ=[some (.ref m),v1,v2])/\∀ a<i,∀ b<3,has S.bs (stN a b)=true,⟨26,zero_le _,rfl,rfl,⟨_,_,rfl⟩,λ a h=>by omega⟩,?_⟩;rintro i m' σ H1 ⟨hi,rfl,rfl,⟨v1,v2,rfl⟩,al⟩
  by_cases ci:i<26
  . refine .inr ⟨by show i<(Str.ofString "abcdefghijklmnopqrstuvwxyz").cps.size;rw[show(Str.ofString "abcdefghijklmnopqrstuvwxyz").cps.size=26 by decide +kernel];exact ci,λ σ H2=>H2=H1/\(∃ v1 v2,σ=[some (.ref m),v1,v2])/\∀ b<3,has S.bs (stN i b)=true,λ σ' H' h=>⟨26 - (i+1),by omega,by omega,rfl,h.1,h.2.1,λ a ha b hb=>?_⟩,λ x H' ⟨eH,c9,hc,ex⟩=>?_⟩
    . rcases lt_or_ge a i with z|z
      . exact al a z b hb
      . rw[show a=i by omega];exact h.2.2 b hb
    subst eH ex;obtain⟨_,rfl⟩:=az_at hc;walk_at "g";refine⟨λ j m' σ H2=>j<=3/\m'=3 - j/\H2=H'/\(∃ v2,σ=[some (.ref m),some (.str ⟨#[97+i]⟩),v2])/\∀ b<j,has S.bs (stN i b)=true,⟨3,zero_le _,rfl,rfl,⟨_,rfl⟩,λ a h=>by omega⟩,?_⟩;rintro j m' σ H2 ⟨hj,rfl,rfl,⟨v2,rfl⟩,bl⟩
    by_cases cj:j<3
    . refine .inr ⟨by show j<(Str.ofString "abc").cps.size;rw[show(Str.ofString "abc").cps.size=3 by decide +kernel];exact cj,λ σ H3=>H3=H2/\(∃ v2,σ=[some (.ref m),some (.str ⟨#[97+i]⟩),v2])/\has S.bs (stN i j)=true,λ σ' H' h=>⟨3 - (j+1),by omega,by omega,rfl,h.1,h.2.1,λ b hb=>?_⟩,λ x H3 ⟨eH,c8,hc8,ex⟩=>?_⟩
      . rcases lt_or_ge b j with z|z
        . exact bl b z
        . rw[show b=j by omega];exact h.2.2
      subst eH ex;obtain⟨_,rfl⟩:=ZiQ hc8;have g1:Z3 H3 e1 (.str (stN i j)) _:=Z3.k (k:=Sum.inr _) B.h1;have z1:(Str.ofString "strang").length+(⟨#[97+i]⟩:Str).length<=sizeLine:=ZG (by show 6+1<=500;decide);have z2:(Str.ofString "strang"++(⟨#[97+i]⟩:Str)).length+(⟨#[97+j]⟩:Str).length<=sizeLine:=ZG (by show 7+1<=500;decide);walk_at "g";dsimp only;rw[ZZ];cases hk:has S.bs (stN i j) with
      |false=>
        refine Z8 ?_;walk_at "g";exact q (stN i j) hk (by show 8<=20;decide)
      |true=>exact ZU ⟨rfl,⟨_,rfl⟩,rfl⟩
    . refine .inl ⟨by show(Str.ofString "abc").cps.size<=j;rw[show(Str.ofString "abc").cps.size=3 by decide +kernel];omega,rfl,⟨_,_,rfl⟩,λ b hb=>bl b (by omega)⟩
  . exact absurd (λ a ha b hb=>al a (by omega) b hb) (st_all hlen)
theorem Zcw {f:Addr}{fd:FuncData}(F:Fun K "_law_refused" "_law_refused" Xu f fd)(T:Txt K g mg)(Qap:Zea P w0 K g mg base):FnOk P w0 K mg base CX0 14 f fd ["_law_world","_law_name"] (Jl K g):=by
  refine F.ok Zcb (λ vs H Q E h=>?_) (λ cdv A outer s H vs Q E hr h=>?_)
  . obtain⟨w,S,R,n,rfl,_⟩:=h;rfl
  obtain⟨w,S,R,n,rfl,W,hn,q⟩:=h;refine⟨_,(
(Ze (ps_try (Zhc (pex_fn Qap (h_ hr) rfl rfl (Za (ZI (pv 0) rfl) (Za (pv 1) Zd)))) (λ a oe=>(Zg (Zj Xd))) T.Qcj rfl rfl)
 (Zg (Zj Xd)))),?_⟩
  obtain⟨dx,b,hdd,RL,hw,L,hh,eR,n1,n2⟩:=W.ex;obtain⟨dy,y1,y2,y3,hb⟩:=L.obj;walk_at "g";exact⟨λ _=>⟨T.e_NoPerson_NoPerson,q H (Zv.refl _)⟩,λ z=>by rw[hn]at z;cases z⟩
theorem Zex {f:Addr}{fd:FuncData}(F:Fun K "_law_many" "_law_many" Zay f fd)(T:Txt K g mg)  : FnOk P w0 K mg base CX0 1 f fd ["_law_model_here","_law_n"] (Zbr K g):=by
  refine F.ok Jy (λ vs H Q E h=>?_) (λ cdv A outer s H vs Q E hr h=>?_)
  . obtain⟨m,S,R,n,rfl,_⟩:=h;rfl
  obtain⟨m,S,R,n,rfl,MM,WW,hlen,q⟩:=h;obtain⟨c,d1,d2,d3,B,eR⟩:=MdlAt.ex MM;obtain⟨y,bs,ds,cs⟩:=S;simp only at B hlen q WW;refine⟨_,(
(Ze (Zil (d:=d1) (kvs:=yrs bs) (JL (i:=2) Jy.nd rfl (Or.inl rfl) (x:="_law_name") (cl:=[("_law_model_here",s.heap.objs.size+1)]) (caps:=[("_law_model_here",0)]) rfl (ZdJ (Zq Zo (pv 0) Zf (λ _ _=>rfl))) (λ _ _ _ _ _=>JM (PW.pt (Zct (X1 (Yn (ZP hr) (pv 0) (Zq (show IxR _ (rIxT K) from Zo) (pv 1) Zf (λ _ _=>rfl)))) (ZbX (Zm Za0 (show PE _ _ (tBM K "str" Zha (tVar 0) (tCons (tC (.str ".")) tNil)) from JO plainAttrs_str slot_str_count type_str_count ZcI (pv 0) (Za Zn Zd)) Zf (Zt _)))))) (λ _ _ _ _ _=>(pv 0)) rfl (by decide +kernel) rfl (by decide +kernel) rfl (L2.cl_sub (λ p hp=>by simp only[mem_cons,not_mem_nil,or_false]at hp;rcases hp with rfl <;> rfl)) (XG rfl) (λ p hp=>by rw[List.mem_singleton.mp hp];exact⟨rfl,rfl,by first|exact .inl rfl|exact .inr rfl⟩) (by decide +kernel)))
 (Ze (ZB (PW.pt (XS (Zm JP (Zl Z6 (pv 1) Zf) Zf (Zt _)) (YU (Zm YK (Zr Zy rfl T.z_len boot_len (Za (pv 2) Zd)) Zf (Zt _)))))
 (Zg (Zj (Yt Zd)))
 Zp)
 (Ze (Zu (i:=3) Jy.nd rfl (Or.inr rfl) (Zq Ya (pv 2) (Zl Z6 (Zl Yv (pv 1) Zf) (Zr Zy rfl T.z_len boot_len (Za (pv 2) Zd))) (λ _ _=>rfl)))
 (Zg (Zj (Zl Zhh (ZfE (x:="_law_k") (cl:=[("_law_name",s.heap.objs.size+2)]) (caps:=[("_law_name",3)]) rfl (XT rfl T.z_range (Za Zf Zd)) (λ _ _ _ _ _=>ZaY) (λ _ _ _ _ _=>(ZW (Za Zn (Za (pv 1) Zd)))) rfl (by decide +kernel) rfl (by decide +kernel) rfl (L2.cl_sub (λ p hp=>by simp only[mem_cons,not_mem_nil,or_false]at hp;rcases hp with rfl <;> rfl)) (XG rfl) (λ p hp=>by rw[List.mem_singleton.mp hp];exact⟨rfl,rfl,by first|exact .inl rfl|exact .inr rfl⟩) (by decide +kernel)) (Yt (Za (ZW (Za Zn (Za (pv 3) Zd))) Zd))))))))),?_⟩
  have hb:=B.tup;have nb1:m≠d1:=ZA hb B.h1 (λ z=>by cases z);have yl:(yrs bs).length=bs.length:=by unfold yrs;rw[length_map]
  refine⟨B.h1,_,rfl,m,_,_,_,rfl,rfl,SqT.of hb,rfl,d1,_,rfl,B.h1,λ o D hD=>⟨λ i k H2=>i<=bs.length/\k=bs.length - i/\H2=upd (upd H d1 (.frz o (.dK (yrs bs)))) D (.lst (((bs.take i).filter λ p => !has ds p.1 && decide (ZN p.1<5)).map λ p=>V.str p.1)),⟨bs.length,zero_le _,rfl,rfl⟩,?_⟩⟩;have n1:D≠d1:=λ e=>by rw[e,Zb]at hD;cases hD
  have hD0:H D=none:=by rw[Zc n1]at hD;exact hD
  have nb:m≠D:=Zk hb hD0;have n2:d2≠D:=Zk B.h2 hD0;rintro i k H2 ⟨hi,rfl,rfl⟩
  by_cases ci:i<bs.length
  . refine .inr ⟨⟨by rw[Zc (Ne.symm n1),Zb],by rw[yl];exact ci⟩,λ x H' ⟨e,kk,v,ek,ex⟩=>?_⟩;subst e;have ek':(yrs bs)[i]? = some ((Sum.inr (bs[i]).1:Key),V.int (bs[i]).2):=by unfold yrs;rw[getElem?_map,getElem?_eq_getElem ci];rfl
    rw[ek']at ek;cases ek;subst ex;have g:Z3 (upd (upd H d1 (.frz o (.dK (yrs bs)))) D (.lst (((bs.take i).filter λ p => !has ds p.1 && decide (ZN p.1<5)).map λ p=>V.str p.1))) d2 (.str (bs[i]).1) (Z4 (yrs ds) (Sum.inr (bs[i]).1:Key)):=Z3.k (k:=Sum.inr (bs[i]).1) (by rw[Zc n2,Zc (Ne.symm B.n12)];exact B.h2);refine⟨_,rfl,_,rfl,m,_,_,_,rfl,rfl,SqT.of (by rw[Zc nb,Zc nb1];exact hb),rfl,d2,_,rfl,g,?_⟩;have tk:bs.take (i+1)=bs.take i++[bs[i]]:=(XN ci).symm;have dd:ZN (bs[i]).1=(Builtin.Str.occurrences (bs[i]).1 (Str.ofString ".") 0 (bs[i]).1.length ((bs[i]).1.length+1)).length:=rfl;rw[ZZ];cases e:has ds (bs[i]).1 with
    |true=>
      refine⟨false,rfl,ZU (ZU ⟨bs.length - (i+1),by omega,ci,rfl,?_⟩)⟩;rw[tk,filter_append];simp[e]
    |false=>
      refine⟨true,rfl,Z8 ?_⟩;walk_at "g";dsimp only;rw[show decide ((((Builtin.Str.occurrences (bs[i]).1 (Str.ofString ".") 0 (bs[i]).1.length ((bs[i]).1.length+1)).length:Nat):Int)<5)=decide (ZN (bs[i]).1<5) from decide_eq_decide.mpr (by rw[dd];omega)];cases e5:decide (ZN (bs[i]).1<5) with
      |false=>
        refine ZU ⟨bs.length - (i+1),by omega,ci,rfl,?_⟩;rw[tk,filter_append];simp[e,of_decide_eq_false e5]
      |true=>
        refine Z8 ⟨_,rfl,_,bs.length - (i+1),Zb,Zs ?_,by omega,ci,rfl,?_⟩
        . rw[length_map];exact le_trans (length_filter_le _ _) (by rw[length_take];omega)
        . rw[Zdt,tk,filter_append,map_append];simp[e,of_decide_eq_true e5];rfl
  . have e:i=bs.length:=by omega
    subst e;refine .inl ⟨⟨by rw[Zc (Ne.symm n1),Zb],by rw[yl];exact le_refl _⟩,o,by rw[Zc (Ne.symm n1),Zb],?_⟩;rw[take_length];obtain⟨us,eus⟩:∃ us:List (Str×Int),us=bs.filter λ p => !has ds p.1 && decide (ZN p.1<5):=⟨_,rfl⟩;have eq:upd (upd (upd H d1 (.frz o (.dK (yrs bs)))) D (.lst ((bs.filter λ p => !has ds p.1 && decide (ZN p.1<5)).map λ p=>V.str p.1))) d1 (.dK (yrs bs))=upd H D (.lst (us.map λ p=>V.str p.1)):=by
      rw[eus];funext a
      by_cases ha:a=d1
      . rw[ha,Zb,Zc (Ne.symm n1),B.h1]
      . rw[Zc ha]
        by_cases hA:a=D
        . rw[hA,Zb,Zb]
        . rw[Zc hA,Zc ha,Zc hA]
    rw[eq];have s1:=Zi hD0 (.lst (us.map λ p=>V.str p.1));have hus:SqL K (upd H D (.lst (us.map λ p=>V.str p.1))) D (us.map λ p=>V.str p.1):=SqL.of Zb;walk_at "g";dsimp only;refine Yb (λ c1=>?_) (λ c1=>?_)
    . refine Z8 ?_;walk_at "g";intro l hl;exact q l _ (s1.trans (Zi hl _)) (s1.free hl) (.inl Zb)
    . walk_at "g";refine⟨.inl ⟨_,hus,rfl⟩,?_⟩;walk_at "g";dsimp only;refine Yb (λ c2=>?_) (λ c2=>?_)
      . walk_at "g";intro l hl;exact q l _ (s1.trans (Zi hl _)) (s1.free hl) (.inl Zb)
      have u0:0<us.length:=by
        rcases Nat.eq_zero_or_pos us.length with z|z
        . exact absurd (decide_eq_true (by rw[length_map,z];rfl)) c2
        . exact z
      have eu:(us.map λ p=>V.str p.1)=(us.map (·.1)).map V.str:=by rw[map_map];rfl
      rw[eu]at hus s1 ⊢;obtain⟨x,hx,ex⟩:=ZfR (us.map (·.1)) (n / 4) (by rw[length_map];exact u0);have lpos:(0:Int)<(((us.map (·.1)).map V.str).length:Int):=by rw[length_map,length_map];omega
      unfold Zfv tSeq ZeZ;dsimp only;walk_at "g";refine⟨.inl ⟨_,hus,rfl⟩,?_⟩;walk_at "g";intro D2 hD2;have xb:has bs x=true/\has ds x=false/\ZN x<5:=by
        obtain⟨p,hp,rfl⟩:=List.mem_map.mp hx;rw[eus]at hp;obtain⟨h1,h2⟩:=List.mem_filter.mp hp;rw[and_eq_true]at h2;exact⟨(Z2 bs p.1).mpr (List.mem_map.mpr ⟨p,h1,rfl⟩),by simpa using h2.1,of_decide_eq_true h2.2⟩
      refine⟨λ i k H2=>i<=12/\k=12 - i/\Zv (upd H D (.lst ((us.map (·.1)).map V.str))) H2/\∃ ps:List Addr,ps.length=i/\H2 D2=some (.lst (ps.map V.ref))/\∀ p∈ps,H2 p=some (.tup [.str "birth", .str x])/\H p=none,⟨12,zero_le _,rfl,Zi hD2 _,[],rfl,Zb,λ _ h=>nomatch h⟩,?_⟩;rintro i k H2 ⟨hi,rfl,s2,ps,hpl,hps,hpp⟩
      by_cases ci:i<12
      . refine .inr ⟨ci,λ x1 H' ⟨eH,ex1⟩=>?_⟩;subst eH;refine Zdu ?_;walk_at "g";intro p hp;have s3:=Zi hp (.tup [.str "birth", .str x]);refine⟨ps.map V.ref,12 - (i+1),s3 _ _ hps,Zs (by rw[length_map];omega),by omega,ci,rfl,Z1 (s2.trans s3) hD2,ps++[p],by rw[length_append,hpl];rfl,by rw[Zb,map_append];rfl,λ r hr=>?_⟩;rcases List.mem_append.mp hr with z|z
        . have:=s3 _ _ (hpp r z).1;rw[Zc (Za5 this (s3 _ _ hps) (λ e=>by cases e))];exact⟨this,(hpp r z).2⟩
        . rw[List.mem_singleton.mp z];have:=Zb (H:=H') (a:=p) (o:=.tup [.str "birth", .str x]);rw[Zc (Za5 this (s3 _ _ hps) (λ e=>by cases e))];exact⟨this,(s1.trans s2).free hp⟩
      . refine .inl ⟨Nat.le_of_not_lt ci,?_⟩;walk_at "g";intro pd hpd;have s3:=Zi hpd (.tup [.str "death", .str x]);walk_at "g";intro l4 hl4;have s4:=Zi hl4 (.lst [.ref pd]);have h4a:=s4 _ _ (s3 _ _ hps);refine⟨D2,l4,_,_,rfl,rfl,h4a,Zb,ZG (by rw[length_map];show _+1<=500;omega),λ l hl=>?_⟩;have s5:=Zi hl (.lst (ps.map V.ref++[V.ref pd]));have sa:=(s1.trans s2).trans (s3.trans s4);refine q l _ (sa.trans s5) (sa.free hl) (.inr ⟨x,ps,pd,xb.1,xb.2.1,xb.2.2,by omega,by rw[Zb,map_append];rfl,λ r hr=>⟨s5 _ _ (s4 _ _ (s3 _ _ (hpp r hr).1)),(hpp r hr).2⟩,s5 _ _ (s4 _ _ Zb),(s1.trans s2).free hpd⟩)
theorem ok_law {f:Addr}{fd:FuncData}(F:Fun K "law" "law" Zcr f fd)(T:Txt K g mg)(QaF:ZcT P w0 K g mg base)(Qbm:ZbD P w0 K g mg base)(Qbn:ZbC P w0 K g mg base)(Qbo:ZcV P w0 K g mg base)(QaG:Zan P w0 K g mg base)(QaL:ZeL P w0 K g mg base)(QaM:ZcU P w0 K g mg base)(Qap:Zea P w0 K g mg base)(QaN:Zam P w0 K g mg base)(Qbp:Jg P w0 K g mg base)(QaO:ZbE P w0 K g mg base)(Qbq:JV P w0 K g mg base)(Qbr:Jh P w0 K g mg base)(Qbs:ZeI P w0 K g mg base):FnOk P w0 K mg base CX0 15 f fd ["_law_script"] (Zdv K g):=by
  refine F.ok Yd (λ vs H Q E h=>?_) (λ cdv A outer s H vs Q E hr h=>?_)
  . obtain⟨a,ns,rfl,_⟩:=h;rfl
  obtain⟨a,ns,rfl,hS,hlen,q⟩:=h;have turn:PSs (YW CX0 P w0 K mg base ["_law_script","_law_n","_law_model_here","_law_world","_law_deeds","_law_k","_law_m","_law_deed","_law_names","_law_name","_law_found"] "law" (Zh Zcr) f cdv A outer s H E).nox ((ZiI ((ZY Zcr).getD 4 (.Pass ⟨0,0,0,0⟩))).drop 2) (λ D σ H9=>∃(a m w l:Addr)(n kk mm:Int)(S:Mo)(R RM:List Addr)(i:Nat)(p:Addr)(d:Deed)(v8 v9 v10:Option V),σ=[some (.ref a),some (.int n),some (.ref m),some (.ref w),some (.ref l),some (.int kk),some (.int mm),some (.ref p),v8,v9,v10]/\WorldAt g H9 w S R/\YR H9 m S RM/\Dj RM R/\S.Ok i/\i<90/\kk=0+(i:Int)/\H9 p=some (.tup d.vals)/\S.good 30 d/\Zeh (S.step d)/\∀ R' H' v5 v6 v7 v8 v9 v10,ZS (R++RM) H9 H'->Xl H9 R R'->WorldAt g H' w (S.step d) R'->YR H' m (S.step d) RM->Dj RM R'->D.nx [some (.ref a),some (.int n),some (.ref m),some (.ref w),some (.ref l),v5,v6,v7,v8,v9,v10] H'):=by
    refine @J9 _ _ _ _ ((Ze (ZE (Zz QaL (h_ hr) (Za (pv 3) (Za (pv 7) Zd))))
 (Zg (ZE (Zz QaM (h_ hr) (Za (pv 2) (Za (pv 7) Zd))))))) ?_
    rintro D σ H9 ⟨a,m,w,l,n,kk,mm,S,R,RM,i,p,d,v8,v9,v10,rfl,W,M,dj,O,hi,hkk,hp,hg,rt,qn⟩;refine⟨_,rfl,_,rfl,w,S,R,p,d,30,i,rfl,W,hp,O,by omega,hg,by decide,λ v R1 H1 k1 gr W1=>?_⟩;have hp1:=k1.1 p _ (W.no_tup hp) hp;refine⟨_,rfl,_,rfl,m,S,RM,p,d,30,i,rfl,M.keep k1 dj,hp1,O,by omega,hg,λ H2 k2 M2=>?_⟩;have dj1:Dj RM R1:=dj.grow M.live gr;have O2:=O.step hg (by omega);have W2:=W1.keep k2 dj1.symm;have kA:ZS (R++RM) H9 H2:=(k1.wide (λ x hx=>mem_append_left _ hx)).tr k2 (λ x hx => .inl (mem_append_right _ hx));have lb2:=O2.lb;have fin:∀ H',Zv H2 H'->∀ v5 v6 v7 v8 v9 v10,D.nx [some (.ref a),some (.int n),some (.ref m),some (.ref w),some (.ref l),v5,v6,v7,v8,v9,v10] H':=λ H' s v5 v6 v7 v8 v9 v10=>qn R1 H' v5 v6 v7 v8 v9 v10 (kA.same s) gr (W2.same s) (M2.same s) dj1;clear qn kA;generalize hSd:S.step d=S2 at *;clear M W hSd k1 k2 hg hp1 gr O hp W1;have wf2:=O2.wf;exact fin H2 (Zv.refl _) _ _ _ _ _ _
  have Zbd:PSs (YW CX0 P w0 K mg base ["_law_script","_law_n","_law_model_here","_law_world","_law_deeds","_law_k","_law_m","_law_deed","_law_names","_law_name","_law_found"] "law" (Zh Zcr) f cdv A outer s H E).nox ((ZY Zcr).drop 5) (λ D σ H1=>∃(a m w:Addr)(n:Int)(S:Mo)(R RM:List Addr)(i:Nat)(v4 v5 v6 v7 v8 v9 v10:Option V),σ=[some (.ref a),some (.int n),some (.ref m),some (.ref w),v4,v5,v6,v7,v8,v9,v10]/\WorldAt g H1 w S R/\YR H1 m S RM/\S.Ok i/\i<=33/\Dj RM R/\Zeh S/\∀ H',D.rt (.bl true) H'):=by
    refine @J9 _ _ _ _ ((Ze (Ys PassesOwn.never rfl (Yg (Zz Qbo (h_ hr) (Za (pv 2) (Za (Zl Yv (pv 1) Zf) Zd)))) (ZD (i:=7) Yd.nd rfl (Or.inl rfl))
 (Ze (ZE (Zz QaL (h_ hr) (Za (pv 3) (Za (pv 7) Zd))))
 (Zg (ZE (Zz QaM (h_ hr) (Za (pv 2) (Za (pv 7) Zd)))))))
 (Ze (Zu (i:=8) Yd.nd rfl (Or.inl rfl) (YD (ZcY rfl) rfl T.z_list boot_list (Za (Zq Zo (pv 2) Zf (λ _ _=>rfl)) Zd)))
 (Ze (Zu (i:=1) Yd.nd rfl (Or.inl rfl) (Zl Yv (pv 1) Zf))
 (Ze (Ys PassesOwn.never rfl (XT rfl T.z_range (Za Zf Zd)) (ZD (i:=5) Yd.nd rfl (Or.inl rfl))
 (Ze (Zu (i:=9) Yd.nd rfl (Or.inl rfl) (Zq Ya (pv 8) (Zl Z6 (pv 1) (Zr Zy rfl T.z_len boot_len (Za (pv 8) Zd))) (λ _ _=>rfl)))
 (Ze (Zu (i:=1) Yd.nd rfl (Or.inl rfl) (Zl Yv (pv 1) (Zr Zy rfl T.z_len boot_len (Za (pv 8) Zd))))
 (Ze (Zu (i:=10) Yd.nd rfl (Or.inl rfl) (JN Zal Qap (h_ hr) (Za (ZI (pv 3) rfl) (Za (pv 9) Zd))))
 (Ze (ZB (PW.pt (XS (YC (Yl (Zz Qbr (h_ hr) (Za (pv 10) Zd)))) (YU (Zm (Zfb hr.units) (pv 10) (Zz QaO (h_ hr) (Za (pv 2) (Za (pv 9) Zd))) (Zt _)))))
 (Zg (Zj Xd))
 Zp)
 (Ze (ZE (JO plainAttrs_list PySem.F.slot_list_append PySem.F.type_list_append Y3 (pv 10) (Za (ZW (Za Zn (Za Zf (Za Zf Zd)))) Zd)))
 (Zg (ZB (Zm (Zfb hr.units) (JN Zal Qap (h_ hr) (Za (ZI (pv 3) rfl) (Za (pv 9) Zd))) (Zz QaO (h_ hr) (Za (pv 2) (Za (pv 9) Zd))) (Zt _))
 (Zg (Zj Xd))
 Zp))))))))
 (Zg (Zj (ZaB (Zz QaN (h_ hr) (Za (pv 3) (Za (Zl ZL (Zq Ya (pv 8) Zf (λ _ _=>rfl)) Zn) Zd))) (Zcu (Zz QaN (h_ hr) (Za (pv 3) (Za (Zz Qbq (h_ hr) (Za (pv 2) Zd)) Zd)))))))))))) ?_
    rintro D σ H1 ⟨a,m,w,n,S,R,RM,i,v4,v5,v6,v7,v8,v9,v10,rfl,W,M,O,hi,dj,RT,q⟩;obtain⟨c,e1,e2,e3,B⟩:=M.tup_of;have wf:=O.wf;have lb:=O.lb;walk_at "g";refine⟨by omega,λ l H2 s2 fl hm=>?_⟩;obtain⟨ds,ps,DD,gd,ld,fps⟩:=Zfg (far:=60) hm;have hlS:SqL K H2 l (ps.map V.ref):=SqL.of DD.lst;have W2:=W.same s2;have M2:=M.same s2;have dX:Dj (l::ps) (R++RM):=λ x hx hx2=>by
      have z:H1 x=none:=by
        rcases List.mem_cons.mp hx with e|e
        . rw[e];exact fl
        . exact fps x e
      rcases List.mem_append.mp hx2 with h2|h2
      . obtain⟨o,e⟩:=W.live x h2;rw[z]at e;cases e
      . obtain⟨o,e⟩:=M.live x h2;rw[z]at e;cases e
    refine⟨l,rfl,⟨_,hlS⟩,JS (xs:=ps.map V.ref) (λ i σ H3=>∃(R3:List Addr)(v7:Option V),σ=[some (.ref a),some (.int n),some (.ref m),some (.ref w),v4,v5,v6,v7,v8,v9,v10]/\ZS (R++RM) H2 H3/\WorldAt g H3 w (run S ds i) R3/\YR H3 m (run S ds i) RM/\(run S ds i).Ok (33+i)/\Dj RM R3/\Xl H2 (R++RM) R3) ⟨R,_,rfl,ZS.refl _ _,W2,M2,O.up2 hi,dj,λ x hx => .inl (mem_append_left _ hx)⟩ ?_ ?_ ?_⟩
    . rintro i σ H3 _ ⟨R3,v7,rfl,k3,_⟩;exact SqL.of (DD.keep k3 dX).lst
    . rintro i v σ H3 hv ⟨R3,v7,rfl,k3,W3,M3,O3,dj3,g3⟩;rw[getElem?_map]at hv;obtain⟨p,hpi,rfl⟩:=Option.map_eq_some_iff.mp hv;have ci:i<ds.length:=by rw[<- DD.len];exact(List.getElem?_eq_some_iff.mp hpi).1
      have hdi:ds[i]? = some ds[i]:=getElem?_eq_getElem ci;have hp3:=(DD.keep k3 dX).at_ i p _ hpi hdi;have hg:=gd i _ hdi;have en:=Zg3 (S:=S) hdi;generalize ds[i]=d at hdi hp3 hg en;refine⟨_,rfl,_,rfl,w,_,R3,p,d,60,33+i,rfl,W3,hp3,O3,by omega,hg,by decide,λ v4_ R4 H4 k4 gr4 W4=>?_⟩;have hp4:=k4.1 p _ (W3.no_tup hp3) hp3;have M4:=M3.keep k4 dj3;refine⟨_,rfl,_,rfl,m,_,RM,p,d,60,33+i,rfl,M4,hp4,O3,by omega,hg,λ H5 k5 M5=>?_⟩;have dj4:Dj RM R4:=dj3.grow M3.live gr4;have W5:=W4.keep k5 dj4.symm;rw[<- en]at W5 M5;refine⟨R4,_,rfl,(k3.tr k4 g3).tr k5 (λ x hx => .inl (mem_append_right _ hx)),W5,M5,by rw[en];exact O3.step hg (by omega),dj4,g3.tr k3.2 gr4⟩
    . rintro σ H3 ⟨R3,v7,rfl,k3,W3,M3,O3,dj3,g3⟩;rw[length_map,DD.len]at W3 M3 O3;have RT3:=Zg2 RT ds ds.length;generalize run S ds ds.length=S3 at W3 M3 O3 RT3;clear DD dX gd fps W2 M2 W M O dj RT B wf lb k3 g3 dj3 hm fl s2 hlS hi;obtain⟨c,e1,e2,e3,B⟩:=M3.tup_of;have wf:=O3.wf;have lb3:=O3.lb;obtain⟨w0_,hw0,_⟩:=RT3;refine⟨_,rfl,m,_,_,_,rfl,rfl,SqT.of B.tup,rfl,e1,_,rfl, .inl B.h1,λ l hl=>?_⟩;rw[keysK];have s4:=Zi hl (.lst ((Y0 S3.bs).map V.str));have hl4:upd H3 l (.lst ((Y0 S3.bs).map V.str)) l=some (.lst ((Y0 S3.bs).map V.str)):=Zb;generalize upd H3 l (.lst ((Y0 S3.bs).map V.str))=H4 at s4 hl4 ⊢;have hpos0:0<(Y0 S3.bs).length:=by
        have:=List.length_pos_of_mem ((Z2 S3.bs w0_).mp hw0);unfold Y0;exact this
      have lpos:(0:Int)<(((Y0 S3.bs).map V.str).length:Int):=by rw[length_map];omega
      have lbk:(Y0 S3.bs).length=S3.bs.length:=by unfold Y0;rw[length_map]
      have W4:=W3.same s4;have M4:=M3.same s4;walk_at "g";refine J7 (n:=3) (λ i σ H5=>∃(n:Int)(v5 v9 v10:Option V),σ=[some (.ref a),some (.int n),some (.ref m),some (.ref w),v4,v5,v6,v7,some (.ref l),v9,v10]/\Zv H4 H5) ⟨_,_,_,_,rfl,Zv.refl _⟩ ?_ ?_
      . rintro i σ H5 hi ⟨n,v5,v9,v10,rfl,s5⟩;have hl5:=SqL.of (K:=K) (s5 _ _ hl4);have ldiv:CDiv n (((Y0 S3.bs).map V.str).length:Int):=⟨lpos,by rw[length_map];omega⟩;obtain⟨x,hx,ex⟩:=ZfR (Y0 S3.bs) n hpos0;have hx3:has S3.bs x=true:=(Z2 S3.bs x).mpr hx;have W5:=W4.same s5;have M5:=M4.same s5;obtain⟨dx,b,hdd,RL,hw,L,hh,eR,n1,n2⟩:=W5.ex;obtain⟨dy,y1,y2,y3,hb⟩:=L.obj;walk_at "g";refine⟨.inl ⟨_,hl5,rfl⟩,?_⟩;walk_at "g";refine⟨.inl ⟨_,hl5,rfl⟩,?_⟩;walk_at "g";refine⟨(λ z=>by rw[hx3]at z;cases z),λ _=>⟨by omega,λ l6 H6 es s6 fl6 led6 can6=>?_⟩⟩;obtain⟨us,HL⟩:=HLd.of wf (by omega) hx3 can6;have srt:=HL.srt;have nrm:=HL.nrm;walk_at "g";intro H7 s7;have M7:=(M5.same s6).same s7;walk_at "g";refine⟨by omega,λ l8 H8 es8 s8 fl8 led8 can8=>?_⟩;have e8:es8=es:=can8.uniq can6;subst e8;refine⟨ZbQ es8,ZbQ es8,((led6.same s7).same s8).rds,led8.rds,Y5 HL.str,Y5 HL.str,?_⟩;rw[Zhq HL.str];refine⟨_,rfl,ZU ?_⟩;have s58:=(s6.trans s7).trans s8;obtain⟨zs,hz8,hzl⟩:=((led6.same s7).same s8).len;walk_at "g";intro p9 hp9;have s9:=Zi hp9 (.tup [.str "zz", .int 1, .int 1]);have hz9:=s9 _ _ hz8;have zl:es8.length<60:=by rw[<- HL.eq,length_map];have:=HL.len;omega
        have zsm:zs.length<sizeLine:=Zs (by omega);refine⟨l6,zs,_,rfl,rfl,hz9,zsm,?_⟩;have s10:=Z1 (u:=.lst (zs++[.ref p9])) (s58.trans s9) fl6;generalize upd (upd H8 p9 (.tup [.str "zz", .int 1, .int 1])) l6 (.lst (zs++[.ref p9]))=H10 at s10 ⊢;have W10:=W5.same s10;have M10:=M5.same s10;have hw10:=s10 _ _ hw;have hb10:=s10 _ _ hb;have L10:=L.same s10;walk_at "g";refine⟨(λ z=>by rw[hx3]at z;cases z),λ _=>⟨by omega,λ l11 H11 es11 s11 fl11 led11 can11=>?_⟩⟩;have M11:=M10.same s11;walk_at "g";refine⟨by omega,λ l12 H12 es12 s12 fl12 led12 can12=>?_⟩;have e11:es11=es8:=can11.uniq can6;have e12:es12=es8:=can12.uniq can6;subst e11 e12;refine⟨ZbQ es12,ZbQ es12,(led11.same s12).rds,led12.rds,Y5 HL.str,Y5 HL.str,?_⟩;rw[Zhq HL.str];refine⟨_,rfl,ZU ?_⟩;exact⟨_,_,_,_,rfl,s5.trans ((s10.trans s11).trans s12)⟩
      . rintro σ H5 ⟨n,v5,v9,v10,rfl,s5⟩;have hl5:=SqL.of (K:=K) (s5 _ _ hl4);have W5:=W4.same s5;have M5:=M4.same s5;obtain⟨x0,hx0,ex0⟩:∃ x,x∈Y0 S3.bs/\atI ((Y0 S3.bs).map V.str) 0=some (V.str x):=⟨(Y0 S3.bs)[0],getElem_mem _,X8 (j:=0) (by rw[getElem?_map,getElem?_eq_getElem hpos0];rfl)⟩;have hx0:has S3.bs x0=true:=(Z2 S3.bs x0).mpr hx0;have xl:=X2 (wf.wrt x0 hx0);have xl2:x0.length+(Str.ofString ".99").length<=sizeLine:=ZG (by show _+3<=500;omega);have hno:has S3.bs (x0++Str.ofString ".99")=false:=no99 wf (by omega);have lb60:S3.bs.length<60:=by omega
        walk_at "g";intro H6 s6;have W6:=W5.same s6;have M6:=M5.same s6;refine⟨_,rfl,Z8 ?_⟩;walk_at "g";intro x9 hx9 hl9;walk_at "g";exact λ H7 _=>q H7
  refine⟨_,(Ze (Zu (i:=1) Yd.nd rfl (Or.inl rfl) (Zz QaF (h_ hr) (Za (Zz QaG (h_ hr) (Za (pv 0) (Za Zf Zd))) (Za Zf Zd))))
 (Ze (Zu (i:=2) Yd.nd rfl (Or.inl rfl) (Zz Qbm (h_ hr) (Za (Zl Z6 (pv 1) Zf) Zd)))
 (Ze (Zu (i:=3) Yd.nd rfl (Or.inl rfl) (pe_mk Zal Qbs (h_ hr) rfl (Za (Zq Ya (Zq Zo (pv 2) Zf (λ _ _=>rfl)) Zf (λ _ _=>rfl)) Zd)))
 (Ze (Zu (i:=4) Yd.nd rfl (Or.inl rfl) (Zz Qbn (h_ hr) (Za (Zz QaF (h_ hr) (Za (Zz QaG (h_ hr) (Za (pv 0) (Za Zf Zd))) (Za Zf Zd))) Zd)))
 (Ze (Ys PassesOwn.never rfl (XT rfl T.z_range (Za (Zl Z7 (Zr Zy rfl T.z_len boot_len (Za (pv 4) Zd)) (Zr (ZgI rfl) rfl T.z_min PyProof.Rows.boot_min (Za Zf (Za (Zr (Zdo rfl) rfl T.z_max boot_max (Za Zf (Za (Zl Zcv (Zr Zy rfl T.z_len boot_len (Za (pv 0) Zd)) Zf) Zd))) Zd)))) Zd)) (ZD (i:=5) Yd.nd rfl (Or.inl rfl))
 (Ze (Zu (i:=6) Yd.nd rfl (Or.inl rfl) (Zz QaF (h_ hr) (Za (Zz QaG (h_ hr) (Za (pv 0) (Za (Zl Z7 Zf (Zr (Zdo rfl) rfl T.z_max boot_max (Za Zf (Za (Zl Zcv (pv 5) (Zr Zy rfl T.z_len boot_len (Za (pv 4) Zd))) Zd)))) Zd))) (Za (pv 5) Zd))))
 (Ze (ZB (Zm Za0 (pv 5) (Zr Zy rfl T.z_len boot_len (Za (pv 4) Zd)) (Zt _))
 (Zg (Zu (i:=7) Yd.nd rfl (Or.inl rfl) (Zq Ya (pv 4) (pv 5) (λ _ _=>rfl))))
 (Zg (Zu (i:=7) Yd.nd rfl (Or.inl rfl) (Zz Qbp (h_ hr) (Za (pv 2) (Za (pv 6) (Za Zf Zd)))))))
 @turn)))
 @Zbd))))),?_⟩
  refine⟨_,rfl,a,ns,0,rfl,hS,by decide,λ c0=>⟨c0,1,rfl,λ n=>⟨_,rfl,_,_,rfl,rfl,(by show(0:Int)<3000;decide),_,rfl,λ m RM H1 s1 fM M=>?_⟩⟩⟩;have z0:=emod_nonneg n (show(3000:Int)≠0 by decide);have z1:=emod_lt_of_pos n (show(0:Int)<3000 by decide);obtain⟨c,e1,e2,e3,BM⟩:=M.tup_of;refine⟨_,rfl,m,_,_,_,rfl,rfl,SqT.of BM.tup,rfl,c,_,_,_,rfl,rfl,SqL.of BM.clk,rfl,?_⟩;intro w dxl nb ndx nex;refine⟨w,dxl,_,rfl,Zb,(λ e=>absurd ⟨z0,by show n % 3000<=9999;omega⟩ e),λ _ R0 H2 kp fr W=>⟨rfl,?_⟩⟩;have s12:=made nb ndx kp;have fR:∀ x∈R0,H1 x=none:=λ x hx=>(fr x hx).elim (λ e=>by rw[e];exact nb) Zdg;have s02:=s1.trans s12;refine⟨_,rfl,a,ns,1,rfl,s02.seq hS,by decide,λ c1=>⟨c1,2,rfl,λ r1=>⟨r1,rfl,λ l was ps H3 s23 fl FF hne DD=>?_⟩⟩⟩;have W3:=W.same s23;have M3:=(M.same s12).same s23;have dMR:Dj RM R0:=M.live.dj fR;have s03:=s02.trans s23;obtain⟨X,hX⟩:∃ X,X=R0++RM:=⟨_,rfl⟩;have fX:∀ x∈X,H x=none:=λ x hx=>by
    rw[hX]at hx;rcases List.mem_append.mp hx with hx|hx
    . exact s1.free (fR x hx)
    . exact fM x hx
  have dX:Dj (l::ps) X:=λ x hx hx2=>by
    have z:=fl x hx;rw[hX]at hx2;rcases List.mem_append.mp hx2 with h2|h2
    . obtain⟨o,e⟩:=W.live x h2;rw[z]at e;cases e
    . obtain⟨o,e⟩:=(M.same s12).live x h2;rw[z]at e;cases e
  have pl:ps.length=was.length:=by rw[DD.len,length_map]
  refine⟨_,rfl,_,_,rfl, .inl ⟨_,SqL.of DD.lst,rfl⟩,_,rfl,_,_,rfl, .inl ⟨_,s03.seq hS,rfl⟩,_,_,rfl,rfl,_,_,rfl,_,_,rfl,_,_,rfl,rfl,?_⟩;obtain⟨t,ht,ht16⟩:∃ t:Nat,(if (if ((ns.map V.int).length:Int) - 2>0 then ((ns.map V.int).length:Int) - 2 else 0)<30 then (if ((ns.map V.int).length:Int) - 2>0 then ((ns.map V.int).length:Int) - 2 else 0) else 30)=(t:Int)/\t<=30:=by
    refine⟨(if (if ((ns.map V.int).length:Int) - 2>0 then ((ns.map V.int).length:Int) - 2 else 0)<30 then (if ((ns.map V.int).length:Int) - 2>0 then ((ns.map V.int).length:Int) - 2 else 0) else 30).toNat,?_,?_⟩ <;> split <;> split <;> omega
  rw[ht];have hl3w:=FF.len;have e2:(((ps.map V.ref).length:Nat):Int)+(t:Int)=((was.length+t:Nat):Int):=by rw[length_map,pl];omega
  refine⟨_,rfl,by rw[e2];omega,by rw[e2];omega,?_⟩;rw[e2];have hwpos:0<was.length:=by cases was with|nil=>exact absurd rfl hne|cons x r=>simp
  refine J7 (n:=was.length+t) (λ i σ H2=>∃(S:Mo)(R:List Addr)(v5 v6 v7 v8 v9 v10:Option V),σ=[some (.ref a),some (.int n),some (.ref m),some (.ref w),some (.ref l),v5,v6,v7,v8,v9,v10]/\ZS X H3 H2/\WorldAt g H2 w S R/\YR H2 m S RM/\Dj RM R/\Xl H3 X R/\S.Ok i/\(i<=was.length->S.bs.map (·.1)=(was.take i).map (·.1))/\(0<i->Zeh S)) ?_ ?_ ?_
  . exact⟨mo0 _,R0,none,none,none,none,none,none,rfl,ZS.refl _ _,W3,M3,dMR,λ x hx => .inl (by rw[hX];exact mem_append_left _ hx),Mo.Ok.zero _,λ _=>rfl,λ z=>absurd z (lt_irrefl 0)⟩
  . rintro i σ H8 hi ⟨S,R,v5,v6,v7,v8,v9,v10,rfl,K8,W8,M8,dj,gX,O,hw,rt⟩;have s08:Zv H H8:=s03.keep K8 fX;have D8:=DD.keep K8 dX;have i27:i<38:=by omega
    have ik:(0:Int)<=2+(if (0:Int)+(i:Int) - (((ps.map V.ref).length:Nat):Int)>0 then (0:Int)+(i:Int) - (((ps.map V.ref).length:Nat):Int) else 0):=by split <;> omega
    refine⟨_,rfl,_,rfl,_,rfl,_,_,rfl, .inl ⟨_,SqL.of D8.lst,rfl⟩,_,_,rfl,rfl,_,_,rfl,_,_,rfl,rfl,a,ns,_,rfl,s08.seq hS,ik,λ c2=>⟨_,rfl,c2,_,rfl,λ n2=>?_⟩⟩;refine⟨_,rfl,_,rfl,_,_,rfl, .inl ⟨_,SqL.of D8.lst,rfl⟩,_,_,rfl,rfl,_,rfl,Yb (λ c=>?_) (λ c=>?_)⟩
    . have ci:i<was.length:=by have z:=of_decide_eq_true c;rw[length_map,pl]at z;omega
      have hpi:ps[i]? = some (ps[i]'(by omega)):=getElem?_eq_getElem (by omega);have e3:atI (ps.map V.ref) (0+(i:Int))=some (.ref (ps[i]'(by omega))):=by
        rw[Int.zero_add];exact X8 (by rw[getElem?_map,hpi];rfl)
      refine⟨_,rfl,_,rfl,l,_,_,_,rfl,rfl,SqL.of D8.lst,e3,?_⟩;have hp:=D8.at_ i _ (arr was[i]) hpi (by rw[getElem?_map,getElem?_eq_getElem ci];rfl);obtain⟨hg,hw2⟩:=FF.good ci (hw (by omega)) (far:=30);have rt2:=FF.root hne (Nat.succ_pos i) hw2;exact⟨a,m,w,l,n,_,n2,S,R,RM,i,_,_,_,_,_,rfl,W8,M8,dj,O,by omega,rfl,hp,hg,rt2,λ R' H' v5 v6 v7 v8 v9 v10 k gr L' M' dj'=>⟨_,R',v5,v6,v7,v8,v9,v10,rfl,K8.tr k (λ x hx=>by
        rcases List.mem_append.mp hx with hx|hx
        . exact gX x hx
        . exact .inl (by rw[hX];exact mem_append_right _ hx)),L',M',dj',λ x hx=>(gr x hx).elim (gX x) λ z => .inr (K8.2 x z),O.step hg (by omega),λ _=>hw2,λ _=>rt2⟩⟩
    . have ci:was.length<=i:=by
        have z:¬ ((0:Int)+(i:Int)<(((ps.map V.ref).length:Nat):Int)):=λ w=>c (decide_eq_true w);rw[length_map,pl]at z;omega
      refine⟨_,rfl,_,rfl,m,S,RM,n2,30,rfl,M8,by have:=O.lb;omega,by decide,λ d p H9 hg s9 _ hp=>?_⟩;exact⟨a,m,w,l,n,_,n2,S,R,RM,i,p,d,_,_,_,rfl,W8.same s9,M8.same s9,dj,O,by omega,rfl,hp,hg,(rt (by omega)).step d,λ R' H' v5 v6 v7 v8 v9 v10 k gr L' M' dj'=>⟨_,R',v5,v6,v7,v8,v9,v10,rfl,(K8.same s9).tr k (λ x hx=>by
        rcases List.mem_append.mp hx with hx|hx
        . exact gX x hx
        . exact .inl (by rw[hX];exact mem_append_right _ hx)),L',M',dj',λ x hx=>(gr x hx).elim (gX x) λ z => .inr (K8.2 x (s9.free z)),O.step hg (by omega),λ z=>by omega,λ _=>(rt (by omega)).step d⟩⟩
  . rintro σ H8 ⟨S,R,v5,v6,v7,v8,v9,v10,rfl,K8,W8,M8,dj,gX,O,hw,rt⟩;exact⟨a,m,w,n,S,R,RM,was.length+t,_,_,_,_,_,_,_,rfl,W8,M8,O,by omega,dj,rt (by omega),q⟩
end
local macro_rules|`(tactic| walk_at "b1") => `(tactic| exact λ _ _ _ _ _ _ us hl=>by(obtain⟨_,h⟩:=L2.us1 us hl;subst h;rfl))
local macro_rules|`(tactic| walk_at "b2") => `(tactic| exact λ _ _ _ _ _ _ us hl=>by(obtain⟨_,_,h⟩:=L2.us2 us hl;subst h;rfl))
local macro_rules|`(tactic| walk_at "b3") => `(tactic| exact λ _ _ _ _ _ _ us hl=>by(obtain⟨_,_,_,h⟩:=L2.us3 us hl;subst h;rfl))
local macro_rules|`(tactic| walk_at "b4") => `(tactic| exact λ _ _ _ _ _ _ us hl=>by(obtain⟨_,_,_,_,h⟩:=L2.us4 us hl;subst h;rfl))
theorem all_mk {l:PySem.W.OpenLaw}{w:World}{K:Frag}{h:Heap}{mg:Str->Option Value}{fa:Addr}(X:K.In h)(G:h.Ns mainGlobals mg)(hfa:mg "law"=some (.ref fa)){QaP Qag Qah Qai Qaf Qaj Qak Qab Qad:Addr}{QaQ QaR QaS QaT QaU QaV:Tok}{QaH:Addr}{QcS:Option Addr}{QcT:Nat}{QcU:Array (Option Value)}{QcV QcW:Tok}{QaI:Addr}{QcX:Option Addr}{QcY:Nat}{QcZ:Array (Option Value)}{Qc0 Qc1:Tok}(Qbt:nsIn K mainGlobals "isinstance"=some none)(Qbu:nsIn K mainGlobals "int"=some none)(Qbv:nsIn K mainGlobals "bool"=some none)(Qbw:nsIn K mainGlobals "tuple"=some none)(Qbx:nsIn K mainGlobals "len"=some none)(Qby:nsIn K mainGlobals "range"=some none)(Qbz:nsIn K mainGlobals "list"=some none)(QbA:nsIn K mainGlobals "str"=some none)(QbB:nsIn K mainGlobals "min"=some none)(QbC:nsIn K mainGlobals "max"=some none)(QbD:nsIn K mainGlobals "sorted"=some none)(QbE:nsIn K mainGlobals "enumerate"=some none)(QbF:nsIn K mainGlobals "ValueError"=some none)(QbG:nsIn K mainGlobals "LandError"=some (some (.ref QaP)))(QbH:nsIn K mainGlobals "NoText"=some (some (.ref Qag)))(QbI:nsIn K mainGlobals "OutOfBound"=some (some (.ref Qah)))(QbJ:nsIn K mainGlobals "Taken"=some (some (.ref Qai)))(QbK:nsIn K mainGlobals "NoPerson"=some (some (.ref Qaf)))(QbL:nsIn K mainGlobals "Gone"=some (some (.ref Qaj)))(QbM:nsIn K mainGlobals "TooDeep"=some (some (.ref Qak)))(QbN:excIn K Qaj bmV "ValueError.__new__"=true)(QbO:findIn K (.ref Qaj) "__getattribute__"=some (some (.builtin "BaseException.__getattribute__")))(QbP:findIn K (.ref Qaj) "__getattr__"=some none)(QbQ:findIn K (.ref Qaj) "__class__"=some (some (.builtin "object.__class__")))(QbR:subIn K (.ref Qaj) (.type "object")=some true)(QbS:subIn K (.ref Qaj) (.type "BaseException")=some true)(QbT:excIn K Qaf bmV "ValueError.__new__"=true)(QbU:findIn K (.ref Qaf) "__getattribute__"=some (some (.builtin "BaseException.__getattribute__")))(QbV:findIn K (.ref Qaf) "__getattr__"=some none)(QbW:findIn K (.ref Qaf) "__class__"=some (some (.builtin "object.__class__")))(QbX:subIn K (.ref Qaf) (.type "object")=some true)(QbY:subIn K (.ref Qaf) (.type "BaseException")=some true)(pe_NoPerson_NoPerson:PySem.W.exmOne K (.ref Qaf) (.ref Qaf)=some true)(QbZ:excIn K Qag bmV "ValueError.__new__"=true)(Qb0:findIn K (.ref Qag) "__getattribute__"=some (some (.builtin "BaseException.__getattribute__")))(Qb1:findIn K (.ref Qag) "__getattr__"=some none)(Qb2:findIn K (.ref Qag) "__class__"=some (some (.builtin "object.__class__")))(Qb3:subIn K (.ref Qag) (.type "object")=some true)(Qb4:subIn K (.ref Qag) (.type "BaseException")=some true)(Qb5:excIn K Qah bmV "ValueError.__new__"=true)(Qb6:findIn K (.ref Qah) "__getattribute__"=some (some (.builtin "BaseException.__getattribute__")))(Qb7:findIn K (.ref Qah) "__getattr__"=some none)(Qb8:findIn K (.ref Qah) "__class__"=some (some (.builtin "object.__class__")))(Qb9:subIn K (.ref Qah) (.type "object")=some true)(Qca:subIn K (.ref Qah) (.type "BaseException")=some true)(Qcb:excIn K Qai bmV "ValueError.__new__"=true)(Qcc:findIn K (.ref Qai) "__getattribute__"=some (some (.builtin "BaseException.__getattribute__")))(Qcd:findIn K (.ref Qai) "__getattr__"=some none)(Qce:findIn K (.ref Qai) "__class__"=some (some (.builtin "object.__class__")))(Qcf:subIn K (.ref Qai) (.type "object")=some true)(Qcg:subIn K (.ref Qai) (.type "BaseException")=some true)(Qch:excIn K Qak bmV "ValueError.__new__"=true)(Qco:findIn K (.ref Qak) "__getattribute__"=some (some (.builtin "BaseException.__getattribute__")))(Qcp:findIn K (.ref Qak) "__getattr__"=some none)(Qcq:findIn K (.ref Qak) "__class__"=some (some (.builtin "object.__class__")))(Qcr:subIn K (.ref Qak) (.type "object")=some true)(Qcs:subIn K (.ref Qak) (.type "BaseException")=some true)(Qct:nsIn K mainGlobals "Lives"=some (some (.ref Qab)))(pg_Lives:plainGet K Qab Str.empty=true)(hd_Lives:hasDictIn K Qab=true)(po_Lives:plainOver K Qab=true)(sa_Lives:findIn K (.ref Qab) "__setattr__"=some (some (.builtin "object.__setattr__")))(na_Lives_births:findIn K (.ref Qab) "births"=some none)(na_Lives_deaths:findIn K (.ref Qab) "deaths"=some none)(na_Lives_broods:findIn K (.ref Qab) "broods"=some none)(Qcu:nsIn K mainGlobals "World"=some (some (.ref Qad)))(pg_World:plainGet K Qad Str.empty=true)(hd_World:hasDictIn K Qad=true)(po_World:plainOver K Qad=true)(sa_World:findIn K (.ref Qad) "__setattr__"=some (some (.builtin "object.__setattr__")))(na_World_year:findIn K (.ref Qad) "year"=some none)(na_World_lives:findIn K (.ref Qad) "lives"=some none)(na_World_happened:findIn K (.ref Qad) "happened"=some none)(Qcv:nsIn K mainGlobals "LONGEST_WORD"=some (some (.int 8 QaQ)))(Qcw:nsIn K mainGlobals "LONGEST_NUMBER"=some (some (.int 2 QaR)))(Qcx:nsIn K mainGlobals "MOST_NUMBERS"=some (some (.int 5 QaS)))(Qcy:nsIn K mainGlobals "BARRED"=some (some (.ref QaH)))(lk_BARRED:K.lookup QaH=some ⟨.type "tuple",QcS, .seq #[.str "crown" QcV, .str "kids" QcW] QcT,QcU⟩)(Qcz:nsIn K mainGlobals "NOUGHT"=some (some (.ref QaI)))(lk_NOUGHT:K.lookup QaI=some ⟨.type "tuple",QcX, .seq #[.int 0 Qc0, .int 1 Qc1] QcY,QcZ⟩)(QcA:nsIn K mainGlobals "LAST_FIRST_YEAR"=some (some (.int 9999 QaT)))(QcB:nsIn K mainGlobals "MOST_YEARS"=some (some (.int 60 QaU)))(QcC:nsIn K mainGlobals "OLDEST"=some (some (.int 120 QaV)))(mk_Lives:makesIn K Qab=true)(kc_Lives:keepIn K (.ref Qab)=true)(mk_World:makesIn K Qad=true)(kc_World:keepIn K (.ref Qad)=true)(p0:GlP K "within" Zco)(p1:GlP K "good_word" JH)(p2:GlP K "want_word" JA)(p3:GlP K "good_number" Xw)(p4:GlP K "parts" ZdE)(p5:GlP K "shortened" JB)(p6:GlP K "parent_of" JC)(p7:MtP K Qab "__init__" "Lives.__init__" YB)(p8:MtP K Qab "enter" "Lives.enter" XC)(p9:MtP K Qab "known" "Lives.known" XB)(p10:MtP K Qab "want_known" "Lives.want_known" Yj)(p11:MtP K Qab "alive" "Lives.alive" XF)(p12:MtP K Qab "want_alive" "Lives.want_alive" Yk)(p13:MtP K Qab "arrive" "Lives.arrive" Xb)(p14:MtP K Qab "birth" "Lives.birth" XE)(p15:MtP K Qab "death" "Lives.death" XD)(p16:MtP K Qab "age_in" "Lives.age_in" Xc)(p17:MtP K Qab "children" "Lives.children" YA)(p18:MtP K Qab "names" "Lives.names" XA)(p19:GlP K "common" Zcs)(p20:GlP K "lowest" Zcp)(p21:GlP K "plus" Ze3)(p22:GlP K "times" ZdD)(p23:GlP K "ledger_of" JD)(p24:GlP K "mixed" ZdF)(p25:GlP K "line" Ze4)(p26:GlP K "heirs" ZdG)(p27:GlP K "want_between" Y7)(p28:MtP K Qad "__init__" "World.__init__" Yz)(p29:MtP K Qad "pass_years" "World.pass_years" Yi)(p30:MtP K Qad "arrive" "World.arrive" Xa)(p31:MtP K Qad "birth" "World.birth" Xz)(p32:MtP K Qad "death" "World.death" Xx)(p33:MtP K Qad "comes" "World.comes" Xy)(p34:MtP K Qad "age" "World.age" JI)(p35:GlP K "_law_num" Zbb)(p36:GlP K "_law_cell_at" Xv)(p37:GlP K "_law_rich" Zaw)(p38:GlP K "_law_word" Zav)(p39:GlP K "_law_common" XZ)(p40:GlP K "_law_low" Zbc)(p41:GlP K "_law_is_share" Y9)(p42:GlP K "_law_is_ledger" YT)(p43:GlP K "_law_model" JF)(p44:GlP K "_law_kids" ZaA)(p45:GlP K "_law_living" XY)(p46:GlP K "_law_play" Zax)(p47:GlP K "_law_next_deed" Zx)(p48:GlP K "_law_start" JE)(p49:GlP K "_law_do" Zcq)(p50:GlP K "_law_line" Zaz)(p51:GlP K "_law_heirs" JG)(p52:GlP K "_law_stranger" Y8)(p53:GlP K "_law_refused" Xu)(p54:GlP K "_law_many" Zay)(p55:GlP K "law" Zcr)
    : ∃(g:Ga)(fd:FuncData),(∀(s:Shared)(v:Value),BindsTo s fd ⟨[v],[]⟩ [("_law_script",v)])/\∀ base:Heap,K.In base->base.Ns mainGlobals mg->FnOk l.prog w K mg base CX0 15 fa fd ["_law_script"] (Zdv K g):=by
  have T:Txt K ({ LandError:=QaP,NoText:=Qag,OutOfBound:=Qah,Taken:=Qai,NoPerson:=Qaf,Gone:=Qaj,TooDeep:=Qak,Lives:=Qab,World:=Qad,LONGEST_WORD:=QaQ,LONGEST_NUMBER:=QaR,MOST_NUMBERS:=QaS,BARRED:=QaH,NOUGHT:=QaI,LAST_FIRST_YEAR:=QaT,MOST_YEARS:=QaU,OLDEST:=QaV }:Ga) mg:=⟨mg_none_of X G Qbt,mg_none_of X G Qbu,mg_none_of X G Qbv,mg_none_of X G Qbw,mg_none_of X G Qbx,mg_none_of X G Qby,mg_none_of X G Qbz,mg_none_of X G QbA,mg_none_of X G QbB,mg_none_of X G QbC,mg_none_of X G QbD,mg_none_of X G QbE,mg_none_of X G QbF,mg_of X G QbG,mg_of X G QbH,mg_of X G QbI,mg_of X G QbJ,mg_of X G QbK,mg_of X G QbL,mg_of X G QbM,⟨QbN,QbO,QbP,QbQ,QbR,QbS⟩,⟨QbT,QbU,QbV,QbW,QbX,QbY⟩,pe_NoPerson_NoPerson,⟨QbZ,Qb0,Qb1,Qb2,Qb3,Qb4⟩,⟨Qb5,Qb6,Qb7,Qb8,Qb9,Qca⟩,⟨Qcb,Qcc,Qcd,Qce,Qcf,Qcg⟩,⟨Qch,Qco,Qcp,Qcq,Qcr,Qcs⟩,mg_of X G Qct,⟨pg_Lives,hd_Lives,po_Lives,sa_Lives⟩,na_Lives_births,na_Lives_deaths,na_Lives_broods,mg_of X G Qcu,⟨pg_World,hd_World,po_World,sa_World⟩,na_World_year,na_World_lives,na_World_happened,mg_of X G Qcv,mg_of X G Qcw,mg_of X G Qcx,mg_of X G Qcy,λ _ => .inr ⟨_,_,_,lk_BARRED,rfl,rfl,by show 2<=sizeLine;decide, .cons ⟨_,rfl⟩ (.cons ⟨_,rfl⟩ (.nil))⟩,mg_of X G Qcz,λ _ => .inr ⟨_,_,_,lk_NOUGHT,rfl,rfl,by show 2<=sizeLine;decide, .cons ⟨_,rfl⟩ (.cons ⟨_,rfl⟩ (.nil))⟩,mg_of X G QcA,mg_of X G QcB,mg_of X G QcC⟩;obtain⟨fd,bl,Fl⟩:=la_gl (l:="_law_script") X G hfa p55 (λ _ _ _ _ _ _ s v => .of_eq rfl);refine⟨{ LandError:=QaP,NoText:=Qag,OutOfBound:=Qah,Taken:=Qai,NoPerson:=Qaf,Gone:=Qaj,TooDeep:=Qak,Lives:=Qab,World:=Qad,LONGEST_WORD:=QaQ,LONGEST_NUMBER:=QaR,MOST_NUMBERS:=QaS,BARRED:=QaH,NOUGHT:=QaI,LAST_FIRST_YEAR:=QaT,MOST_YEARS:=QaU,OLDEST:=QaV },fd,bl,λ base _ _=>?_⟩;generalize hg:({ LandError:=QaP,NoText:=Qag,OutOfBound:=Qah,Taken:=Qai,NoPerson:=Qaf,Gone:=Qaj,TooDeep:=Qak,Lives:=Qab,World:=Qad,LONGEST_WORD:=QaQ,LONGEST_NUMBER:=QaR,MOST_NUMBERS:=QaS,BARRED:=QaH,NOUGHT:=QaI,LAST_FIRST_YEAR:=QaT,MOST_YEARS:=QaU,OLDEST:=QaV }:Ga)=g at T;have e_Lives:Qab=g.Lives:=by rw[<- hg]
  have e_World:Qad=g.World:=by rw[<- hg]
  have Qas:ZcR l.prog w K g mg base:=ZQ X G p0 (Zgp · T) (by walk_at "b3");have Qat:JX l.prog w K g mg base:=ZQ X G p1 (ZdW · T Qas) (by walk_at "b1");have Qaw:JU l.prog w K g mg base:=ZfZ X G p2 (ZdP · T Qat) (by walk_at "b1");have QaZ:Zao l.prog w K g mg base:=ZQ X G p3 (Zcy · T Qas) (by walk_at "b1");have Qa0:Zf4 l.prog w K g mg base:=ZfZ X G p4 (Zhj · T Qat QaZ) (by walk_at "b1");have Qa1:Zbz l.prog w K g mg base:=ZQ X G p5 (ZdQ · T) (by walk_at "b1");have Qa8:ZbA l.prog w K g mg base:=ZQ X G p6 (ZdR · T Qa0 Qa1) (by walk_at "b1");have Qa9:ZeJ l.prog w K g mg base:=dk_mt T.QcK (e_Lives▸mk_Lives) (e_Lives▸kc_Lives) (e_Lives▸p7) (Za4 · T) (by walk_at "b1");have Qax:XI l.prog w K g mg base:=YO T.Qaa (e_Lives▸p8) (ZcE · T) (by walk_at "b3");have Qau:XH l.prog w K g mg base:=YO T.Qaa (e_Lives▸p9) (ZcD · T) (by walk_at "b2");have Qae:ZT l.prog w K g mg base:=YO T.Qaa (e_Lives▸p10) (Zae · T Qau) (by walk_at "b2");have Qav:XJ l.prog w K g mg base:=YO T.Qaa (e_Lives▸p11) (ZcH · T) (by walk_at "b2");have Qay:Ym l.prog w K g mg base:=YO T.Qaa (e_Lives▸p12) (Zaf · T Qae Qav) (by walk_at "b2");have Qba:JZ l.prog w K g mg base:=YO T.Qaa (e_Lives▸p13) (ZbO · T Qaw Qau Qax) (by walk_at "b3");have Qbb:Zat l.prog w K g mg base:=YO T.Qaa (e_Lives▸p14) (ZcG · T Qay Qax) (by walk_at "b3");have Qbc:Zas l.prog w K g mg base:=YO T.Qaa (e_Lives▸p15) (ZcF · T Qay) (by walk_at "b3");have Qbd:J0 l.prog w K g mg base:=YO T.Qaa (e_Lives▸p16) (ZbP · T Qae) (by walk_at "b3");have Qa7:XW l.prog w K g mg base:=YO T.Qaa (e_Lives▸p17) (Za3 · T Qae) (by walk_at "b2");have Qc4:Dm l.prog w K mg base CX0 g.Lives 1 "names" ["self"] (Jr K g):=YO T.Qaa (e_Lives▸p18) (ZcC · T) (by walk_at "b1");have Qa2:ZeM l.prog w K g mg base:=ZQ X G p19 (Zgs · T) (by walk_at "b2");have Qaz:ZcS l.prog w K g mg base:=ZQ X G p20 (Zgq · T Qa2) (by walk_at "b2");have Qa4:ZhT l.prog w K g mg base:=ZQ X G p21 (Zit · T Qaz) (by walk_at "b2");have Qa5:Zf3 l.prog w K g mg base:=ZQ X G p22 (Zhi · T Qaz) (by walk_at "b2");have Qa3:ZbB l.prog w K g mg base:=ZQ X G p23 (ZdS · T) (by walk_at "b1");have Qa6:Zf5 l.prog w K g mg base:=ZQ X G p24 (Zhk · T Qa3 Qa4 Qa5) (by walk_at "b1");have QaD:ZhU l.prog w K g mg base:=Ze5 (d:=4) X G p25 ZbW Ziw (λ F D=>Ziu F T Qav Qa6 Qa7 D) (by walk_at "b2") 7;have Qap:Zea l.prog w K g mg base:=ZfZ X G p26 (Zhl · T Qae QaD Qa8) (by walk_at "b2");have Qal:Yx l.prog w K g mg base:=ZfZ X G p27 (ZbK · T) (by walk_at "b3");have Qbs:ZeI l.prog w K g mg base:=dk_mt T.QcL (e_World▸mk_World) (e_World▸kc_World) (e_World▸p28) (Za2 · T Qal Qa9) (by walk_at "b2");have Qbh:Xj l.prog w K g mg base:=YO T.Qac (e_World▸p29) (Zad · T Qal) (by walk_at "b2");have Qbi:JY l.prog w K g mg base:=YO T.Qac (e_World▸p30) (ZbN · T Qal Qba) (by walk_at "b3");have Qbj:Zar l.prog w K g mg base:=YO T.Qac (e_World▸p31) (ZcB · T Qbb) (by walk_at "b2");have Qbk:Zap l.prog w K g mg base:=YO T.Qac (e_World▸p32) (Zcz · T Qbc) (by walk_at "b2");have Qbg:Zaq l.prog w K g mg base:=YO T.Qac (e_World▸p33) (ZcA · T Qaw) (by walk_at "b2");have Qc5:Dm l.prog w K mg base (CXR l.prog w base) g.World 4 "age" ["self","name"] (ZaQ K g):=YO T.Qac (e_World▸p34) (ZdX · T Qbd) (by walk_at "b2");have QaK:Zdm l.prog w K g mg base:=ZQ X G p35 (Zfc · T) (by walk_at "b1");have QaG:Zan l.prog w K g mg base:=ZQ X G p36 (Zcx · T) (by walk_at "b2");have QaF:ZcT l.prog w K g mg base:=ZQ X G p37 (Zev · T) (by walk_at "b2");have Qao:ZaE l.prog w K g mg base:=ZQ X G p38 (Zeu · T) (by walk_at "b1");have QaA:X5 l.prog w K g mg base:=ZQ X G p39 (Zc1 · T) (by walk_at "b2");have Qbl:Zdn l.prog w K g mg base:=ZQ X G p40 (Zfd · T QaA) (by walk_at "b2");have Qbe:JW l.prog w K g mg base:=ZQ X G p41 (ZbM · T QaA QaK) (by walk_at "b1");have Qbr:Jh l.prog w K g mg base:=ZQ X G p42 (Zbi · T Qbe) (by walk_at "b1");have Qbm:ZbD l.prog w K g mg base:=ZQ X G p43 (ZdU · T) (by walk_at "b1");have QaB:ZaF l.prog w K g mg base:=ZQ X G p44 (Zez · T) (by walk_at "b2");have Qbf:Zba l.prog w K g mg base:=ZQ X G p45 (Zc0 · T) (by walk_at "b1");have QaM:ZcU l.prog w K g mg base:=ZQ X G p46 (Zew · T QaB) (by walk_at "b2");have Qbp:Jg l.prog w K g mg base:=ZQ X G p47 (Zbh · T Qbf Qao) (by walk_at "b3");have Qbn:ZbC l.prog w K g mg base:=ZQ X G p48 (ZdT · T Qao) (by walk_at "b1");have QaL:ZeL l.prog w K g mg base:=ZQ X G p49 (Zgr · T Qbg Qbh Qbi Qbj Qbk) (by walk_at "b2");have QaE:ZcW l.prog w K g mg base:=Ze5 (d:=2) X G p50 ZO ZeB (λ F D=>Zey F T QaB Qbl D) (by walk_at "b4") 7;have QaO:ZbE l.prog w K g mg base:=ZQ X G p51 (ZdV · T QaE) (by walk_at "b2");have Qbq:JV l.prog w K g mg base:=ZQ X G p52 (ZbL · T) (by walk_at "b1");have QaN:Zam l.prog w K g mg base:=ZQ X G p53 (Zcw · T Qap) (by walk_at "b2");have Qbo:ZcV l.prog w K g mg base:=ZQ X G p54 (Zex · T) (by walk_at "b2");exact ok_law Fl T QaF Qbm Qbn Qbo QaG QaL QaM Qap QaN Qbp QaO Qbq Qbr Qbs
theorem walk {l:PySem.W.OpenLaw}{q:Program}{loose:List Str}{XP:(Str->Option Value)->Heap->Prop}{YP:World->Heap->Prop}{d:DefRec}{K:Params->Frag}(hn:l.most=some 63)(hdf:d.params.defaults=[])(hY:∀(w:World)(h:Heap),YP w h->(K w.params).In h)(F:∀(w:World)(mg:Str->Option Value)(fa:Addr)(h:Heap),(K w.params).In h->h.Ns mainGlobals mg->mg d.name=some (.ref fa) ->
      ∃(g:Ga)(fd:FuncData),(∀(s:Shared)(u:Value),BindsTo s fd ⟨[u],[]⟩ [("_law_script",u)])/\∀ base:Heap,(K w.params).In base->base.Ns mainGlobals mg->FnOk l.prog w (K w.params) mg base CX0 15 fa fd ["_law_script"] (Zdv (K w.params) g)) :
    PySem.W.WalkO q loose XP YP l.row.toRowW d [] (λ f vs=>PySem.call f vs):=
  L2.walk_of (n:=63) (k:=15) (x:="_law_script") (CX:=λ _=>CX0) (sp:=λ w=>Zdv (K w.params) {}) hn (by decide) hdf ⟨rfl,by decide,by decide⟩ hY (λ w mg fa h a b c=>(F w mg fa h a b c).elim λ _ z=>z) (λ _ _ a ns hl _ hS=>⟨a,ns,rfl,hS,hl,λ _=>rfl⟩) λ _ _ _ _ _ z=>z
end My
namespace PySem.W
set_option genInjectivity false in
set_option genSizeOfSpec false in
structure Fast:Prop where
  (tw14754256976269536755 tw49028538680721801 tw8393293979923759788 tw16773358385181747114 tw3466164511369883822 tw2452446378885733652 tw7247141091623179159 tw6468743349824304800 tw6924753411034978000 tw5961413289427345907 tw6632755087273243646 tw15789116547554533533 tw1272332063380832952 tw15890744836442233112 tw15132660697522770319 tw3704597544462425928 tw7428863842627390176 tw6369528666730660107 tw10679448520804549121 tw428033873304579278 tw14839924244307621270 tw16004697407071898384 tw1932676780447986750 tw10445759065203053625 tw17867167793509841109 tw7631311589771519570 tw7231539689151605709 tw16123638425629355611 tw8589821916228791302 tw18099247576992831353 tw3211573176788921005 tw11421000003843762040 tw1684525733642321972 tw1046079545318764714 tw3000353728629130304 tw14821882430909890319 tw6081514840253172729 tw13689548043929236615 tw4941120437730465399 tw14339453081578642071 tw7125371487751462730 tw11981111538367116195 tw6319517525406739249 tw6898387969176387529 tw15480244517444780730 tw4834984684084031798 tw15703402817577638910 tw16031266636486456519 tw8235931700930450210 tw2675398449610946236 tw803094099152702895 tw16139850811621283184 tw13139246388036338863 tw12947987752843350229 tw6279716512261407005 tw11131511361077826627 tw11260065409721303966 tw18363271709839054052 tw4470985085194458890 tw7253184199867735507 tw12394154186621788289 tw16937442391399115341 tw1050246431589104264 tw12978996380527374917 tw6869653483772647515 tw2603400917975728890 tw654581838092930648 tw4125646002573689794 tw16891222136000257627 tw8159118394599561618 tw11842182334372613122 tw15953650464713745452 tw5792458565682573715 tw8187953043712951989 tw6025684087447691513 tw5883924439357342398 tw6465898969153513134 tw12056747964423135624 tw6219010583549709090 tw3568175606503077826 tw10154261186866755169 tw13263148956075789609 tw17823492178950883951 tw5995159434015522683 tw17164243096909423632 tw210336187451426423 tw4467221636792930257 tw4024233937194836940 tw10965691409281994792 tw6166761488517275163 tw12818137245030260860 tw1150438345224285379 tw12209048493023225778 tw1707905460533281812 tw11949564248561301278 tw4779663285366362342 tw754508307083711291 tw10737728444294602655 tw18412483141930880245 tw7359741155848863826 tw6073915588817501290 tw10406136156174753730 tw8109182842119227870 tw1167618155348292318 tw2320882840364527911 tw13502940529431297870 tw9500978541455966983 tw11269238216312791601 tw7091819442979502907 tw16209676769893859414 tw15894447078707272650 tw7081086410203966400 tw6636238659351898101 tw9351373132251939790 tw5381119385499083674 tw811042417674463408 tw16017219997177055236 tw9539491463326831155 tw203415361162469262 tw15769653389819332053 tw4250073038942026943 tw4785194547402014261 tw17203297474880868823 tw14268909582320728946 tw10800607474622630571 tw3811036796562745778 tw17833524234671725479 tw6228102487057210894 tw6967511885896690365 tw618935639055495212 tw4529188602730315253 tw14050030281751879694 tw11941357390518986436 tw1153128630424987534 tw5836193607935759908 tw15886606129210675260 tw16850936923540981196 tw17329647311153103398 tw14500091862745619754 tw9625958704678947150 tw10730841425911529952 tw2396829198290752018 tw6170970206110936075 tw13902486347255342534 tw13811751971903006740 tw15148274768706159855 tw10608513195848946351 tw486078899308409149 tw14201841336349266529 tw7248727127701196128 tw3367406413113154180 tw15429538415724156740 tw6476780526986005911 tw2116225468491828025 tw6067249957143832707 tw17441712046539809156 tw8489074612030798296 tw5464122149527516962 tw2542962394265863425 tw8018744575985736055 tw1251912425350235205 tw12793681050060940362 tw4605904622006478860 tw15906909571703729138 tw397714919296121118 tw8083398973304863540 tw4846744314846867393 tw16142940959750640393 tw2247325345936368769 tw4349577859626044658 tw8805628081089734771 tw14494627499162108666 tw2049611448707695072 tw9667924391289125802 tw15195039078865692775 tw18249836524595700950 tw3005218055268135619 tw3433204122944734226 tw15514981569531332035 tw17907105536392879536 tw7689405280727569062 tw16229854182489890430 tw10025242632507409892 tw1296221433897519823 tw10108057096843487089 tw9038789845114709206 tw12532516074169767107 tw3511173505303628938 tw4579188891830946846 tw1745134675611830440 tw1263616776503245570 tw7000133555393983637 tw14590142849662448353 tw17702276833305971403 tw18365665808316153898 tw9731108436208680981 tw11847655641623283976 tw1990368937431868151 tw8724474514669035867 tw6980728341148877512 tw1280843213968002941 tw6376518661241507737 tw5176934564917579383 tw12421728078762740749 tw7696567812838409440 tw6286554635153940019 tw5596828236922597941 tw3291807451087498660 tw16246427839776473019 tw4967820473558885951 tw5066161720793884868 tw11896948548365044777 tw18371356160847318194 tw18448204231610448 tw7547640984731861247 tw10244188399277320049 tw13155035531102207559 tw10030160325559177410 tw3485452691698825709 tw3454335322020362736 tw8682028234381119187 tw11769386397624589878 tw11131245544863176557 tw12321854099333529777 tw3919270104340578386 tw12101788810463868051 tw2626867965173278026 tw13724281289545278967 tw9428561586813200562 tw17364592729998951985 tw12253057643196732002 tw2010612175719454118 tw18112435658935502992 tw3577978487327897451 tw13548150837363874051 tw6706646630026085748 tw10019672434937197295 tw16067898973647570769 tw2836811730939143334 tw7506455690873569816 tw16815164195751910238 tw774004167231237148 tw4848614971717289206 tw14282871341644129389 tw856401947768541899 tw2420852358484196791 tw12763193660948001447 tw9229615707355327199 tw8002225402279948354 tw9247624352914772572 tw5033808354742897272 tw12906116901298011142 tw7977847027376365639 tw13737870513745766988 tw16491253591040140502 tw5060807324888192150 tw5261180847884040041 tw6522884220652211011 tw13270537078916506797 tw8188167057660731953 tw14598008662250251036 tw10176047988579368262 tw2303563974688938868 tw5200808501308229573 tw12796222219134918579 tw6445547581567719211 tw8488782728430826517 tw12330283688996875237 tw14129056610065623912 tw7350764933687118528 tw9638197260487500332 tw9905589795927827544 tw13733231608878098218 tw13198440641826315794 tw3055463066125338972 tw17777635161044673212 tw11587092616871310730 tw18380239274645606042 tw11812790943929420782 tw17377712906460087459 tw6587152277785935978 tw17684077301405374651 tw1572727501701379381 tw8758002726439036350 tw13005080944379032587 tw16416467984556966824 tw1151636507357814541 tw15720309207882452638 tw4905740596254638320 tw9037998801584029343 tw1305475600970477101 tw4329309807000167766 tw1030459256198836848 tw13286121281609564175 tw6010838898147917822 tw15263822027846127814 tw6651123086846718055 tw7857636443182469567 tw1600812038115764238 tw8155597033961991841 tw9583571375352798855 tw14542239525448339013 tw7856851566755475077 tw1605027418483019742 tw6397486244110022665 tw11723005299756317361 tw844657017304726513 tw13520880472495364766 tw16184792205121407001 tw5146327906940905631 tw14645312504515448497 tw16348598263660549402 tw16598687995343218315 tw16506614491289437779 tw6303806345901563663 tw14297204013173648045 tw10012866238912296989 tw17893585605894707895 tw9336797623501214281 tw18055628802807249282 tw4138523007135070057 tw1359655270822741989 tw16904998262677906249 tw11954278316395020628 tw8453224997952905688 tw6344574345312440768 tw12161968417832455700 tw13338047992773478793 tw1252994790121677552 tw9937516824783496185 tw4075467649335027923 tw2001495507994154824 tw9447734839060757278 tw5085501581126033667 tw2126665900168063146 tw16196235971365417518 tw6020128132062490050 tw16148622359910144729 tw7268167927869744524 tw6916606000716578107 tw16128452517098626022 tw178778399309899997 tw3262632800754834869 tw6638222492733070612 tw4877784418978815214 tw3221767357352045679 tw16531449806751516667 tw10752151168963554586 tw3400337501137351874 tw16016208327749575792 tw15707694158032860083 tw1395976539656569150 tw4391058189279362284 tw18397030078275661586 tw11379334475568982518 tw3000074445840492732 tw15711099581553953240 tw8840977845196194925 tw6335970621022521467 tw15576413986155215758 tw16945906955132756666 tw11101682611994953535 tw4569242077536980147 tw3313455607083337943 tw13138513200927297205 tw16813266014392977582 tw17606672471420187276 tw7389903808188557974 tw15601169547197758554 tw13290801280134873905 tw17886794410957006537 tw8443630235751841384 tw8595933814337352834 tw2302779966954102467 tw13679233925297853228 tw15720359880967449844 tw381994767757702175 tw9319418128720520703 tw12295982072434076304 tw4355796887866136361 tw8655874529450665384 tw16472532516208424906 tw5817803169553206622 tw10346537547632290728 tw4500804086789576246:True)
end PySem.W
open PySem PySem.W PyProof.Rows
set_option maxRecDepth 100000 in
set_option maxHeartbeats 0 in
theorem PySem.Challenge.cw_deadhand_k19_heirs_by_stems_holds : PySem.Challenge.rw_deadhand_k19_heirs_by_stems.Holds := by
  w_on; o_law; z_head; (case hw=>w_witness2)
  refine L2.walkX_of (by intro P; exact rfl) (My.walk (l:=PySem.Challenge.rw_deadhand_k19_heirs_by_stems) rfl rfl (fun w h Y=>Y) ?F)
  case F =>
    intro w mg fa h KX G hmg;refine' My.all_mk KX G hmg ?Qbt ?Qbu ?Qbv ?Qbw ?Qbx ?Qby ?Qbz ?QbA ?QbB ?QbC ?QbD ?QbE ?QbF ?QbG ?QbH ?QbI ?QbJ ?QbK ?QbL ?QbM ?QbN ?QbO ?QbP ?QbQ ?QbR ?QbS ?QbT ?QbU ?QbV ?QbW ?QbX ?QbY ?pe_NoPerson_NoPerson ?QbZ ?Qb0 ?Qb1 ?Qb2 ?Qb3 ?Qb4 ?Qb5 ?Qb6 ?Qb7 ?Qb8 ?Qb9 ?Qca ?Qcb ?Qcc ?Qcd ?Qce ?Qcf ?Qcg ?Qch ?Qco ?Qcp ?Qcq ?Qcr ?Qcs ?Qct ?pg_Lives ?hd_Lives ?po_Lives ?sa_Lives ?na_Lives_births ?na_Lives_deaths ?na_Lives_broods ?Qcu ?pg_World ?hd_World ?po_World ?sa_World ?na_World_year ?na_World_lives ?na_World_happened ?Qcv ?Qcw ?Qcx ?Qcy ?lk_BARRED ?Qcz ?lk_NOUGHT ?QcA ?QcB ?QcC ?mk_Lives ?kc_Lives ?mk_World ?kc_World ?p0 ?p1 ?p2 ?p3 ?p4 ?p5 ?p6 ?p7 ?p8 ?p9 ?p10 ?p11 ?p12 ?p13 ?p14 ?p15 ?p16 ?p17 ?p18 ?p19 ?p20 ?p21 ?p22 ?p23 ?p24 ?p25 ?p26 ?p27 ?p28 ?p29 ?p30 ?p31 ?p32 ?p33 ?p34 ?p35 ?p36 ?p37 ?p38 ?p39 ?p40 ?p41 ?p42 ?p43 ?p44 ?p45 ?p46 ?p47 ?p48 ?p49 ?p50 ?p51 ?p52 ?p53 ?p54 ?p55
    (case Qbt=>k_is)
    (case Qbu=>k_is)
    (case Qbv=>k_is)
    (case Qbw=>k_is)
    (case Qbx=>k_is)
    (case Qby=>k_is)
    (case Qbz=>k_is)
    (case QbA=>k_is)
    (case QbB=>k_is)
    (case QbC=>k_is)
    (case QbD=>k_is)
    (case QbE=>k_is)
    (case QbF=>k_is)
    (case QbG=>k_is)
    (case QbH=>k_is)
    (case QbI=>k_is)
    (case QbJ=>k_is)
    (case QbK=>k_is)
    (case QbL=>k_is)
    (case QbM=>k_is)
    (case QbN=>k_exc)
    (case QbO=>k_is)
    (case QbP=>k_is)
    (case QbQ=>k_is)
    (case QbR=>k_is)
    (case QbS=>k_is)
    (case QbT=>k_exc)
    (case QbU=>k_is)
    (case QbV=>k_is)
    (case QbW=>k_is)
    (case QbX=>k_is)
    (case QbY=>k_is)
    (case pe_NoPerson_NoPerson=>kts_exm)
    (case QbZ=>k_exc)
    (case Qb0=>k_is)
    (case Qb1=>k_is)
    (case Qb2=>k_is)
    (case Qb3=>k_is)
    (case Qb4=>k_is)
    (case Qb5=>k_exc)
    (case Qb6=>k_is)
    (case Qb7=>k_is)
    (case Qb8=>k_is)
    (case Qb9=>k_is)
    (case Qca=>k_is)
    (case Qcb=>k_exc)
    (case Qcc=>k_is)
    (case Qcd=>k_is)
    (case Qce=>k_is)
    (case Qcf=>k_is)
    (case Qcg=>k_is)
    (case Qch=>k_exc)
    all_goals (try first | (refine' L2.glp_mk ?a ?l ?c ?k; (case a=>k_is); (case l=>k_is); (case c=>k_is); (case k=>k_is)) | (refine' L2.mtp_mk ?a ?i ?l ?c ?k; (case a=>k_is); (case i=>k_is); (case l=>k_is); (case c=>k_is); (case k=>k_is)) | k_is)
