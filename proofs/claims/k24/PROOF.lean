import PyProof.Rows.All
import Wide.All
import OpenK.AllK
import Wide.FinOn
import Lean
import PyProof.EqAt
import PyProof.EqKinds
import PyProof.TupleCall
import KE.KDictList
import PyProof.Rows.StrCountLaw
import KE.KIntText
import PyProof.P3In
import PySem.Challenge.RW_deadhand_k24_whole_late_story_hangs
open PySem.W (instObj hideAll Frag lookIn plainGet hasDictIn findIn isFn plainOver makesIn emptyDict keepIn fnOf codeIn excIn nsIn subIn mg_of mg_none_of)
open Nat (lt_of_lt_of_le lt_irrefl ne_of_lt le_trans le_of_lt le_refl zero_le lt_succ_self le_succ lt_succ_of_lt sub_self lt_or_ge)
open List (filterMap_cons mem_cons_self mem_cons_of_mem mem_append_left mem_append_right size_toArray length_cons map_cons length_map append_nil length_take getElem?_append_right getElem?_append_left getElem?_map mem_of_getElem? length_append length_replicate find?_cons any_cons map_nil replicate_succ flatten_cons append_assoc foldl_cons length_singleton take_succ getElem?_eq_getElem take_length mem_append all_append map_append nodup_append mem_singleton map_map map_congr_left eq_nil_or_concat mem_map length_range mem_cons not_mem_nil getElem_mem filter_append filter_cons_of_pos filter_cons_of_neg length_filter_le getElem?_eq_none)
open Array (length_toList getElem?_toList)
open Option (isSome_map map_some)
open PySem.F (slot_dict_get entry_dict_get plainAttrs_str slot_str_count type_str_count plainAttrs_list)
open Int (toNat_natCast emod_lt_of_pos emod_nonneg)
open Bool (and_eq_true false_eq_true or_eq_true)
open PySem (boot_len sizeLine_eq)
open PyProof.Rows (boot_list boot_max boot_str)
set_option Elab.async false
set_option linter.all false
set_option maxRecDepth 100000
namespace L2
open PySem PySem.Spec PyProof.Rows
noncomputable abbrev Key:=Sum Int Str
noncomputable def Zfe:Key->Value->Bool
  |.inl k,v=>Value.isInt k v
  |.inr x,v=>Value.isStrOf x v
noncomputable def keyH (w:World):Key->Int
  |.inl k=>hashInt k
  |.inr x=>hashStr w x
theorem Yi:∀ {k:Key} {v:Value},Zfe k v=true->(∃ i t,k=Sum.inl i/\v=Value.int i t)\/(∃ x t,k=Sum.inr x/\v=Value.str x t)
  | .inl i,v,h=>by
    obtain⟨t,e⟩:=Value.isInt_shape (k:=i) (v:=v) h;exact .inl ⟨i,t,rfl,e⟩
  | .inr x,v,h=>by
    obtain⟨t,e⟩:=Value.isStrOf_shape (x:=x) (v:=v) h;exact .inr ⟨x,t,rfl,e⟩
theorem ZlM (i:Int)(t:Tok):Zfe (.inl i) (.int i t)=true:=by simp[Zfe,Value.isInt]
theorem ZhC (x:Str)(t:Tok):Zfe (.inr x) (.str x t)=true:=by simp[Zfe,Value.isStrOf]
theorem key_ll (a b:Int):decide ((Sum.inl a:Key)=Sum.inl b)=(a == b):=by
  by_cases e:a=b
  . subst e;simp
  . have h:¬ (Sum.inl a:Key)=Sum.inl b:=λ q=>e (Sum.inl.inj q);rw[decide_eq_false h];exact(beq_eq_false_iff_ne.mpr e).symm
theorem key_rr (a b:Str):decide ((Sum.inr a:Key)=Sum.inr b)=decide (a=b):=by
  by_cases e:a=b
  . subst e;simp
  . have h:¬ (Sum.inr a:Key)=Sum.inr b:=λ q=>e (Sum.inr.inj q);rw[decide_eq_false h,decide_eq_false e]
theorem key_lr (a:Int)(b:Str):decide ((Sum.inl a:Key)=Sum.inr b)=false:=decide_eq_false (λ q=>nomatch q)
theorem key_rl (a:Str)(b:Int):decide ((Sum.inr a:Key)=Sum.inl b)=false:=decide_eq_false (λ q=>nomatch q)
noncomputable def ZR (prog:Program)(w:World):PySem.KeyKind prog w Key where
  is:=Zfe
  hash:=keyH w
  inj:=λ v a b ha hb=>by
    rcases Yi ha with ⟨i,t,rfl,rfl⟩|⟨x,t,rfl,rfl⟩
    . rcases Yi hb with ⟨j,u,rfl,e⟩|⟨y,u,rfl,e⟩
      . injection e with e1 _;rw[e1]
      . exact nomatch e
    . rcases Yi hb with ⟨j,u,rfl,e⟩|⟨y,u,rfl,e⟩
      . exact nomatch e
      . injection e with e1 _;rw[e1]
  byValue:=λ k v h=>by
    rcases Yi h with ⟨i,t,rfl,rfl⟩|⟨x,t,rfl,rfl⟩ <;> rfl
  pyHash:=λ hv h=>by
    rcases Yi hv with ⟨i,t,rfl,rfl⟩|⟨x,t,rfl,rfl⟩
    . exact wpAny_pyHash_int h
    . exact wpAny_pyHash_str h
  eqBool:=λ hu hv h=>by
    rcases Yi hu with ⟨i,t,rfl,rfl⟩|⟨x,t,rfl,rfl⟩
    . rcases Yi hv with ⟨j,u,rfl,rfl⟩|⟨y,u,rfl,rfl⟩
      . rw[key_ll]at h;exact wpAny_eqBool_int h
      . rw[key_lr]at h;exact SeqAt.EqAt.int_str i t y u _ _ _ _ h
    . rcases Yi hv with ⟨j,u,rfl,rfl⟩|⟨y,u,rfl,rfl⟩
      . rw[key_rl]at h;exact SeqAt.EqAt.str_int x t j u _ _ _ _ h
      . rw[key_rr]at h;exact wpAny_eqBool_str h
  «strs»:=λ k x t v h=>by
    rcases Yi h with ⟨i,u,rfl,e⟩|⟨y,u,rfl,e⟩
    . exact nomatch e
    . injection e with e1 _;subst e1;cases v <;> rfl
theorem ZjK (prog:Program)(w:World)(i:Int)(t:Tok):(ZR prog w).is (.inl i) (.int i t)=true:=ZlM i t
theorem ZjJ (prog:Program)(w:World)(x:Str)(t:Tok):(ZR prog w).is (.inr x) (.str x t)=true:=ZhC x t
open PySem PySem.Spec PyProof.Rows
inductive V where
  | non|bl (b:Bool)|int (i:Int)|str (x:Str)|byt (b:Array UInt8)|flt (b:UInt64)|ref (a:Addr)|ty (n:String)
  deriving DecidableEq
noncomputable def ZI:V->Value->Prop
  |.non,u=>u=Value.none
  |.bl b,u=>u=Value.bool b
  |.int i,u=>∃ t,u=Value.int i t
  |.str x,u=>∃ t,u=Value.str x t
  |.byt b,u=>∃ t,u=Value.bytes b t
  |.flt b,u=>∃ t,u=Value.float b t
  |.ref a,u=>u=Value.ref a
  |.ty n,u=>u=Value.type n
noncomputable abbrev ZJ:List V->List Value->Prop:=Paired ZI
theorem ZJ.length {xs:List V}{us:List Value}(r:ZJ xs us):xs.length=us.length:=Paired.length r
theorem ZJ.get:∀ {xs:List V} {us:List Value} {i:Nat} {x:V},ZJ xs us->xs[i]? = some x->∃ u,us[i]? = some u/\ZI x u
  |_,_,_,_, .nil,e=>by simp at e
  |_,_,0,_, .cons r _,e=>by simp at e;subst e;exact⟨_,rfl,r⟩
  | _,_,i+1,x, .cons _ t,e=>by
    obtain⟨u,h1,h2⟩:=ZJ.get (i:=i) (x:=x) t (by simpa using e);exact⟨u,by simpa using h1,h2⟩
theorem ZJ.set {x:V}{u:Value}(r:ZI x u):∀ {xs:List V} {us:List Value} (i:Nat),ZJ xs us->ZJ (xs.set i x) (us.set i u)
  |_,_,_, .nil => .nil
  |_,_,0, .cons _ t => .cons r t
  |_,_,i+1, .cons q t => .cons q (ZJ.set r i t)
theorem ZJ.append:∀ {xs ys:List V} {us ws:List Value},ZJ xs us->ZJ ys ws->ZJ (xs++ys) (us++ws)
  |_,_,_,_, .nil,s=>s
  |_,_,_,_, .cons r t,s => .cons r (ZJ.append t s)
theorem ZJ.take:∀ {xs:List V} {us:List Value} (n:Nat),ZJ xs us->ZJ (xs.take n) (us.take n)
  |_,_,0,_ => .nil
  |_,_,_+1, .nil => .nil
  |_,_,n+1, .cons r t => .cons r (ZJ.take n t)
theorem ZJ.drop:∀ {xs:List V} {us:List Value} (n:Nat),ZJ xs us->ZJ (xs.drop n) (us.drop n)
  |_,_,0,r=>r
  |_,_,_+1, .nil => .nil
  |_,_,n+1, .cons _ t=>ZJ.drop n t
noncomputable def Zbe:Option V->Option Value->Prop
  |some v,some u=>ZI v u
  |none,none=>True
  |_,_=>False
noncomputable def KV {κ:Type}:List (κ×V)->List (κ×Value)->Prop:=Paired λ(p:κ×V)(q:κ×Value)=>p.1=q.1/\ZI p.2 q.2
noncomputable def kV:Key->V
  |.inl i => .int i
  |.inr x => .str x
inductive HO where
    | lst (xs:List V)
    | tup (xs:List V)
    | dK (kvs:List (Key×V))|dT (kvs:List (List Key×V))
    | set (S:Int->Bool) (n:Nat)
    | ins (C dx:Addr) (fs:List (Str×V))
    | own (x:Addr)
    | xd (fs:List (Str×V))
    | met (f x:Addr)
    | rng (lo hi:Int)
    | frz (o:Obj) (u:HO)
    | tbl (ps:Array Value)
    | ext (φ:Heap->Prop)
noncomputable abbrev Hp:=Addr->Option HO
noncomputable def upd (H:Hp)(a:Addr)(o:HO):Hp:=λ b=>if b=a then some o else H b
theorem Ze {H:Hp}{a:Addr}{o:HO}:upd H a o a=some o:=by unfold upd;rw[if_pos rfl]
theorem Zh {H:Hp}{a b:Addr}{o:HO}(h:b≠a):upd H a o b=H b:=by unfold upd;rw[if_neg h]
theorem ZhX {H:Hp}{a:Addr}{o u:HO}:upd (upd H a o) a u=upd H a u:=by
 funext b;unfold upd;split <;> rfl
theorem ne_of {H:Hp}{a b:Addr}{o u:HO}(h:H a=some o)(h':H b=some u)(d:o≠u):a≠b:=by
 intro e;subst e;rw[h]at h';exact d (Option.some.inj h')
theorem ZC {H:Hp}{a b:Addr}{o:HO}(h:H a=some o)(h':H b=none):a≠b:=by
 intro e;subst e;rw[h]at h';cases h'
section
variable (P:Program)(w:World)
noncomputable def Yw (H:Hp)(h:Heap)(a:Addr):HO->Prop
  |.lst xs=>xs.length<=sizeLine/\∃(its:List Value)(n:Nat),ZJ xs its/\h.get? a=some { cls:=.type "list",data:=.seq its.toArray n }
  |.tup xs=>xs.length<=sizeLine/\∃ its:List Value,ZJ xs its/\IsTup h a its.toArray
  |.dK kvs=>kvs.length<=sizeLine/\(a == sysModules)=false/\∃ vs,KV kvs vs/\h.DictOf (ZR P w) a vs
  | .dT kvs=>kvs.length<=sizeLine/\(a == sysModules)=false/\∃ xs:List (List Key×Addr×Value),
      Paired (λ(p:List Key×V)(q:List Key×Addr×Value)=>p.1=q.1/\H q.2.1=some (.tup (p.1.map kV))/\ZI p.2 q.2.2) kvs xs /\
      ∃ o es ep,h.get? a=some o/\o.ExactDict/\o.data = .dict es ep/\es.toList=xs.map (entryOfKey (tupleKind (ZR P w)))/\(xs.map (·.1)).Nodup
  |.set S n=>h.SetOf (intKind P w) a S n
  | .ins C dx fs=>H dx=some (.own a)/\fs.length<=1000/\dx≠a/\h.get? a=some (instObj C dx) /\
      ∃ mA,h.Ns1 dx mA/\(∀ f,Zbe (fs.lookup f) (mA f))/\PySem.Within mA (fs.map (·.1))
  |.own _=>∃ o,h.get? a=some o
  |.xd fs=>∃ mA,h.Ns1 a mA/\∀ f,Zbe (fs.lookup f) (mA f)
  |.rng lo hi=>∃ t u v,h.get? a=some { cls:=.type "range",data:=.fields #[.int lo t, .int hi u, .int 1 v] }
  |.frz o u=>h.get? a=some o/\Yw H h a u
  |.tbl ps=>h.get? a=some { cls:=.none,data:=.fields ps }
  |.met f x=>h.get? a=some (PySem.W.methodObj (.ref f) (.ref x))
  |.ext φ=>φ h/\(∃ o,h.get? a=some o)/\∀ h1 h2:Heap,φ h1->(∀ o,h1.get? a=some o->h2.get? a=some o)->φ h2
noncomputable def HOk (H:Hp)(h:Heap):Prop:=∀ a o,H a=some o->Yw P w H h a o
end
section
variable {P:Program}{w:World}{H H':Hp}{h h':Heap}{a:Addr}{o:HO}
theorem Yw.lt (x:Yw P w H h a o):a<h.objs.size:=by
  cases o with
  |lst xs=>obtain⟨_,_,_,_,e⟩:=x;exact Heap.lt_size e
  |tup xs=>obtain⟨_,_,_,p⟩:=x;exact p.lt
  |dK kvs=>obtain⟨_,_,_,_,o,_,_,e,_⟩:=x;exact Heap.lt_size e
  |dT kvs=>obtain⟨_,_,_,_,o,_,_,e,_⟩:=x;exact Heap.lt_size e
  |set S n=>obtain⟨o,_,_,_,e,_⟩:=x;exact Heap.lt_size e
  |ins C dx fs=>obtain⟨_,_,_,e,_⟩:=x;exact Heap.lt_size e
  |own y=>obtain⟨_,e⟩:=x;exact Heap.lt_size e
  |xd fs=>obtain⟨_,⟨_,_,_,e,_⟩,_⟩:=x;exact Heap.lt_size e
  |rng lo hi=>obtain⟨_,_,_,e⟩:=x;exact Heap.lt_size e
  |frz ob u=>obtain⟨e,_⟩:=x;exact Heap.lt_size e
  |tbl ps=>exact Heap.lt_size (show h.get? a=some _ from x)
  |met f y=>exact Heap.lt_size (show h.get? a=some _ from x)
  |ext φ=>obtain⟨_,⟨_,e⟩,_⟩:=x;exact Heap.lt_size e
theorem Paired.mapP {α β:Type}{F G:α->β->Prop}:∀ {l₁:List α} {l₂:List β},Paired F l₁ l₂->(∀ a b,F a b->G a b)->Paired G l₁ l₂
  |_,_, .nil,_ => .nil
  |_,_, .cons r t,f => .cons (f _ _ r) (Paired.mapP t f)
theorem Yw.stay (x:Yw P w H h a o)(k:∀ b u,(b=a\/H b=some (.own a))->h.get? b=some u->h'.get? b=some u)(ho:∀ b,H b=some (.own a)->H' b=some (.own a))(ht:∀ b xs,H b=some (.tup xs)->H' b=some (.tup xs)):Yw P w H' h' a o:=by
  induction o with
  |lst xs=>obtain⟨z,its,n,r,e⟩:=x;exact⟨z,its,n,r,k _ _ (.inl rfl) e⟩
  |tup xs=>obtain⟨z,its,r,ob,e,c⟩:=x;exact⟨z,its,r,ob,k _ _ (.inl rfl) e,c⟩
  |dK kvs=>obtain⟨z,y,vs,r,ob,es,ep,e,c⟩:=x;exact⟨z,y,vs,r,ob,es,ep,k _ _ (.inl rfl) e,c⟩
  |dT kvs=>
    obtain⟨z,y,xs,r,ob,es,ep,e,c⟩:=x;exact⟨z,y,xs,Paired.mapP r λ p q z=>⟨z.1,ht _ _ z.2.1,z.2.2⟩,ob,es,ep,k _ _ (.inl rfl) e,c⟩
  |set S n=>obtain⟨ob,es,ep,t,e,c⟩:=x;exact⟨ob,es,ep,t,k _ _ (.inl rfl) e,c⟩
  |ins C dx fs=>
    obtain⟨d,z,ne,e,mA,⟨od,es,ep,e2,c⟩,r⟩:=x;exact⟨ho _ d,z,ne,k _ _ (.inl rfl) e,mA,⟨od,es,ep,k _ _ (.inr d) e2,c⟩,r⟩
  |own y=>obtain⟨ob,e⟩:=x;exact⟨ob,k _ _ (.inl rfl) e⟩
  |xd fs=>obtain⟨mA,⟨od,es,ep,e,c⟩,r⟩:=x;exact⟨mA,⟨od,es,ep,k _ _ (.inl rfl) e,c⟩,r⟩
  |rng lo hi=>obtain⟨t,u,v,e⟩:=x;exact⟨t,u,v,k _ _ (.inl rfl) e⟩
  |frz ob u ih=>obtain⟨e,q⟩:=x;exact⟨k _ _ (.inl rfl) e,ih q⟩
  |tbl ps=>
    have e:h.get? a=some { cls:=.none,data:=.fields ps }:=x;show h'.get? a=some { cls:=.none,data:=.fields ps };exact k a _ (.inl rfl) e
  |met f y=>
    have e:h.get? a=some (PySem.W.methodObj (.ref f) (.ref y)):=x;show h'.get? a=some (PySem.W.methodObj (.ref f) (.ref y));exact k a _ (.inl rfl) e
  |ext φ=>obtain⟨p,⟨o,e⟩,st⟩:=x;exact⟨st _ _ p λ o q=>k _ _ (.inl rfl) q,⟨o,k _ _ (.inl rfl) e⟩,st⟩
theorem HOk.lt (x:HOk P w H h)(e:H a=some o):a<h.objs.size:=(x a o e).lt
theorem HOk.fresh (x:HOk P w H h)(e:h.objs.size<=a):H a=none:=by
  cases q:H a with
  |none=>rfl
  |some u=>exact absurd (lt_of_lt_of_le (x.lt q) e) (lt_irrefl _)
theorem HOk.kept (x:HOk P w H h)(k:∀ b u,h.get? b=some u->h'.get? b=some u):HOk P w H h':=λ a o e=>
 (x a o e).stay (λ b u _ q=>k b u q) (λ _ q=>q) λ _ _ q=>q
theorem HOk.laid (x:HOk P w H h)(k:∀ b u,h.get? b=some u->h'.get? b=some u)(hp:h.objs.size<=a)(new:Yw P w (upd H a o) h' a o):HOk P w (upd H a o) h':=λ b u e=>by
  have hn:=x.fresh hp
  by_cases hb:b=a
  . subst hb;rw[Ze]at e;cases e;exact new
  . rw[Zh hb]at e;exact(x b u e).stay (λ c v _ q=>k c v q) (λ c q=>by rw[Zh (ZC q hn)];exact q) λ c xs q=>by rw[Zh (ZC q hn)];exact q
end
noncomputable def Rd (H:Hp)(a:Addr)(u:HO):Prop:=H a=some u\/∃ o,H a=some (.frz o u)
theorem Rd.ok {P:Program}{w:World}{H:Hp}{h:Heap}{a:Addr}{u:HO}(r:Rd H a u)(x:HOk P w H h):Yw P w H h a u:=by
  rcases r with r|⟨o,r⟩
  . exact x a u r
  . obtain⟨_,q⟩:=x a _ r;exact q
noncomputable def Mut:Option HO->Prop
  |some (.lst _)=>True
  |some (.dK _)=>True
  |some (.dT _)=>True
  |some (.set _ _)=>True
  |some (.ins _ _ _)=>True
  |some (.ext _)=>True
  |_=>False
section
variable {P:Program}{w:World}{H:Hp}{h h':Heap}{x e:Addr}{o':HO}
theorem HOk.write (ok:HOk P w H h)(mu:Mut (H x))(he:e=x\/H e=some (.own x))(k:∀ b u,b≠e->h.get? b=some u->h'.get? b=some u)(heo:∃ u,h'.get? e=some u)(new:Yw P w (upd H x o') h' x o'):HOk P w (upd H x o') h':=λ b u q=>by
  have nown:∀ c y,H c=some (.own y)->c≠x:=λ c y r z=>by subst z;rw[r]at mu;exact mu
  have ntup:∀ c xs,H c=some (.tup xs)->c≠x:=λ c xs r z=>by subst z;rw[r]at mu;exact mu
  by_cases hb:b=x
  . subst hb;rw[Ze]at q;cases q;exact new
  . rw[Zh hb]at q
    by_cases hbe:b=e
    . have q':H b=some (.own x):=by
        rcases he with z|z
        . exact absurd (hbe.trans z) hb
        . rw[hbe];exact z
      rw[q]at q';cases q';obtain⟨v,hv⟩:=heo;exact⟨v,by rw[hbe];exact hv⟩
    . refine(ok b u q).stay (λ c v hc r=>k c v ?_ r) (λ c r=>by rw[Zh (nown c b r)];exact r) λ c xs r=>by rw[Zh (ntup c xs r)];exact r
      rcases hc with rfl|hc
      . exact hbe
      . rintro rfl;rcases he with z|z
        . exact nown c b hc z
        . rw[hc]at z;cases z;exact hb rfl
end
structure Un (fs ex:List Addr)(H H':Hp)(h h':Heap):Prop where
  keep:∀ b o,h.get? b=some o->H b=none->b∉fs->b∉ex->h'.get? b=some o
  slot:∀ b o,h.get? b=some o->H b=none->b∈fs->b∉ex->∃ sl,h'.get? b=some { o with slots:=sl }
  free:∀ b o,h.get? b=some o->H b=none->b∉ex->H' b=none
  there:∀ b o,h.get? b=some o->b∉ex->∃ o',h'.get? b=some o'
  tups:∀ b xs,H b=some (.tup xs)->H' b=some (.tup xs)
  frzs:∀ b o u,H b=some (.frz o u)->H' b=some (.frz o u)
  tbls:∀ b ps,H b=some (.tbl ps)->∃ more,H' b=some (.tbl (ps++more))
section
variable {fs fs' ex ex':List Addr}{H H1 H2:Hp}{h h1 h2 h':Heap}{a x e:Addr}{o:HO}
theorem Un.any (u:Un fs ex H H1 h h1){b:Addr}{ob:Obj}(q:h.get? b=some ob)(n:H b=none)(hx:b∉ex):∃ sl,h1.get? b=some { ob with slots:=sl }:=by
  by_cases hb:b∈fs
  . exact u.slot b ob q n hb hx
  . exact⟨ob.slots,u.keep b ob q n hb hx⟩
theorem Un.trans (a:Un fs ex H H1 h h1)(b:Un fs ex H1 H2 h1 h2):Un fs ex H H2 h h2 where
  keep:=λ c ob q n hc hx=>b.keep c ob (a.keep c ob q n hc hx) (a.free c ob q n hx) hc hx
  slot:=λ c ob q n hc hx=>by
    obtain⟨sl,e1⟩:=a.slot c ob q n hc hx;obtain⟨sl',e2⟩:=b.slot c _ e1 (a.free c ob q n hx) hc hx;exact⟨sl',e2⟩
  free:=λ c ob q n hx=>by
    obtain⟨o',e1⟩:=a.there c ob q hx;exact b.free c o' e1 (a.free c ob q n hx) hx
  there:=λ c ob q hx=>by
    obtain⟨o',e1⟩:=a.there c ob q hx;exact b.there c o' e1 hx
  tups:=λ c xs q=>b.tups c xs (a.tups c xs q)
  frzs:=λ c ob xs q=>b.frzs c ob xs (a.frzs c ob xs q)
  tbls:=λ c ps q=>by
    obtain⟨m1,e1⟩:=a.tbls c ps q;obtain⟨m2,e2⟩:=b.tbls c _ e1;exact⟨m1++m2,by rw[e2,Array.append_assoc]⟩
theorem Un.kept (k:∀ b u,h.get? b=some u->h'.get? b=some u):Un fs ex H H h h':=
 ⟨λ b ob q _ _ _=>k b ob q,λ b ob q _ _ _=>⟨ob.slots,k b ob q⟩,λ _ _ _ n _=>n,λ b ob q _=>⟨ob,k b ob q⟩,λ _ _ q=>q,λ _ _ _ q=>q,λ _ ps q=>⟨#[],by rw[q];simp⟩⟩
theorem Un.refl:Un fs ex H H h h:=Un.kept λ _ _ q=>q
theorem Un.laid (k:∀ b u,h.get? b=some u->h'.get? b=some u)(hp:h.objs.size<=a)(hn:H a=none):Un fs ex H (upd H a o) h h' where
 keep:=λ b u q _ _ _=>k b u q
 slot:=λ b u q _ _ _=>⟨u.slots,k b u q⟩
 free:=λ b u q n _=>by rw[Zh (ne_of_lt (lt_of_lt_of_le (Heap.lt_size q) hp))];exact n
 there:=λ b u q _=>⟨u,k b u q⟩
 tups:=λ b xs q=>by rw[Zh (ZC q hn)];exact q
 frzs:=λ b u xs q=>by rw[Zh (ZC q hn)];exact q
 tbls:=λ b ps q=>⟨#[],by rw[Zh (ZC q hn),q];simp⟩
theorem Un.write (mu:Mut (H x))(he:e=x\/H e=some (.own x))(k:∀ b u,b≠e->h.get? b=some u->h'.get? b=some u)(heo:∃ u,h'.get? e=some u):Un fs ex H (upd H x o) h h':=by
  have hx:∀ b,H b=none->b≠x:=λ b n z=>by subst z;rw[n]at mu;exact mu
  have hb:∀ b,H b=none->b≠e:=λ b n z=>by
    subst z;rcases he with r|r
    . exact hx b n r
    . rw[n]at r;cases r
  have hm:∀ b u,H b=some u->¬ Mut (some u)->b≠x:=λ b u q nm z=>by subst z;rw[q]at mu;exact nm mu
  refine⟨λ b u q n _ _=>k b u (hb b n) q,λ b u q n _ _=>⟨u.slots,k b u (hb b n) q⟩,λ b u q n _=>by rw[Zh (hx b n)];exact n,λ b u q _=>?_,
    λ b xs q=>by rw[Zh (hm b _ q λ z=>z)];exact q,λ b u xs q=>by rw[Zh (hm b _ q λ z=>z)];exact q,λ b ps q=>⟨#[],by rw[Zh (hm b _ q λ z=>z),q];simp⟩⟩
  by_cases hbe:b=e
  . subst hbe;exact heo
  . exact⟨u,k b u hbe q⟩
theorem Un.mono (u:Un fs ex H H1 h h1)(hs:∀ b∈fs,b∈fs')(hx:∀ b∈ex,b∈ex'):Un fs' ex' H H1 h h1:=
 ⟨λ b ob q n hb he=>u.keep b ob q n (λ z=>hb (hs b z)) λ z=>he (hx b z),λ _ _ q n _ he=>u.any q n λ z=>he (hx _ z),λ b ob q n he=>u.free b ob q n λ z=>he (hx b z),λ b ob q he=>u.there b ob q λ z=>he (hx b z),u.tups,u.frzs,u.tbls⟩
end
noncomputable def trk (h:Heap)(H:Hp):List Addr:=(List.range h.objs.size).filter λ a=>(H a).isSome
noncomputable def ZiJ (h:Heap)(H:Hp):Heap:=hideAll h (trk h H)
theorem ZlP (h:Heap)(H:Hp):(ZiJ h H).objs.size=h.objs.size:=PySem.W.hideAll_size _ _
theorem Zm1 {h:Heap}{H:Hp}{b:Addr}{o:Obj}(e:h.get? b=some o)(n:H b=none):(ZiJ h H).get? b=some o:=
  PySem.W.hideAll_get _ e λ hm=>by
    have q:(H b).isSome=true:=(List.mem_filter.mp hm).2;rw[n]at q;simp at q
theorem ZnM {h:Heap}{H:Hp}{b:Addr}{o:Obj}(e:(ZiJ h H).get? b=some o):h.get? b=some o/\H b=none:=by
  have e':h.get? b=some o:=PySem.W.of_hideAll (trk h H) e;refine⟨e',?_⟩;cases q:H b with
  |none=>rfl
  |some x=>
    have hm:b∈trk h H:=List.mem_filter.mpr ⟨List.mem_range.mpr (Heap.lt_size e'),by simp[q]⟩;have z:(ZiJ h H).get? b=none:=PySem.W.hideAll_none (trk h H) hm;rw[z]at e;cases e
noncomputable def Zn4 (g h:Heap)(L:Addr):List (Addr×Obj):=(List.range h.objs.size).filterMap λ a=>if a=L\/(g.get? a).isSome=true then none else (h.get? a).map λ o=>(a,o)
noncomputable def Zew (g h:Heap)(L d:Addr):List (Addr×Obj):=(Zn4 g h L).filter λ p=>decide (p.1≠d)
open PySem PySem.Spec PyProof.Rows
structure Mod (K:Frag)(mg:Str->Option Value)(base:Heap):Prop where
  kin:K.In base
  glob:base.Ns mainGlobals mg
  blt:∃ mb,base.Ns builtinsNs mb/\∀ x:Str,x≠"__name__"->mb x=bootBuiltins x
  nolimit:base.NoLimit
structure Cx where
  prog:Program
  w:World
  K:Frag
  mg:Str->Option Value
  base:Heap
  A:Around
  N:List Str
  s₀:Shared
  H₀:Hp
  env:Env
  outer:List Env
  stack:List Env
  ex:List Addr
  fn:Str->Bool
  calm:Bool
  pn:List (Addr×Obj)
  xe:Value->Shared->Prop
noncomputable def frs (l:List Env):List Addr:=l.filterMap (·.frame)
noncomputable abbrev Cx.fs (X:Cx):List Addr:=frs X.outer
noncomputable def Vis (sc:Scope)(x:Str):Prop:=sc.names.lookup x=some .local\/sc.names.lookup x=some .cell\/sc.names.lookup x=some .free
noncomputable def Loc (sc:Scope)(x:Str):Prop:=sc.names.lookup x=some .local\/sc.names.lookup x=some .cell
noncomputable def Look (env:Env)(h:Heap)(m:Str->Option Value)(x:Str)(u:Value):Prop:=
 (env.kindOf x=some .local/\m x=some u)\/((env.kindOf x=some .cell\/env.kindOf x=some .free)/\∃ c,env.cells.lookup x=some c/\h.IsCell c (some u))
structure Cx.Ok (X:Cx):Prop where
  mod:Mod X.K X.mg X.base
  kind:X.env.scope.kind = .function
  glob:X.env.globals=mainGlobals
  blt:X.env.builtins=builtinsNs
  above:X.s₀.heap.objs.size<=X.env.locals
  inj:∀ x y c,X.env.cells.lookup x=some c->X.env.cells.lookup y=some c->x=y
  has:∀ x,(X.env.kindOf x=some .cell\/X.env.kindOf x=some .free)->∃ c,X.env.cells.lookup x=some c
  cab:∀ x c,X.fn x=true->X.env.cells.lookup x=some c->X.s₀.heap.objs.size<=c
  hd:X.calm=true->X.A.handled=none
  frames:X.A.frames=some X.stack
  stk:X.stack=X.outer\/(X.stack=X.env::X.outer/\X.env.frame=some X.env.locals)
  exf:∀ b∈X.ex,b≠X.env.locals/\∀ x c,X.env.cells.lookup x=some c->c≠b
  bs:∀ b o,X.base.get? b=some o->X.s₀.heap.get? b=some o/\X.H₀ b=none
  bsz:X.base.objs.size<=X.s₀.heap.objs.size
  noex:∀ b o,X.base.get? b=some o->b∉X.ex
  exfs:∀ b∈X.ex,b∉X.fs
  funs:X.s₀.heap.FunFrames X.base X.outer
  frf:∀ b∈X.fs,X.H₀ b=none
structure Inv (X:Cx)(pins:List (Addr×Obj))(σ:List (Option V))(H:Hp)(s:Shared):Prop where
  ok:X.Ok
  os:s.os=X.s₀.os
  bare:AllBare s.gens
  base:Un X.fs X.ex X.H₀ H X.s₀.heap s.heap
  loc:∃ m,s.heap.Ns X.env.locals m/\∀(i:Nat)(x:Str)(v:V),X.N[i]? = some x->σ[i]? = some (some v)->Vis X.env.scope x->∃ u,ZI v u/\Look X.env s.heap m x u
  cell:∀ x c,X.env.cells.lookup x=some c->∃ v,s.heap.IsCell c v
  free:H X.env.locals=none
  freeC:∀ x c,X.env.cells.lookup x=some c->H c=none
  pin:∀ p∈X.pn++pins,s.heap.get? p.1=some p.2/\H p.1=none/\p.1≠X.env.locals/\p.1∉X.fs/\∀ v,p.2.data ≠ .cell v
  hok:HOk X.prog X.w H s.heap
  len:σ.length=X.N.length
section
variable {X:Cx}{pins:List (Addr×Obj)}{σ:List (Option V)}{H H':Hp}{s:Shared}{h':Heap}
theorem Cx.Ok.nofr (ok:X.Ok){b:Addr}{o:Obj}(e:X.base.get? b=some o):b∉X.fs:=λ hb=>by
 have:=(ok.funs.mem hb).1;rw[e]at this;cases this
theorem Inv.bs (I:Inv X pins σ H s):∀ b o,X.base.get? b=some o->s.heap.get? b=some o/\H b=none:=λ b o e=>
 ⟨I.base.keep b o (I.ok.bs b o e).1 (I.ok.bs b o e).2 (I.ok.nofr e) (I.ok.noex b o e),I.base.free b o (I.ok.bs b o e).1 (I.ok.bs b o e).2 (I.ok.noex b o e)⟩
theorem Inv.bk (I:Inv X pins σ H s):∀ b o,X.base.get? b=some o->s.heap.get? b=some o:=λ b o e=>(I.bs b o e).1
theorem Inv.mod (I:Inv X pins σ H s):Mod X.K X.mg X.base:=I.ok.mod
theorem Inv.kIn (I:Inv X pins σ H s):X.K.In s.heap:=I.ok.mod.kin.keeps I.bk
theorem Inv.lt (I:Inv X pins σ H s):X.env.locals<s.heap.objs.size:=let ⟨_,hn,_⟩:=I.loc;hn.lt
theorem Inv.sz (I:Inv X pins σ H s):X.s₀.heap.objs.size<=s.heap.objs.size:=le_trans I.ok.above (le_of_lt I.lt)
theorem Inv.nofs (I:Inv X pins σ H s){a:Addr}(h:s.heap.objs.size<=a):a∉X.fs:=λ hb=>by
 obtain⟨_,o,ho,_⟩:=I.ok.funs.mem hb;exact absurd (lt_of_lt_of_le (Heap.lt_size ho) (le_trans I.sz h)) (lt_irrefl _)
theorem Inv.cne (I:Inv X pins σ H s):∀ x c,X.env.cells.lookup x=some c->c≠X.env.locals:=λ x c e z=>by
 obtain⟨v,o,ho,hd⟩:=I.cell x c e;obtain⟨m,⟨o',es,ep,ho',hd',_⟩,_⟩:=I.loc;rw[z,ho']at ho;cases ho;rw[hd']at hd;cases hd
theorem Inv.funs (I:Inv X pins σ H s):s.heap.FunFrames X.base X.outer:=by
  have all:∀(l:List Env),(∀ b∈frs l,b∈X.fs)->X.s₀.heap.FunFrames X.base l->s.heap.FunFrames X.base l:=by
    intro l
    induction l with
    |nil=>intro _ _;trivial
    |cons env r ih=>
      intro hs hl;obtain⟨hk,⟨L,o,hf,hn,ho,hd⟩,hr⟩:=hl;have hL:L∈X.fs:=hs L (by unfold frs;rw[filterMap_cons,hf];exact mem_cons_self);obtain⟨sl,e⟩:=I.base.slot L o ho (I.ok.frf L hL) hL λ z=>I.ok.exfs L z hL;exact⟨hk,⟨L,_,hf,hn,e,hd⟩,ih (λ b hb=>hs b (by unfold frs;rw[filterMap_cons,hf];exact mem_cons_of_mem _ hb)) hr⟩
  exact all X.outer (λ _ hb=>hb) I.ok.funs
theorem Inv.stack (I:Inv X pins σ H s):s.heap.FunFrames X.base X.stack:=by
  rcases I.ok.stk with e|⟨e,hf⟩
  . rw[e];exact I.funs
  . rw[e];obtain⟨m,hn,_⟩:=I.loc;refine .cons (by rw[I.ok.kind];decide) hf hn ?_ I.funs;exact Heap.get?_none_of_le (le_trans I.ok.bsz I.ok.above)
theorem Inv.stkSub (I:Inv X pins σ H s):∀ b∈frs X.stack,b∈X.env.locals::X.fs:=λ b hb=>by
  rcases I.ok.stk with e|⟨e,hf⟩
  . rw[e]at hb;exact mem_cons_of_mem _ hb
  . rw[e]at hb;unfold frs at hb;rw[filterMap_cons,hf]at hb;exact hb
theorem Inv.stkFree (I:Inv X pins σ H s):∀ b∈frs X.stack,H b=none:=λ b hb=>by
  rcases List.mem_cons.mp (I.stkSub b hb) with e|hb
  . rw[e];exact I.free
  . obtain⟨_,o,ho,_⟩:=I.ok.funs.mem hb;exact I.base.free b o ho (I.ok.frf b hb) λ z=>I.ok.exfs b z hb
theorem Inv.step {g':Array GenState}{t':Nat}{d':Drawn}{ch:List Addr}(I:Inv X pins σ H s)(hch:∀ b∈ch,(b∈X.ex\/X.s₀.heap.objs.size<=b)/\b≠X.env.locals/\(∀ x c,X.env.cells.lookup x=some c->c≠b)/\∀ p∈X.pn++pins,p.1≠b)(keep:∀ b o,b≠X.env.locals->b∉X.fs->b∉ch->s.heap.get? b=some o->H b=none->h'.get? b=some o)(slot:∀ b o,b≠X.env.locals->b∈X.fs->b∉ch->s.heap.get? b=some o->H b=none->∃ sl,h'.get? b=some { o with slots:=sl })(free:∀ b o,b∉ch->s.heap.get? b=some o->H b=none->H' b=none)(there:∀ b o,b∉ch->s.heap.get? b=some o->∃ o',h'.get? b=some o')(tups:∀ b xs,H b=some (.tup xs)->H' b=some (.tup xs))(frzs:∀ b o u,H b=some (.frz o u)->H' b=some (.frz o u))(tbls:∀ b ps,H b=some (.tbl ps)->∃ more,H' b=some (.tbl (ps++more)))(ns:∀ m,s.heap.Ns X.env.locals m->h'.Ns X.env.locals m)(hok:HOk X.prog X.w H' h')(hg:AllBare g') :
    Inv X pins σ H' { s with heap:=h',gens:=g',drawn:=d',toks:=t' }:=by
  have neL:∀ b o,X.s₀.heap.get? b=some o->b≠X.env.locals:=λ b o e=>ne_of_lt (lt_of_lt_of_le (Heap.lt_size e) I.ok.above);have neC:∀ b o,X.s₀.heap.get? b=some o->b∉X.ex->b∉ch:=λ b o e hx hb=>by
    rcases(hch b hb).1 with z|z
    . exact hx z
    . exact absurd (lt_of_lt_of_le (Heap.lt_size e) z) (lt_irrefl _)
  have cellK:∀ x c,X.env.cells.lookup x=some c->∀ v,s.heap.IsCell c v->h'.IsCell c v:=λ x c e v ⟨o,ho,hd⟩=>by
    have nch:c∉ch:=λ z=>(hch c z).2.2.1 x c e rfl
    by_cases hc:c∈X.fs
    . obtain⟨sl,q⟩:=slot c o (I.cne x c e) hc nch ho (I.freeC x c e);exact⟨_,q,hd⟩
    . exact⟨o,keep c o (I.cne x c e) hc nch ho (I.freeC x c e),hd⟩
  refine⟨I.ok,I.os,hg,⟨λ b o e n hb hx=>?_,λ b o e n hb hx=>?_,λ b o e n hx=>?_,λ b o e hx=>?_,λ b xs e=>tups b xs (I.base.tups b xs e),λ b o xs e=>frzs b o xs (I.base.frzs b o xs e),λ b ps e=>?_⟩,?_,λ x c e=>?_,?_,λ x c e=>?_,λ p hp=>?_,hok,I.len⟩
  . exact keep b o (neL b o e) hb (neC b o e hx) (I.base.keep b o e n hb hx) (I.base.free b o e n hx)
  . obtain⟨sl,e1⟩:=I.base.slot b o e n hb hx;obtain⟨sl',e2⟩:=slot b _ (neL b o e) hb (neC b o e hx) e1 (I.base.free b o e n hx);exact⟨sl',e2⟩
  . obtain⟨o',e1⟩:=I.base.there b o e hx;exact free b o' (neC b o e hx) e1 (I.base.free b o e n hx)
  . obtain⟨o',e1⟩:=I.base.there b o e hx;exact there b o' (neC b o e hx) e1
  . obtain⟨m1,e1⟩:=I.base.tbls b ps e;obtain⟨m2,e2⟩:=tbls b _ e1;exact⟨m1++m2,by rw[e2,Array.append_assoc]⟩
  . obtain⟨m,hn,hl⟩:=I.loc;refine⟨m,ns m hn,λ i x v e1 e2 e3=>?_⟩;obtain⟨u,r,l⟩:=hl i x v e1 e2 e3;refine⟨u,r,?_⟩;rcases l with l|⟨k,c,e,z⟩
    . exact .inl l
    . exact .inr ⟨k,c,e,cellK x c e _ z⟩
  . obtain⟨v,z⟩:=I.cell x c e;exact⟨v,cellK x c e v z⟩
  . obtain⟨m,⟨o,_,_,ho,_⟩,_⟩:=I.loc;exact free _ o (λ z=>(hch _ z).2.1 rfl) ho I.free
  . obtain⟨v,o,ho,hd⟩:=I.cell x c e;exact free c o (λ z=>(hch c z).2.2.1 x c e rfl) ho (I.freeC x c e)
  . obtain⟨e,n,ne,nf,d⟩:=I.pin p hp;have nch:p.1∉ch:=λ z=>(hch p.1 z).2.2.2 p hp rfl;exact⟨keep p.1 p.2 ne nf nch e n,free p.1 p.2 nch e n,ne,nf,d⟩
theorem Inv.un {t':Nat}(I:Inv X pins σ H s)(u:Un X.fs [] H H' s.heap h')(hok:HOk X.prog X.w H' h'):Inv X pins σ H' { s with heap:=h',toks:=t' }:=by
  obtain⟨m,⟨o,es,ep,ho,r⟩,_⟩:=id I.loc;obtain⟨sl,hL⟩:=u.any ho I.free (by simp);exact I.step (g':=s.gens) (d':=s.drawn) (ch:=[]) (λ _ z=>nomatch z) (λ b o _ hb _ e n=>u.keep b o e n hb (by simp)) (λ b o _ hb _ e n=>u.slot b o e n hb (by simp)) (λ b o _ e n=>u.free b o e n (by simp)) (λ b o _ e=>u.there b o e (by simp)) u.tups u.frzs u.tbls (λ m' hm=>by
    obtain⟨o',es',ep',ho',r'⟩:=hm;rw[ho]at ho';cases ho';exact⟨_,es',ep',hL,r'⟩) hok I.bare
theorem Inv.call {g':Array GenState}{t':Nat}{d':Drawn}{ch:List Addr}(I:Inv X pins σ H s)(u:Un (frs X.stack) ch H H' s.heap h')(hok:HOk X.prog X.w H' h')(hg:AllBare g')(hch:∀ b∈ch,(b∈X.ex\/X.s₀.heap.objs.size<=b)/\b≠X.env.locals/\(∀ x c,X.env.cells.lookup x=some c->c≠b)/\∀ p∈X.pn++pins,p.1≠b) :
    Inv X pins σ H' { s with heap:=h',gens:=g',drawn:=d',toks:=t' }:=by
  obtain⟨m,⟨o,es,ep,ho,r⟩,_⟩:=id I.loc;obtain⟨sl,hL⟩:=u.any ho I.free λ z=>(hch _ z).2.1 rfl;exact I.step (ch:=ch) hch (λ b o hL hb hc e n=>u.keep b o e n (λ z=>(List.mem_cons.mp (I.stkSub b z)).elim hL hb) hc) (λ b o _ _ hc e n=>u.any e n hc) (λ b o hc e n=>u.free b o e n hc) (λ b o hc e=>u.there b o e hc) u.tups u.frzs u.tbls (λ m' hm=>by
    obtain⟨o',es',ep',ho',r'⟩:=hm;rw[ho]at ho';cases ho';exact⟨_,es',ep',hL,r'⟩) hok hg
theorem Inv.turned {t':Nat}{it:Addr}(I:Inv X pins σ H s)(k:∀ b o,b≠it->s.heap.get? b=some o->h'.get? b=some o)(hn:H it=none)(hL:it≠X.env.locals)(h1:it∈X.ex\/X.s₀.heap.objs.size<=it)(h2:∀ x c,X.env.cells.lookup x=some c->c≠it)(h3:∀ p∈X.pn++pins,p.1≠it):Inv X pins σ H { s with heap:=h',toks:=t' }:=by
  have nit:∀ b u,H b=some u->b≠it:=λ b u e z=>by rw[z,hn]at e;cases e
  refine I.step (g':=s.gens) (d':=s.drawn) (ch:=[it]) (λ b hb=>?_) (λ b o _ _ hc e _=>k b o (λ z=>hc (by simp[z])) e) (λ b o _ _ hc e _=>⟨o.slots,k b o (λ z=>hc (by simp[z])) e⟩) (λ _ _ _ _ n=>n)
    (λ b o hc e=>⟨o,k b o (λ z=>hc (by simp[z])) e⟩) (λ _ _ e=>e) (λ _ _ _ e=>e) (λ b ps e=>⟨#[],by rw[e];simp⟩) (λ m hm=>?_) (λ b u e=>?_) I.bare
  . have e:b=it:=by simpa using hb
    subst e;exact⟨h1,hL,h2,h3⟩
  . obtain⟨o,es,ep,ho,r⟩:=hm;exact⟨o,es,ep,k _ o (Ne.symm hL) ho,r⟩
  . refine(I.hok b u e).stay (λ c v hc q=>k c v ?_ q) (λ _ q=>q) λ _ _ q=>q;rcases hc with z|z
    . rw[z];exact nit b u e
    . exact nit c _ z
theorem Inv.tok (I:Inv X pins σ H s)(t:Nat):Inv X pins σ H { s with toks:=t }:=I.un (h':=s.heap) (t':=t) Un.refl I.hok
theorem Inv.kept {t':Nat}(I:Inv X pins σ H s)(k:∀ b u,s.heap.get? b=some u->h'.get? b=some u):Inv X pins σ H { s with heap:=h',toks:=t' }:=I.un (Un.kept k) (I.hok.kept k)
theorem Inv.laid {a:Addr}{o:HO}{t':Nat}(I:Inv X pins σ H s)(k:∀ b u,s.heap.get? b=some u->h'.get? b=some u)(hp:s.heap.objs.size<=a)(new:Yw X.prog X.w (upd H a o) h' a o) :
    Inv X pins σ (upd H a o) { s with heap:=h',toks:=t' }:=I.un (Un.laid k hp (I.hok.fresh hp)) (I.hok.laid k hp new)
theorem Inv.write {x e:Addr}{o:HO}{t':Nat}(I:Inv X pins σ H s)(mu:Mut (H x))(he:e=x\/H e=some (.own x))(k:∀ b u,b≠e->s.heap.get? b=some u->h'.get? b=some u)(heo:∃ u,h'.get? e=some u)(new:Yw X.prog X.w (upd H x o) h' x o):Inv X pins σ (upd H x o) { s with heap:=h',toks:=t' }:=I.un (Un.write mu he k heo) (I.hok.write mu he k heo new)
theorem Inv.pins_of {pins':List (Addr×Obj)}(I:Inv X pins σ H s)(h:∀ p∈pins',s.heap.get? p.1=some p.2/\H p.1=none/\p.1≠X.env.locals/\p.1∉X.fs/\∀ v,p.2.data ≠ .cell v):Inv X pins' σ H s:=
 ⟨I.ok,I.os,I.bare,I.base,I.loc,I.cell,I.free,I.freeC,λ p hp=>(List.mem_append.mp hp).elim (λ z=>I.pin p (mem_append_left _ z)) (h p),I.hok,I.len⟩
theorem ZjG {N:List Str}(hN:N.Nodup){i j:Nat}{x:Str}(a:N[i]? = some x)(b:N[j]? = some x):i=j:=by
 obtain⟨h1,e1⟩:=List.getElem?_eq_some_iff.mp a;obtain⟨h2,e2⟩:=List.getElem?_eq_some_iff.mp b;exact(List.getElem_inj hN).mp (e1.trans e2.symm)
theorem Zhr {M:Model}{A:Around}{E:Value->Shared->Prop}{i:Nat}{x:Str}{v:V}{u:Value}{Q:Unit->Shared->Prop}(I:Inv X pins σ H s)(hN:X.N.Nodup)(hi:X.N[i]? = some x)(hx:Loc X.env.scope x)(r:ZI v u)(h:∀ s',Inv X pins (σ.set i (some v)) H s'->(∃ a,Heap.SameBut a s.heap s'.heap/\(a=X.env.locals\/X.env.cells.lookup x=some a))->Q () s')(hf:X.fn x=true\/X.env.scope.names.lookup x=some .local:=by first|exact .inl rfl|exact .inr rfl|assumption):wpAny M A (storeName X.env x u) Q E s:=by
  obtain⟨m,hn,hl⟩:=id I.loc;have hcls:(X.env.scope.kind == .class || (X.env.scope.kind == .module && X.env.locals != X.env.globals))=false:=by rw[I.ok.kind];rfl
  have hiσ:i<σ.length:=by rw[I.len];exact(List.getElem?_eq_some_iff.mp hi).1
  have cne:=I.cne;have tracked:∀ {a:Addr} {h':Heap},(∃ o,s.heap.get? a=some o/\H a=none)->Heap.SameBut a s.heap h'->HOk X.prog X.w H h':=λ {a h'} ha hs b ob e=>by
    obtain⟨_,_,hfree⟩:=ha;refine(I.hok b ob e).stay (λ c w' hc q=>(hs.2 c ?_).trans q) (λ _ q=>q) λ _ _ q=>q;rintro rfl;rcases hc with rfl|hc
    . rw[hfree]at e;cases e
    . rw[hfree]at hc;cases hc
  rcases hx with hk|hk
  . refine wpAny_storeName_local hk hn (λ h' hn' hs=>?_) hcls;obtain⟨oL,_,_,hoL,_⟩:=id hn;refine h _ ⟨I.ok,I.os,I.bare,⟨λ b o e n hb hx=>?_,λ b o e n hb hx=>?_,I.base.free,λ b o e hx=>?_,I.base.tups,I.base.frzs,I.base.tbls⟩,⟨_,hn',λ j y v' e1 e2 e3=>?_⟩,λ y c e=>?_,I.free,I.freeC,λ p hp=>?_,tracked ⟨oL,hoL,I.free⟩ hs,by simpa using I.len⟩ ⟨_,hs, .inl rfl⟩
    . exact(hs.2 b (ne_of_lt (lt_of_lt_of_le (Heap.lt_size e) I.ok.above))).trans (I.base.keep b o e n hb hx)
    . obtain⟨sl,e1⟩:=I.base.slot b o e n hb hx;exact⟨sl,(hs.2 b (ne_of_lt (lt_of_lt_of_le (Heap.lt_size e) I.ok.above))).trans e1⟩
    . obtain⟨o',e1⟩:=I.base.there b o e hx;exact⟨o',(hs.2 b (ne_of_lt (lt_of_lt_of_le (Heap.lt_size e) I.ok.above))).trans e1⟩
    . by_cases hj:j=i
      . subst hj;rw[hi]at e1;cases e1;rw[List.getElem?_set_self hiσ]at e2;cases e2;exact⟨u,r, .inl ⟨hk,by simp⟩⟩
      . rw[List.getElem?_set_ne (Ne.symm hj)]at e2;obtain⟨u',r',q⟩:=hl j y v' e1 e2 e3;refine⟨u',r',?_⟩;rcases q with ⟨k,e⟩|⟨k,c,e,z⟩
        . refine .inl ⟨k,?_⟩;have:y≠x:=λ e=>hj (ZjG hN e1 (e▸hi));simp[this,e]
        . exact .inr ⟨k,c,e,z.sameBut hs (cne y c e)⟩
    . obtain⟨w',z⟩:=I.cell y c e;exact⟨w',z.sameBut hs (cne y c e)⟩
    . obtain⟨e,n,ne,nf,d⟩:=I.pin p hp;exact⟨(hs.2 p.1 ne).trans e,n,ne,nf,d⟩
  . have hfn:X.fn x=true:=by
      rcases hf with z|z
      . exact z
      . rw[z]at hk;cases hk
    obtain⟨c,hc⟩:=I.ok.has x (.inl hk);obtain⟨w',z⟩:=I.cell x c hc;refine wpAny_storeName_cell I.ok.kind hk hc z (λ h' hc' hs=>?_);obtain⟨oc,hoc,hocd⟩:=id z;refine h { s with heap:=h' } ⟨I.ok,I.os,I.bare,⟨λ b o e n hb hx=>?_,λ b o e n hb hx=>?_,I.base.free,λ b o e hx=>?_,I.base.tups,I.base.frzs,I.base.tbls⟩,⟨m,hn.sameBut hs (Ne.symm (cne x c hc)),λ j y v' e1 e2 e3=>?_⟩,λ y c' e=>?_,I.free,I.freeC,λ p hp=>?_,tracked ⟨oc,hoc,I.freeC x c hc⟩ hs,by simpa using I.len⟩ ⟨c,hs, .inr hc⟩
    . exact(hs.2 b (ne_of_lt (lt_of_lt_of_le (Heap.lt_size e) (I.ok.cab x c hfn hc)))).trans (I.base.keep b o e n hb hx)
    . obtain⟨sl,e1⟩:=I.base.slot b o e n hb hx;exact⟨sl,(hs.2 b (ne_of_lt (lt_of_lt_of_le (Heap.lt_size e) (I.ok.cab x c hfn hc)))).trans e1⟩
    . obtain⟨o',e1⟩:=I.base.there b o e hx;exact⟨o',(hs.2 b (ne_of_lt (lt_of_lt_of_le (Heap.lt_size e) (I.ok.cab x c hfn hc)))).trans e1⟩
    . by_cases hj:j=i
      . subst hj;rw[hi]at e1;cases e1;rw[List.getElem?_set_self hiσ]at e2;cases e2;exact⟨u,r, .inr ⟨.inl hk,c,hc,hc'⟩⟩
      . rw[List.getElem?_set_ne (Ne.symm hj)]at e2;obtain⟨u',r',q⟩:=hl j y v' e1 e2 e3;refine⟨u',r',?_⟩;rcases q with q|⟨k,c',e,z'⟩
        . exact .inl q
        . refine .inr ⟨k,c',e,z'.sameBut hs ?_⟩;rintro rfl;exact hj (ZjG hN e1 (I.ok.inj _ _ _ e hc▸hi))
    . by_cases hcc:c'=c
      . subst hcc;exact⟨_,hc'⟩
      . obtain⟨w2,z2⟩:=I.cell y c' e;exact⟨w2,z2.sameBut hs hcc⟩
    . obtain⟨e,n,ne,nf,d⟩:=I.pin p hp;refine⟨(hs.2 p.1 ?_).trans e,n,ne,nf,d⟩;intro q;rw[q,hoc]at e;have q':oc=p.2:=Option.some.inj e;exact d w' (by rw[<- q'];exact hocd)
theorem Zan {M:Model}{A:Around}{E:Value->Shared->Prop}{i:Nat}{x:Str}{v:V}{u:Value}{Q:Unit->Shared->Prop}(I:Inv X pins σ H s)(hN:X.N.Nodup)(hi:X.N[i]? = some x)(hx:Loc X.env.scope x)(r:ZI v u)(h:∀ s',Inv X pins (σ.set i (some v)) H s'->Q () s')(hf:X.fn x=true\/X.env.scope.names.lookup x=some .local:=by first|exact .inl rfl|exact .inr rfl|assumption):wpAny M A (storeName X.env x u) Q E s:=
 Zhr I hN hi hx r (λ s' I' _=>h s' I') hf
theorem Inv.call' {s':Shared}{ch:List Addr}(I:Inv X pins σ H s)(ho:s'.os=s.os)(u:Un (frs X.stack) ch H H' s.heap s'.heap)(hok:HOk X.prog X.w H' s'.heap)(hg:AllBare s'.gens)(hch:∀ b∈ch,(b∈X.ex\/X.s₀.heap.objs.size<=b)/\b≠X.env.locals/\(∀ x c,X.env.cells.lookup x=some c->c≠b)/\∀ p∈X.pn++pins,p.1≠b):Inv X pins σ H' s':=by
 obtain⟨h',g',d',t',o'⟩:=s';have e:o'=s.os:=ho;subst e;exact I.call (g':=g') (t':=t') (d':=d') u hok hg hch
end
noncomputable abbrev XK:=Value->Option Addr->Hp->Prop
noncomputable abbrev St:=List (Option V)
noncomputable abbrev VK:=V->Hp->Prop
noncomputable abbrev TE:=St->Hp->VK->Prop
noncomputable abbrev TT:=St->Hp->(Bool->Hp->Prop)->Prop
noncomputable abbrev TA:=St->Hp->(List V->Hp->Prop)->Prop
structure Ends where
  nx:St->Hp->Prop
  rt:VK
  bk:St->Hp->Prop:=λ _ _=>False
  ct:St->Hp->Prop:=λ _ _=>False
noncomputable abbrev TS:=Ends->St->Hp->Prop
noncomputable def EP (X:Cx)(pins:List (Addr×Obj))(σ:St)(Q:VK)(u:Value)(s':Shared):Prop:=∃ v H',Inv X pins σ H' s'/\ZI v u/\Q v H'
noncomputable def TP (X:Cx)(pins:List (Addr×Obj))(σ:St)(Q:Bool->Hp->Prop)(b:Bool)(s':Shared):Prop:=∃ H',Inv X pins σ H' s'/\Q b H'
noncomputable def AP (X:Cx)(pins:List (Addr×Obj))(σ:St)(Q:List V->Hp->Prop)(us:List Value)(s':Shared):Prop:=∃ vs H',Inv X pins σ H' s'/\ZJ vs us/\Q vs H'
noncomputable def SP (X:Cx)(pins:List (Addr×Obj))(D:Ends)(f:Flow)(s':Shared):Prop:=
  match f with
  |.next=>∃ σ' H',Inv X pins σ' H' s'/\D.nx σ' H'
  |.brk=>∃ σ' H',Inv X pins σ' H' s'/\D.bk σ' H'
  |.cont=>∃ σ' H',Inv X pins σ' H' s'/\D.ct σ' H'
  |.ret u=>∃ v σ' H',Inv X pins σ' H' s'/\ZI v u/\D.rt v H'
noncomputable abbrev PEb (X:Cx)(e:Expr)(t:TE):Prop:=
  ∀(pins:List (Addr×Obj))(s:Shared)(σ:St)(H:Hp)(Q:VK),Inv X pins σ H s->t σ H Q->wpAny (model X.prog X.w) X.A (eval e X.env) (EP X pins σ Q) X.xe s
structure PE (X:Cx)(e:Expr)(t:TE):Prop where
  go:PEb X e t
instance {X:Cx}{e:Expr}{t:TE}:CoeFun (PE X e t) λ _=>PEb X e t:=⟨PE.go⟩
noncomputable abbrev PTb (X:Cx)(e:Expr)(t:TT):Prop:=
  ∀(pins:List (Addr×Obj))(s:Shared)(σ:St)(H:Hp)(Q:Bool->Hp->Prop),Inv X pins σ H s->t σ H Q->wpAny (model X.prog X.w) X.A (isTrue e X.env (eval e X.env)) (TP X pins σ Q) X.xe s
structure PT (X:Cx)(e:Expr)(t:TT):Prop where
  go:PTb X e t
instance {X:Cx}{e:Expr}{t:TT}:CoeFun (PT X e t) λ _=>PTb X e t:=⟨PT.go⟩
noncomputable abbrev PWb (X:Cx)(e:Expr)(t:TT):Prop:=
  ∀(whole:Sem Value)(pins:List (Addr×Obj))(s:Shared)(σ:St)(H:Hp)(Q:Bool->Hp->Prop),Inv X pins σ H s->t σ H Q->wpAny (model X.prog X.w) X.A (isTrue e X.env whole) (TP X pins σ Q) X.xe s
structure PW (X:Cx)(e:Expr)(t:TT):Prop where
  go:PWb X e t
instance {X:Cx}{e:Expr}{t:TT}:CoeFun (PW X e t) λ _=>PWb X e t:=⟨PW.go⟩
theorem PW.pt {X:Cx}{e:Expr}{t:TT}(h:PW X e t):PT X e t:=⟨h _⟩
noncomputable abbrev PAb (X:Cx)(es:List Expr)(t:TA):Prop:=
  ∀(pos:Pos)(pins:List (Addr×Obj))(s:Shared)(σ:St)(H:Hp)(Q:List V->Hp->Prop),Inv X pins σ H s->t σ H Q->wpAny (model X.prog X.w) X.A (spliced (backTo pos (starEach es X.env))) (AP X pins σ Q) X.xe s
structure PA (X:Cx)(es:List Expr)(t:TA):Prop where
  go:PAb X es t
instance {X:Cx}{es:List Expr}{t:TA}:CoeFun (PA X es t) λ _=>PAb X es t:=⟨PA.go⟩
noncomputable abbrev PSb (X:Cx)(st:Stmt)(t:TS):Prop:=
  ∀(pins:List (Addr×Obj))(s:Shared)(σ:St)(H:Hp)(D:Ends),Inv X pins σ H s->t D σ H->wpAny (model X.prog X.w) X.A (exec st X.env) (SP X pins D) X.xe s
structure PS (X:Cx)(st:Stmt)(t:TS):Prop where
  go:PSb X st t
instance {X:Cx}{st:Stmt}{t:TS}:CoeFun (PS X st t) λ _=>PSb X st t:=⟨PS.go⟩
noncomputable abbrev PSsb (X:Cx)(st:List Stmt)(t:TS):Prop:=
  ∀(pins:List (Addr×Obj))(s:Shared)(σ:St)(H:Hp)(D:Ends),Inv X pins σ H s->t D σ H->wpAny (model X.prog X.w) X.A (execs st X.env) (SP X pins D) X.xe s
structure PSs (X:Cx)(st:List Stmt)(t:TS):Prop where
  go:PSsb X st t
instance {X:Cx}{st:List Stmt}{t:TS}:CoeFun (PSs X st t) λ _=>PSsb X st t:=⟨PSs.go⟩
theorem thn {α:Type}{t:Sem α}{Q Q':α->Shared->Prop}{M:Model}{A:Around}{E:Value->Shared->Prop}{s:Shared}(h:wpAny M A t Q E s)(hQ:∀ a s,Q a s->Q' a s):wpAny M A t Q' E s:=wpAny_mono h hQ λ _ _ x=>x
open PySem PySem.Spec PyProof.Rows
section
variable {X:Cx}
noncomputable def Zg9 (i:Nat):TE:=λ σ H Q=>∃ v,σ[i]? = some (some v)/\Q v H
noncomputable def tC (v:V):TE:=λ _ H Q=>Q v H
theorem pe_var {i:Nat}{x:Str}{pos:Pos}(hN:X.N[i]? = some x)(hv:Vis X.env.scope x)(hd:(x == ("__debug__":Str))=false:=by decide)(hcd:(x == ("__classdict__":Str))=false:=by decide):PE X (.Name x pos) (Zg9 i):=by
  refine⟨?_⟩;intro pins s σ H Q I h;obtain⟨v,e,h⟩:=h;obtain⟨m,hn,hl⟩:=I.loc;obtain⟨u,r,l⟩:=hl i x v hN e hv;have fin:EP X pins σ Q u s:=⟨v,H,I,r,h⟩;rcases l with ⟨hk,hm⟩|⟨hk,c,hc,hcell⟩
  . exact wpAny_Name (wpAny_loadName_local I.ok.kind hk hn hm fin) hd
  . rcases hk with hk|hk
    . exact wpAny_Name (wpAny_loadName_cell I.ok.kind hk hc hcell fin) hd
    . exact wpAny_Name (wpAny_loadName_free I.ok.kind hk hc hcell fin hcd) hd
theorem Zd {i j pos}:PE X (.Constant (.int i) j pos) (tC (.int i)):=⟨λ _ _ _ H _ I h=>wpAny_Constant_int ⟨.int i,H,I.tok _,⟨_,rfl⟩,h⟩⟩
theorem Xx {b j pos}:PE X (.Constant (.bool b) j pos) (tC (.bl b)):=⟨λ _ _ _ H _ I h=>Constant_bool ⟨.bl b,H,I,rfl,h⟩⟩
theorem pe_non {j pos}:PE X (.Constant .none j pos) (tC .non):=⟨λ _ _ _ H _ I h=>Constant_none ⟨.non,H,I,rfl,h⟩⟩
theorem Zl {x j pos}:PE X (.Constant (.str x) j pos) (tC (.str x)):=⟨λ _ _ _ H _ I h=>Calls.Constant_str ⟨.str x,H,I.tok _,⟨_,rfl⟩,h⟩⟩
noncomputable def Gl (X:Cx)(x:Str):Prop:=X.env.kindOf x=some .globalImplicit
theorem Zea {E:Value->Shared->Prop}{pins:List (Addr×Obj)}{s:Shared}{σ:St}{H:Hp}{x:Str}{u:Value}{pos:Pos}{Q:Value->Shared->Prop}(I:Inv X pins σ H s)(hg:Gl X x)(hm:X.mg x=some u)(h:Q u s)(hd:(x == ("__debug__":Str))=false:=by decide):wpAny (model X.prog X.w) X.A (eval (.Name x pos) X.env) Q E s:=
 Calls.Name_function_global I.ok.kind hg (Calls.loadGlobal_global (by rw[I.ok.glob];exact I.mod.glob.keeps I.bk) hm h) hd
theorem ZiI {E:Value->Shared->Prop}{pins:List (Addr×Obj)}{s:Shared}{σ:St}{H:Hp}{x:Str}{u:Value}{pos:Pos}{Q:Value->Shared->Prop}(I:Inv X pins σ H s)(hg:Gl X x)(hm:X.mg x=none)(hv:bootBuiltins x=some u)(h:Q u s)(hn:x≠"__name__":=by decide)(hd:(x == ("__debug__":Str))=false:=by decide):wpAny (model X.prog X.w) X.A (eval (.Name x pos) X.env) Q E s:=by
 obtain⟨mb,h1,h2⟩:=I.mod.blt;exact Calls.Name_function_global I.ok.kind hg (Calls.loadGlobal_builtin (by rw[I.ok.glob];exact I.mod.glob.keeps I.bk) hm (by rw[I.ok.blt];exact h1.keeps I.bk) ((h2 x hn).trans hv) h) hd
theorem ZA {x:Str}{v:V}{u:Value}{pos:Pos}(hg:Gl X x)(hm:X.mg x=some u)(r:ZI v u)(hd:(x == ("__debug__":Str))=false:=by decide):PE X (.Name x pos) (tC v):=
 ⟨λ _ _ _ H _ I h=>Zea I hg hm ⟨v,H,I,r,h⟩ hd⟩
theorem Zd2 {x:Str}{v:V}{u:Value}{pos:Pos}(hg:Gl X x)(hm:X.mg x=none)(hv:bootBuiltins x=some u)(r:ZI v u)(hn:x≠"__name__":=by decide)(hd:(x == ("__debug__":Str))=false:=by decide):PE X (.Name x pos) (tC v):=
 ⟨λ _ _ _ H _ I h=>ZiI I hg hm hv ⟨v,H,I,r,h⟩ hn hd⟩
variable {a b:Expr}{ta tb:TE}{pos:Pos}
noncomputable abbrev PCb (X:Cx)(op:CmpOp)(a b:Expr)(t:TE):Prop:=
  ∀(pins:List (Addr×Obj))(s:Shared)(σ:St)(H:Hp)(Q:VK),Inv X pins σ H s->t σ H Q ->
    wpAny (model X.prog X.w) X.A (eval a X.env) (λ v s₁=>wpAny (model X.prog X.w) X.A (eval b X.env) (λ u s₂=>wpAny (model X.prog X.w) X.A (compareOp op v u) (EP X pins σ Q) X.xe s₂) X.xe s₁) X.xe s
structure PC (X:Cx)(op:CmpOp)(a b:Expr)(t:TE):Prop where
  go:PCb X op a b t
instance {X:Cx}{op:CmpOp}{a b:Expr}{t:TE}:CoeFun (PC X op a b t) λ _=>PCb X op a b t:=⟨PC.go⟩
noncomputable def tB (t:TE):TT:=λ σ H Q=>t σ H λ x H1=>∃ c,x = .bl c/\Q c H1
theorem Zdf {op:CmpOp}{t:TE}(h:PC X op a b t)(h1:behindInMarks op b=false:=by first|exact nobehind _ (by decide) (by decide)|rfl):PE X (.Compare a [op] [b] pos) t:=⟨λ pins s σ H Q I hw=>wpAny_Compare1 (h pins s σ H Q I hw) h1⟩
theorem YM {op:CmpOp}{t:TE}(h:PC X op a b t)(h1:behindInMarks op b=false:=by first|exact nobehind _ (by decide) (by decide)|rfl):PT X (.Compare a [op] [b] pos) (tB t):=by
 refine⟨?_⟩;intro pins s σ H Q I hw;refine wpAny_isTrue_Compare1 (thn (h pins s σ H _ I hw) λ v s1 h1=>thn h1 λ u s2 h2=>thn h2 λ c s3 zz9=>?_) h1;obtain⟨x,H1,I1,r1,q1⟩:=zz9;obtain⟨d,rfl,q⟩:=q1;cases r1;exact wpAny_truthy_bool ⟨H1,I1,q⟩
theorem ZS {e:Expr}{t:TE}(h:PE X e t)(he:∀ whole,isTrue e X.env whole=(do let v <- whole;standAt e.pos;holding [v] (truthy v)):=by intro _;rfl):PT X e (tB t):=by
 refine⟨?_⟩;intro pins s σ H Q I hw;refine isTrue_plain (thn (h pins s σ H _ I hw) λ v s1 ⟨x,H1,I1,r1,q1⟩=>?_) (he _);obtain⟨d,rfl,q⟩:=q1;cases r1;exact wpAny_truthy_bool ⟨H1,I1,q⟩
variable {tA tB':TT}{Zew:List Expr}
noncomputable def tAnd (t u:TT):TT:=λ σ H Q=>t σ H λ c H1=>if c=true then u σ H1 Q else Q false H1
noncomputable def tOr (t u:TT):TT:=λ σ H Q=>t σ H λ c H1=>if c=true then Q true H1 else u σ H1 Q
noncomputable def tNot (t:TT):TT:=λ σ H Q=>t σ H λ c H1=>Q (!c) H1
theorem Xh (ha:PT X a tA):PW X (.BoolOp .And [a] pos) tA:=by
  refine⟨?_⟩;intro wh pins s σ H Q I h;refine isTrue_and (thn (ha pins s σ H Q I h) λ c s1 e=>?_);cases c with
  |true=>exact isTrue_and_nil e
  |false=>exact e
theorem Xm (ha:PT X a tA):PW X (.BoolOp .Or [a] pos) tA:=by
  refine⟨?_⟩;intro wh pins s σ H Q I h;refine isTrue_or (thn (ha pins s σ H Q I h) λ c s1 e=>?_);cases c with
  |false=>exact isTrue_or_nil e
  |true=>exact e
theorem XL (ha:PT X a tA)(hb:PW X (.BoolOp .And (b::Zew) pos) tB'):PW X (.BoolOp .And (a::b::Zew) pos) (tAnd tA tB'):=by
  refine⟨?_⟩;intro wh pins s σ H Q I h;refine isTrue_and (thn (ha pins s σ H _ I h) λ c s1 zz9=>?_);obtain⟨H1,I1,q1⟩:=zz9;cases c with
  |true=>exact hb wh pins s1 σ H1 Q I1 q1
  |false=>exact⟨H1,I1,q1⟩
theorem Jd (ha:PT X a tA)(hb:PW X (.BoolOp .Or (b::Zew) pos) tB'):PW X (.BoolOp .Or (a::b::Zew) pos) (tOr tA tB'):=by
  refine⟨?_⟩;intro wh pins s σ H Q I h;refine isTrue_or (thn (ha pins s σ H _ I h) λ c s1 zz9=>?_);obtain⟨H1,I1,q1⟩:=zz9;cases c with
  |true=>exact⟨H1,I1,q1⟩
  |false=>exact hb wh pins s1 σ H1 Q I1 q1
theorem Y7 (ha:PT X a tA):PT X (.UnaryOp .Not a pos) (tNot tA):=by
 refine⟨?_⟩;intro pins s σ H Q I h;exact isTrue_not (ha pins s σ H (λ c H1=>Q (!c) H1) I h)
noncomputable def tAndV (ta tb:TE):TE:=λ σ H Q=>ta σ H λ x H1=>∃ c,x = .bl c/\if c=true then tb σ H1 Q else Q (.bl false) H1
noncomputable def tOrV (ta tb:TE):TE:=λ σ H Q=>ta σ H λ x H1=>∃ c,x = .bl c/\if c=true then Q (.bl true) H1 else tb σ H1 Q
noncomputable def tNotV (ta:TE):TE:=λ σ H Q=>ta σ H λ x H1=>∃ c,x = .bl c/\Q (.bl (!c)) H1
theorem JD {op}{t:TE}(h:PE X a t):PE X (.BoolOp op [a] pos) t:=⟨λ pins s σ H Q I hw=>BoolOp_one (h pins s σ H Q I hw)⟩
theorem X8 (ha:PE X a ta)(hb:PE X (.BoolOp .And (b::Zew) pos) tb):PE X (.BoolOp .And (a::b::Zew) pos) (tAndV ta tb):=by
  refine⟨?_⟩;intro pins s σ H Q I h;refine BoolOp_and (thn (ha pins s σ H _ I h) λ v s1 zz9=>?_);obtain⟨x,H1,I1,r1,q1⟩:=zz9;obtain⟨c,rfl,q1⟩:=q1;cases r1;refine wpAny_truthy_bool ?_;cases c with
  |true=>exact hb pins s1 σ H1 Q I1 q1
  |false=>exact⟨.bl false,H1,I1,rfl,q1⟩
theorem pe_or (ha:PE X a ta)(hb:PE X (.BoolOp .Or (b::Zew) pos) tb):PE X (.BoolOp .Or (a::b::Zew) pos) (tOrV ta tb):=by
  refine⟨?_⟩;intro pins s σ H Q I h;refine BoolOp_or (thn (ha pins s σ H _ I h) λ v s1 zz9=>?_);obtain⟨x,H1,I1,r1,q1⟩:=zz9;obtain⟨c,rfl,q1⟩:=q1;cases r1;refine wpAny_truthy_bool ?_;cases c with
  |false=>exact hb pins s1 σ H1 Q I1 q1
  |true=>exact⟨.bl true,H1,I1,rfl,q1⟩
theorem pe_not (ha:PE X a ta):PE X (.UnaryOp .Not a pos) (tNotV ta):=by
 refine⟨?_⟩;intro pins s σ H Q I h;refine UnaryOp_ (thn (ha pins s σ H _ I h) λ v s1 zz9=>?_);obtain⟨x,H1,I1,r1,q1⟩:=zz9;obtain⟨c,rfl,q1⟩:=q1;cases r1;exact not_of (wpAny_truthy_bool ⟨.bl (!c),H1,I1,rfl,q1⟩)
noncomputable def tIf (t:TT)(ta tb:TE):TE:=λ σ H Q=>t σ H λ c H1=>if c=true then ta σ H1 Q else tb σ H1 Q
theorem Y9 {c:Expr}(hc:PT X c tA)(ha:PE X a ta)(hb:PE X b tb):PE X (.IfExp c a b pos) (tIf tA ta tb):=by
  refine⟨?_⟩;intro pins s σ H Q I h;refine wpAny_IfExp (thn (hc pins s σ H _ I h) λ d s1 zz9=>?_);obtain⟨H1,I1,q1⟩:=zz9;cases d with
  |true=>exact ha pins s1 σ H1 Q I1 q1
  |false=>exact hb pins s1 σ H1 Q I1 q1
end
open PySem PySem.Spec PyProof.Rows
noncomputable def SqL (K:Frag)(H:Hp)(a:Addr)(xs:List V):Prop:=
  Rd H a (.lst xs) \/
    ∃(o:Obj)(its:Array Value)(n:Nat),K.lookup a=some o/\o.cls = .type "list"/\o.dict=none/\o.data = .seq its n/\its.size<=sizeLine/\ZJ xs its.toList
noncomputable def SqT (K:Frag)(H:Hp)(a:Addr)(xs:List V):Prop:=
  Rd H a (.tup xs) \/
    ∃(o:Obj)(its:Array Value)(n:Nat),K.lookup a=some o/\o.cls = .type "tuple"/\o.data = .seq its n/\its.size<=sizeLine/\ZJ xs its.toList
noncomputable def absV:Value->Option V
  |.none=>some .non
  |.bool b=>some (.bl b)
  |.int i _=>some (.int i)
  |.str x _=>some (.str x)
  |.bytes b _=>some (.byt b)
  |.float b _=>some (.flt b)
  |.ref a=>some (.ref a)
  |.type n=>some (.ty n)
  |_=>none
theorem ZI.abs {x:V}{u:Value}(r:ZI x u):absV u=some x:=by
  cases x with
  |non=>cases r;rfl
  |bl _=>cases r;rfl
  |int _=>obtain⟨t,rfl⟩:=r;rfl
  |str _=>obtain⟨t,rfl⟩:=r;rfl
  |byt _=>obtain⟨t,rfl⟩:=r;rfl
  |flt _=>obtain⟨t,rfl⟩:=r;rfl
  |ref _=>cases r;rfl
  |ty _=>cases r;rfl
theorem ZI.inj {x y:V}{u:Value}(r:ZI x u)(q:ZI y u):x=y:=Option.some.inj (r.abs.symm.trans q.abs)
theorem ZJ.inj:∀ {xs ys:List V} {us:List Value},ZJ xs us->ZJ ys us->xs=ys
  |_,_,_, .nil, .nil=>rfl
  |_,_,_, .cons r t, .cons r' t'=>by rw[r.inj r',ZJ.inj t t']
section
variable {X:Cx}{pins:List (Addr×Obj)}{σ:St}{H:Hp}{s:Shared}{a:Addr}{xs ys:List V}
theorem SqL.of {K:Frag}(h:H a=some (.lst xs)):SqL K H a xs:=.inl (.inl h)
theorem SqT.of {K:Frag}(h:H a=some (.tup xs)):SqT K H a xs:=.inl (.inl h)
theorem Inv.list (I:Inv X pins σ H s)(h:SqL X.K H a xs):∃ its:List Value,ZJ xs its/\PlainL s.heap a its.toArray/\xs.length<=sizeLine:=by
  rcases h with h|⟨o,its,n,hk,hc,hd,hs,hz,r⟩
  . obtain⟨z,its,n,r,e⟩:=h.ok I.hok;exact⟨its,r,⟨_,n,e,rfl,rfl,rfl⟩,z⟩
  . refine⟨its.toList,r,⟨o,n,I.kIn a o hk,hc,hd,by simpa using hs⟩,?_⟩;have e:=r.length;simp only[length_toList]at e;omega
theorem Inv.tuple (I:Inv X pins σ H s)(h:SqT X.K H a xs):∃ its:List Value,ZJ xs its/\IsTup s.heap a its.toArray/\xs.length<=sizeLine:=by
  rcases h with h|⟨o,its,n,hk,hc,hs,hz,r⟩
  . obtain⟨z,its,r,p⟩:=h.ok I.hok;exact⟨its,r,p,z⟩
  . refine⟨its.toList,r,⟨o,I.kIn a o hk,hc,n,by simpa using hs⟩,?_⟩;have e:=r.length;simp only[length_toList]at e;omega
theorem Inv.list_inj (I:Inv X pins σ H s)(h:SqL X.K H a xs)(h':SqL X.K H a ys):xs=ys:=by
 obtain⟨its,r,⟨o,n,e,_,_,d⟩,_⟩:=I.list h;obtain⟨its',r',⟨o',n',e',_,_,d'⟩,_⟩:=I.list h';rw[e]at e';cases e';rw[d]at d';injection d' with d1 _;have:its=its':=by simpa using congrArg Array.toList d1
 subst this;exact r.inj r'
end
noncomputable abbrev Cx.wish (X:Cx)(E:Value->Shared->Prop):Cx:={ X with xe:=E }
noncomputable abbrev Cx.nox (X:Cx):Cx:=X.wish λ _ _=>False
theorem Cx.Ok.wish {X:Cx}(ok:X.Ok)(E:Value->Shared->Prop):(X.wish E).Ok:=
 ⟨ok.mod,ok.kind,ok.glob,ok.blt,ok.above,ok.inj,ok.has,ok.cab,ok.hd,ok.frames,ok.stk,ok.exf,ok.bs,ok.bsz,ok.noex,ok.exfs,ok.funs,ok.frf⟩
theorem Cx.Ok.unwish {X:Cx}{E:Value->Shared->Prop}(ok:(X.wish E).Ok):X.Ok:=
 ⟨ok.mod,ok.kind,ok.glob,ok.blt,ok.above,ok.inj,ok.has,ok.cab,ok.hd,ok.frames,ok.stk,ok.exf,ok.bs,ok.bsz,ok.noex,ok.exfs,ok.funs,ok.frf⟩
section
variable {X:Cx}{pins:List (Addr×Obj)}{σ:St}{H:Hp}{s:Shared}{E:Value->Shared->Prop}
theorem Inv.wish (I:Inv X pins σ H s)(E:Value->Shared->Prop):Inv (X.wish E) pins σ H s:=⟨I.ok.wish E,I.os,I.bare,I.base,I.loc,I.cell,I.free,I.freeC,I.pin,I.hok,I.len⟩
theorem Inv.unwish (I:Inv (X.wish E) pins σ H s):Inv X pins σ H s:=⟨I.ok.unwish,I.os,I.bare,I.base,I.loc,I.cell,I.free,I.freeC,I.pin,I.hok,I.len⟩
theorem SP.unwish {D:Ends}{f:Flow}{s':Shared}(h:SP (X.wish E) pins D f s'):SP X pins D f s':=by
  cases f with
  |next=>obtain⟨σ',H',I,q⟩:=h;exact⟨σ',H',I.unwish,q⟩
  |brk=>obtain⟨σ',H',I,q⟩:=h;exact⟨σ',H',I.unwish,q⟩
  |cont=>obtain⟨σ',H',I,q⟩:=h;exact⟨σ',H',I.unwish,q⟩
  |ret u=>obtain⟨v,σ',H',I,r,q⟩:=h;exact⟨v,σ',H',I.unwish,r,q⟩
theorem PSs.nox {st:List Stmt}{t:TS}(h:PSs X.nox st t):PSs X st t:=⟨λ pins s σ H D I hw=>
 wpAny_mono (h pins s σ H D (I.wish _) hw) (λ _ _ q=>q.unwish) λ _ _ z=>False.elim z⟩
end
section
variable {X:Cx}{st:Stmt}{Zew:List Stmt}{t u:TS}{e:Expr}{te:TE}{pos:Pos}
noncomputable def ZkH:TS:=λ D σ H=>D.nx σ H
noncomputable def ZhZ (t u:TS):TS:=λ D σ H=>t { D with nx:=u D } σ H
theorem Zp:PSs X [] ZkH:=⟨λ _ _ σ H _ I h=>wpAny_execs_nil ⟨σ,H,I,h⟩⟩
theorem Zc (h1:PS X st t)(h2:PSs X Zew u):PSs X (st::Zew) (ZhZ t u):=by
  refine⟨?_⟩;intro pins s σ H D I h;refine wpAny_execs_cons (thn (h1 pins s σ H { D with nx:=u D } I h) λ f s1 q=>?_);cases f with
  |next=>
    obtain⟨σ',H',I',q⟩:=q;exact h2 pins s1 σ' H' D I' q
  |ret v=>exact q
  |brk=>exact q
  |cont=>exact q
theorem Zf (h1:PS X st t):PSs X [st] t:=by
  refine⟨?_⟩;intro pins s σ H D I h;refine wpAny_execs_cons (thn (h1 pins s σ H D I h) λ f s1 q=>?_);cases f with
  |next=>exact wpAny_execs_nil q
  |ret v=>exact q
  |brk=>exact q
  |cont=>exact q
theorem Inv.quiet {pins:List (Addr×Obj)}{σ:St}{H:Hp}{s:Shared}(I:Inv X pins σ H s):interactive X.env=false:=by simp[interactive,I.ok.kind]
noncomputable def tDrop (te:TE):TS:=λ D σ H=>te σ H λ _ H1=>D.nx σ H1
theorem ZD (he:PE X e te)(hs:swapsWith e none pos.line X.env=pure false:=by rfl):PS X (.Expr e pos) (tDrop te):=by
 refine⟨?_⟩;intro pins s σ H D I h;exact wpAny_Expr_any (thn (he pins s σ H _ I h) λ v s1 ⟨x,H1,I1,r1,q1⟩=>⟨σ,H1,I1,q1⟩) I.quiet hs
noncomputable def ZfR (te:TE):TS:=λ D σ H=>te σ H D.rt
theorem Zk (he:PE X e te):PS X (.Return (some e) pos) (ZfR te):=by
 refine⟨?_⟩;intro pins s σ H D I h;exact wpAny_Return_some (thn (he pins s σ H _ I h) λ v s1 ⟨x,H1,I1,r1,q1⟩=>⟨x,σ,H1,I1,r1,q1⟩)
noncomputable def tIfS (c:TT)(t u:TS):TS:=λ D σ H=>c σ H λ b H1=>if b=true then t D σ H1 else u D σ H1
theorem Zu {c:Expr}{a b:List Stmt}{tc:TT}(hc:PT X c tc)(ha:PSs X a t)(hb:PSs X b u):PS X (.If c a b pos) (tIfS tc t u):=by
  refine⟨?_⟩;intro pins s σ H D I h;refine wpAny_If (thn (hc pins s σ H _ I h) λ d s1 zz9=>?_);obtain⟨H1,I1,q1⟩:=zz9;cases d with
  |true=>exact ha pins s1 σ H1 D I1 q1
  |false=>exact hb pins s1 σ H1 D I1 q1
end
noncomputable abbrev TG:=V->St->Hp->(St->Hp->Prop)->Prop
noncomputable abbrev TGs:=List V->St->Hp->(St->Hp->Prop)->Prop
noncomputable abbrev PGb (X:Cx)(target:Expr)(t:TG):Prop:=
  ∀(pins:List (Addr×Obj))(s:Shared)(σ:St)(H:Hp)(v:V)(u:Value)(Q:St->Hp->Prop),Inv X pins σ H s->ZI v u->t v σ H Q ->
    wpAny (model X.prog X.w) X.A (assign target X.env u) (λ _ s'=>∃ σ' H',Inv X pins σ' H' s'/\Q σ' H') X.xe s
structure PG (X:Cx)(target:Expr)(t:TG):Prop where
  go:PGb X target t
instance {X:Cx}{target:Expr}{t:TG}:CoeFun (PG X target t) λ _=>PGb X target t:=⟨PG.go⟩
noncomputable abbrev PGsb (X:Cx)(ts:List Expr)(t:TGs):Prop:=
  ∀(pins:List (Addr×Obj))(s:Shared)(σ:St)(H:Hp)(vs:List V)(us:List Value)(Q:St->Hp->Prop),Inv X pins σ H s->ZJ vs us->t vs σ H Q ->
    wpAny (model X.prog X.w) X.A (assignInOrder ((assignEach ts X.env).map (·.2)) us) (λ _ s'=>∃ σ' H',Inv X pins σ' H' s'/\Q σ' H') X.xe s
structure PGs (X:Cx)(ts:List Expr)(t:TGs):Prop where
  go:PGsb X ts t
instance {X:Cx}{ts:List Expr}{t:TGs}:CoeFun (PGs X ts t) λ _=>PGsb X ts t:=⟨PGs.go⟩
noncomputable abbrev TSet:=V->V->V->Hp->(Hp->Prop)->Prop
noncomputable abbrev PSetb (X:Cx)(t:TSet):Prop:=
  ∀(pins:List (Addr×Obj))(s:Shared)(σ:St)(H:Hp)(o i v:V)(ov iv u:Value)(Q:Hp->Prop),Inv X pins σ H s->ZI o ov->ZI i iv->ZI v u->t o i v H Q ->
    wpAny (model X.prog X.w) X.A (setItem ov iv u) (λ _ s'=>∃ H',Inv X pins σ H' s'/\Q H') X.xe s
structure PSet (X:Cx)(t:TSet):Prop where
  go:PSetb X t
instance {X:Cx}{t:TSet}:CoeFun (PSet X t) λ _=>PSetb X t:=⟨PSet.go⟩
noncomputable abbrev TIp:=V->V->Hp->VK->Prop
noncomputable abbrev PIpb (X:Cx)(op:Operator)(t:TIp):Prop:=
  ∀(pins:List (Addr×Obj))(s:Shared)(σ:St)(H:Hp)(x y:V)(v u:Value)(Q:VK),Inv X pins σ H s->ZI x v->ZI y u->t x y H Q ->
    wpAny (model X.prog X.w) X.A (inplaceOp op v u) (EP X pins σ Q) X.xe s
structure PIp (X:Cx)(op:Operator)(t:TIp):Prop where
  go:PIpb X op t
instance {X:Cx}{op:Operator}{t:TIp}:CoeFun (PIp X op t) λ _=>PIpb X op t:=⟨PIp.go⟩
section
variable {X:Cx}{pos:Pos}
noncomputable def Zfh (i:Nat):TG:=λ v σ H Q=>Q (σ.set i (some v)) H
theorem ZM {i:Nat}{x:Str}(hN:X.N.Nodup)(hi:X.N[i]? = some x)(hx:Loc X.env.scope x)(hf:X.fn x=true\/X.env.scope.names.lookup x=some .local:=by first|exact .inl rfl|exact .inr rfl|assumption):PG X (.Name x pos) (Zfh i):=by
 refine⟨?_⟩;intro pins s σ H v u Q I r h;exact wpAny_assign_Name (Zan I hN hi hx r (λ s' I'=>⟨_,H,I',h⟩) hf)
noncomputable def gNil:TGs:=λ vs σ H Q=>vs=[]/\Q σ H
noncomputable def gCons (t:TG)(u:TGs):TGs:=λ vs σ H Q=>∃ v r,vs=v::r/\t v σ H λ σ' H'=>u r σ' H' Q
theorem ZaM:PGs X [] gNil:=by
 refine⟨?_⟩;intro pins s σ H vs us Q I r h;obtain⟨e,h⟩:=h;subst e;cases r;exact assignInOrder_nil ⟨σ,H,I,h⟩
theorem Yp {e:Expr}{es:List Expr}{t:TG}{u:TGs}(h1:PG X e t)(h2:PGs X es u)(hs:(assignEach (e::es) X.env).map (·.2)=assign e X.env::(assignEach es X.env).map (·.2):=by rfl):PGs X (e::es) (gCons t u):=by
  refine⟨?_⟩;intro pins s σ H vs us Q I r h;obtain⟨v,vr,e1,h⟩:=h;subst e1;cases r with
  |cons r rr=>
    rw[hs];refine assignInOrder_cons (thn (h1 pins s σ H _ _ _ I r h) λ _ s1 zz9=>?_);obtain⟨σ1,H1,I1,q1⟩:=zz9;exact h2 pins s1 σ1 H1 _ _ Q I1 rr q1
noncomputable def gTup (K:Frag)(n:Nat)(t:TGs):TG:=λ v σ H Q=>∃ a xs,v = .ref a/\SqT K H a xs/\xs.length=n/\t xs σ H Q
theorem Zez {es:List Expr}{k:Nat}{t:TGs}{n:Nat}(hc:X.calm=true)(h:PGs X es t)(hn:(assignEach es X.env).length=n:=by rfl)(hst:(assignEach es X.env).findIdx? (·.1)=none:=by rfl):PG X (.Tuple es k pos) (gTup X.K n t):=by
 refine⟨?_⟩;intro pins s σ H v u Q I r hw;obtain⟨a,xs,e1,hq,hl,hw⟩:=hw;subst e1;cases r;obtain⟨its,rv,ht,hz⟩:=I.tuple hq;refine assign_Tuple_tuple (I.ok.hd hc) ht (by simp[hn,<- hl,rv.length]) hst λ h' hx=>?_;have I1:Inv X pins σ H { s with heap:=h' }:=I.kept (t':=s.toks) λ b o e=>hx b o (ne_of_lt (Heap.lt_size e)) e;exact h pins _ σ H xs _ Q I1 (by simpa using rv) hw
noncomputable def gSub (to ti:TE)(t:TSet):TG:=λ v σ H Q=>to σ H λ o H1=>ti σ H1 λ i H2=>t o i v H2 λ H3=>Q σ H3
theorem pg_sub {o i:Expr}{to ti:TE}{t:TSet}(ho:PE X o to)(hi:PE X i ti)(hs:PSet X t)(ha:∀ v,assign (.Subscript o i pos) X.env v=(do
      let ov <- holding [v] (eval o X.env)
      let iv <- holding [v,ov] (eval i X.env)
      standAt pos
      holding [v,ov,iv] (setItem ov iv v)
      release [v,ov,iv] []):=by intro _;rfl):PG X (.Subscript o i pos) (gSub to ti t):=by
  refine⟨?_⟩;intro pins s σ H v u Q I r h;rw[ha];refine wpAny_bind (wpAny_holding (thn (ho pins s σ H _ I h) λ ov s1 zz9=>?_));obtain⟨x,H1,I1,r1,q1⟩:=zz9;refine wpAny_bind (wpAny_holding (thn (hi pins s1 σ H1 _ I1 q1) λ iv s2 zz9=>?_));obtain⟨y,H2,I2,r2,q2⟩:=zz9;refine wpAny_bind (wpAny_standAt (wpAny_bind (wpAny_holding (thn (hs pins s2 σ H2 x y v ov iv u _ I2 r1 r2 r q2) λ _ s3 zz9=>?_))));obtain⟨H3,I3,q3⟩:=zz9;exact wpAny_release ⟨σ,H3,I3,q3⟩
noncomputable def Zha (te:TE)(g:TG):TS:=λ D σ H=>te σ H λ x H1=>g x σ H1 D.nx
theorem Zde {tg e:Expr}{te:TE}{g:TG}(he:PE X e te)(hg:PG X tg g)(hs:swapsWithSole [tg] e pos.line X.env=pure false:=by rfl)(hw:swappedStores [tg] e X.env=pure none:=by rfl)(h1:(assignEach [tg] X.env).map (·.2)=[assign tg X.env]:=by rfl):PS X (.Assign [tg] e pos) (Zha te g):=by
 refine⟨?_⟩;intro pins s σ H D I h;refine wpAny_Assign_stores (thn (he pins s σ H _ I h) λ v s1 zz9=>?_) hs hw;obtain⟨x,H1,I1,r1,q1⟩:=zz9;rw[h1];exact thn (hg pins s1 σ H1 x v _ I1 r1 q1) λ _ s2 q=>q
theorem Zt {i:Nat}{x:Str}{e:Expr}{te:TE}{pos':Pos}(hN:X.N.Nodup)(hi:X.N[i]? = some x)(hx:Loc X.env.scope x)(he:PE X e te)(hs:swapsWith e (some (.Name x pos')) pos.line X.env=pure false:=by rfl)(hf:X.fn x=true\/X.env.scope.names.lookup x=some .local:=by first|exact .inl rfl|exact .inr rfl|assumption) :
    PS X (.Assign [.Name x pos'] e pos) (Zha te (Zfh i)):=by
  refine⟨?_⟩;intro pins s σ H D I h;refine wpAny_Assign_Name (thn (he pins s σ H _ I h) λ v s1 zz9=>?_) hs;obtain⟨y,H1,I1,r1,q1⟩:=zz9;exact Zan I1 hN hi hx r1 (λ s2 I2=>⟨_,H1,I2,q1⟩) hf
noncomputable def tPar (i j:Nat)(ta:TA):TS:=λ D σ H=>ta σ H λ vs H1=>∃ v w,vs=[v,w]/\D.nx ((σ.set i (some v)).set j (some w)) H1
theorem ps_par {i j:Nat}{x y:Str}{a b:Expr}{ta:TA}{px py pt:Pos}{kt k2 pt2}(hc:X.calm=true)(hN:X.N.Nodup)(hi:X.N[i]? = some x)(hj:X.N[j]? = some y)(hij:i≠j)(hx:X.env.scope.names.lookup x=some .local)(hy:X.env.scope.names.lookup y=some .local)(ha:PA X [a,b] ta)(hw:swappedStores [.Tuple [.Name x px, .Name y py] kt pt] (.Tuple [a,b] k2 pt2) X.env=pure (some [x,y]))(hs:swapsWithSole [.Tuple [.Name x px, .Name y py] kt pt] (.Tuple [a,b] k2 pt2) pos.line X.env=pure false:=by rfl) :
    PS X (.Assign [.Tuple [.Name x px, .Name y py] kt pt] (.Tuple [a,b] k2 pt2) pos) (tPar i j ta):=by
  refine⟨?_⟩;intro pins s σ H D I h;rw[exec_Assign_arm];refine wpAny_bind (wpAny_standAt ?_);rw[hs];refine wpAny_bind (wpAny_pure ?_);rw[if_neg (by decide)];refine wpAny_bind (Tuple_ (thn (ha _ pins s σ H _ I h) λ us s1 zz9=>?_));obtain⟨vs,H1,I1,r1,q1⟩:=zz9;obtain⟨v,w,e1,q1⟩:=q1;subst e1;obtain⟨u1,u2,rfl,rv,rw'⟩:∃ u1 u2,us=[u1,u2]/\ZI v u1/\ZI w u2:=by
    cases r1 with
    |cons p q=>
      cases q with
      |cons p' q'=>
        cases q';exact⟨_,_,rfl,p,p'⟩
  refine wpAny_newObj_type ?_ (by show 2<=sizeLine;decide);have I2:Inv X pins σ H1 { s1 with heap:=s1.heap.push { cls:=.type "tuple",data:=.seq [u1,u2].toArray } }:=I1.kept (t':=s1.toks) λ b o e=>Heap.get?_push_of_some _ e;rw[hw];refine wpAny_bind (wpAny_pure ?_);show wpAny (model X.prog X.w) X.A (do rule "assign.swapped-stores";let items <- unpackItems (.ref s1.heap.objs.size) 2 none;assignInOrder [λ v=>bindName X.env y v,λ v=>bindName X.env x v] items.reverse;pure Flow.next) _ _ _;refine wpAny_bind (wpAny_rule (wpAny_bind (unpackItems_tuple (items := #[u1,u2]) (I.ok.hd hc) (IsTup.new s1.heap _) λ h' hx'=>?_)));have I3:=I2.kept (h':=h') (t':=s1.toks) λ b o e=>hx' b o (ne_of_lt (Heap.lt_size e)) e;show wpAny _ _ (assignInOrder [λ v=>bindName X.env y v,λ v=>bindName X.env x v] [u2,u1] >>= λ _=>pure Flow.next) _ _ _;refine wpAny_bind (assignInOrder_cons (wpAny_bindName (Zan I3 hN hj (.inl hy) rw' (λ s2 I4=>?_) (.inr hy))));refine assignInOrder_cons (wpAny_bindName (Zan I4 hN hi (.inl hx) rv (λ s3 I5=>assignInOrder_nil (wpAny_pure ?_)) (.inr hx)));rw[List.set_comm _ _ (Ne.symm hij)]at I5;exact⟨_,H1,I5,q1⟩
noncomputable def tAug (i:Nat)(te:TE)(ti:TIp):TS:=λ D σ H=>∃ x,σ[i]? = some (some x)/\te σ H λ y H1=>ti x y H1 λ z H2=>D.nx (σ.set i (some z)) H2
theorem ps_aug {i:Nat}{x:Str}{e:Expr}{te:TE}{op:Operator}{ti:TIp}{pos':Pos}(hN:X.N.Nodup)(hi:X.N[i]? = some x)(hx:Loc X.env.scope x)(he:PE X e te)(ho:PIp X op ti)(hf:X.fn x=true\/X.env.scope.names.lookup x=some .local:=by first|exact .inl rfl|exact .inr rfl|assumption) :
    PS X (.AugAssign (.Name x pos') op e pos) (tAug i te ti):=by
  refine⟨?_⟩;intro pins s σ H D I h;obtain⟨v,e1,h⟩:=h;obtain⟨m,hn,hl⟩:=I.loc;have vis:Vis X.env.scope x:=by rcases hx with k|k;exact .inl k;exact .inr (.inl k)
  obtain⟨u,r,l⟩:=hl i x v hi e1 vis;refine wpAny_AugAssign_Name ?_;have go:wpAny (model X.prog X.w) X.A (eval e X.env) (λ w s₂=>wpAny (model X.prog X.w) X.A (inplaceOp op u w) (λ r s₃=>wpAny (model X.prog X.w) X.A (storeName X.env x r) (λ _=>SP X pins D .next) X.xe s₃) X.xe s₂) X.xe s:=by
    refine thn (he pins s σ H _ I h) λ w s1 zz9=>?_;obtain⟨y,H1,I1,r1,q1⟩:=zz9;refine thn (ho pins s1 σ H1 v y u w _ I1 r r1 q1) λ z s2 zz9=>?_;obtain⟨zv,H2,I2,r2,q2⟩:=zz9;exact Zan I2 hN hi hx r2 (λ s3 I3=>⟨_,H2,I3,q2⟩) hf
  rcases l with ⟨hk,hm⟩|⟨hk,c,hc,hcell⟩
  . exact wpAny_loadName_local I.ok.kind hk hn hm go
  . rcases hk with hk|hk
    . exact wpAny_loadName_cell I.ok.kind hk hc hcell go
    . rcases hx with k|k
      . have:X.env.scope.names.lookup x=some .free:=hk;rw[k]at this;cases this
      . have:X.env.scope.names.lookup x=some .free:=hk;rw[k]at this;cases this
noncomputable abbrev PGetb (X:Cx)(t:V->V->Hp->VK->Prop):Prop:=
  ∀(pins:List (Addr×Obj))(s:Shared)(σ:St)(H:Hp)(o i:V)(ov iv:Value)(Q:VK),Inv X pins σ H s->ZI o ov->ZI i iv->t o i H Q ->
    wpAny (model X.prog X.w) X.A (getItem ov iv) (EP X pins σ Q) X.xe s
structure PGet (X:Cx)(t:V->V->Hp->VK->Prop):Prop where
  go:PGetb X t
instance {X:Cx}{t:V->V->Hp->VK->Prop}:CoeFun (PGet X t) λ _=>PGetb X t:=⟨PGet.go⟩
noncomputable def ipI (f:Int->Int->Int):TIp:=λ x y H Q=>∃ i j,x = .int i/\y = .int j/\Q (.int (f i j)) H
theorem ip_sub:PIp X .Sub (ipI λ i j=>i - j):=by
 refine⟨?_⟩;intro pins s σ H x y v u Q I r1 r2 h;obtain⟨i,j,e1,e2,q⟩:=h;subst e1;subst e2;obtain⟨t,rfl⟩:=r1;obtain⟨t',rfl⟩:=r2;exact isub_int ⟨.int _,H,I.tok _,⟨_,rfl⟩,q⟩
end
section
variable {X:Cx}{pos:Pos}
noncomputable def tWhile (c:TT)(tb:TS):TS:=λ D σ H=>∃ W:Nat->St->Hp->Prop,(∃ m,W m σ H)/\∀ m σ H,W m σ H ->
 c σ H λ b H1=>if b=true then ∃ N:St->Hp->Prop,(∀ σ' H',N σ' H'->∃ m',m'<m/\W m' σ' H')/\tb { D with nx:=N,ct:=N,bk:=D.nx } σ H1 else D.nx σ H1
theorem Zd0 {c:Expr}{body:List Stmt}{tc:TT}{tb:TS}(hp:PassesOwn (model X.prog X.w) X.A X.env X.xe)(hc:PT X c tc)(hb:PSs X body tb):PS X (.While c body [] pos) (tWhile tc tb):=by
  refine⟨?_⟩;intro pins s σ H D I h;obtain⟨W,⟨m0,w0⟩,turn⟩:=h;refine wpAny_While (codeAny_whileLoop (λ n s'=>∃ σ' H',Inv X pins σ' H' s'/\W n σ' H') ?_ m0 ⟨σ,H,I,w0⟩);rintro n s1 ⟨σ1,H1,I1,w1⟩;refine wpAny_passesOwn hp (thn (hc pins s1 σ1 H1 _ I1 (turn n σ1 H1 w1)) λ b s2 zz9=>?_);obtain⟨H2,I2,q2⟩:=zz9;cases b with
  |true=>
    obtain⟨N,hN,q2⟩:=q2;rw[if_pos rfl];refine wpAny_passesOwn hp (thn (hb pins s2 σ1 H2 _ I2 q2) λ f s3 q3=>?_);cases f with
    |next=>
      obtain⟨σ3,H3,I3,n3⟩:=q3;obtain⟨m',hm,w3⟩:=hN σ3 H3 n3;exact⟨m',hm,σ3,H3,I3,w3⟩
    |cont=>
      obtain⟨σ3,H3,I3,n3⟩:=q3;obtain⟨m',hm,w3⟩:=hN σ3 H3 n3;exact⟨m',hm,σ3,H3,I3,w3⟩
    |brk=>exact q3
    |ret v=>exact q3
  |false=>
    rw[if_neg Bool.false_ne_true];exact wpAny_execs_nil ⟨σ1,H2,I2,q2⟩
end
structure It where
  go:Nat->Hp->Prop
  yld:Nat->Hp->V->Hp->Prop
  stop:Nat->Hp->Prop
noncomputable def Zg8 (X:Cx)(pins:List (Addr×Obj))(H:Hp)(b:Addr):Prop:=
 H b=none/\b≠X.env.locals/\b∉X.fs/\(b∈X.ex\/X.s₀.heap.objs.size<=b)/\(∀ x c,X.env.cells.lookup x=some c->c≠b)/\∀ p∈X.pn++pins,p.1≠b
theorem Inv.fpOk {X:Cx}{pins:List (Addr×Obj)}{σ:St}{H H':Hp}{s:Shared}{b:Addr}(I:Inv X pins σ H s)(hb:s.heap.objs.size<=b)(hn:H' b=none):Zg8 X pins H' b:=by
  refine⟨hn,Nat.ne_of_gt (lt_of_lt_of_le I.lt hb),I.nofs hb, .inr (le_trans I.sz hb),λ x c e z=>?_,λ p hp z=>?_⟩
  . obtain⟨v,q⟩:=I.cell x c e;exact absurd (lt_of_lt_of_le q.lt (by rw[z];exact hb)) (lt_irrefl _)
  . exact absurd (lt_of_lt_of_le (Heap.lt_size (I.pin p hp).1) (by rw[z];exact hb)) (lt_irrefl _)
structure Turn (P:Program)(w:World)(K:Frag)(tg:Expr)(J:It)(fp:List Addr)(it:Addr)(tn:Nat->Heap->Prop):Prop where
  mem:it∈fp
  obj:∀ i h,tn i h->∀ b∈fp,∃ o,h.get? b=some o/\∀ v,o.data ≠ .cell v
  keep:∀ i h h',tn i h->(∀ b∈fp,∀ o,h.get? b=some o->h'.get? b=some o)->tn i h'
  item:∀(X:Cx),X.prog=P->X.w=w->X.K=K->X.calm=true->∀(i:Nat)(pins:List (Addr×Obj))(s:Shared)(σ:St)(H:Hp)(E:Value->Shared->Prop),Inv X pins σ H s->(∀ b∈fp,Zg8 X pins H b)->tn i s.heap->J.go i H ->
    wpAny (model P w) X.A (pyNext (.ref it)) (λ r s1=>∃ u,r=some u /\
      wpAny (model P w) X.A (letOwnedTupleGo tg (.ref it) u) (λ _ s2=>∃ x H',Inv X pins σ H' s2/\ZI x u/\J.yld i H x H'/\tn (i+1) s2.heap/\∀ b∈fp,H' b=none) E s1) E s
  done:∀(X:Cx),X.prog=P->X.w=w->X.K=K->X.calm=true->∀(i:Nat)(pins:List (Addr×Obj))(s:Shared)(σ:St)(H:Hp)(E:Value->Shared->Prop),Inv X pins σ H s->(∀ b∈fp,Zg8 X pins H b)->tn i s.heap->J.stop i H ->
    wpAny (model P w) X.A (pyNext (.ref it)) (λ r s1=>r=none/\Inv X pins σ H s1) E s
  self:∀(A:Around)(i:Nat)(s:Shared)(Q:Value->Shared->Prop)(E:Value->Shared->Prop),tn i s.heap->Q (.ref it) s->wpAny (model P w) A (pyIter (.ref it)) Q E s
noncomputable abbrev TI:=St->Hp->(It->Hp->Prop)->Prop
noncomputable def PIE (X:Cx)(pins:List (Addr×Obj))(σ:St)(tg:Expr)(R:It->Hp->Prop)(itv:Value)(s2:Shared):Prop:=
 ∃(it:Addr)(fp:List Addr)(tn:Nat->Heap->Prop)(J:It)(H':Hp),itv = .ref it/\Inv X pins σ H' s2/\Turn X.prog X.w X.K tg J fp it tn/\tn 0 s2.heap/\(∀ b∈fp,Zg8 X pins H' b)/\R J H'
noncomputable abbrev PIb (X:Cx)(tg iter:Expr)(wi:TI):Prop:=
  ∀(pins:List (Addr×Obj))(s:Shared)(σ:St)(H:Hp)(R:It->Hp->Prop),Inv X pins σ H s->wi σ H R ->
    wpAny (model X.prog X.w) X.A (eval iter X.env) (λ v s1=>wpAny (model X.prog X.w) X.A (pyIter v) (PIE X pins σ tg R) X.xe s1) X.xe s
structure PI (X:Cx)(tg iter:Expr)(wi:TI):Prop where
  go:PIb X tg iter wi
instance {X:Cx}{tg iter:Expr}{wi:TI}:CoeFun (PI X tg iter wi) λ _=>PIb X tg iter wi:=⟨PI.go⟩
theorem Zk0 {M:Model}{A:Around}{E:Value->Shared->Prop}{s:Shared}{tg:Expr}{it:Addr}{u:Value}{o:Obj}{n:String}{vs:Array Value}{Q:Unit->Shared->Prop}(ho:s.heap.get? it=some o)(hc:o.cls = .type n)(hd:o.data = .fields vs)(hn:["enumerate","zip","dict_itemiterator","dict_reverseitemiterator","odict_iterator","itertools.zip_longest","itertools.pairwise"].contains n=false)(hQ:Q () s):wpAny M A (letOwnedTupleGo tg (.ref it) u) Q E s:=by
  unfold letOwnedTupleGo;cases tg <;> first
    | exact wpAny_pure hQ
    | (cases u <;> first
        | exact wpAny_pure hQ
        | (refine wpAny_bind (wpAny_load ho ?_)
           rw[hc,hd];show wpAny M A (if (["enumerate","zip","dict_itemiterator","dict_reverseitemiterator","odict_iterator","itertools.zip_longest","itertools.pairwise"].contains n && vs[0]? == some (rawInt _))=true then _ else _) Q E s;rw[if_neg (by intro h;rw[hn,Bool.false_and]at h;cases h)];exact wpAny_pure hQ))
noncomputable def Itl (K:Frag)(a:Addr):It:=
 ⟨λ i H=>∃ xs x,SqL K H a xs/\xs[i]? = some x,λ i H x H'=>H'=H/\∀ xs,SqL K H a xs->xs[i]? = some x,λ i H=>∃ xs,SqL K H a xs/\xs.length<=i⟩
noncomputable def Itr (lo:Int)(n:Nat):It:=⟨λ i _=>i<n,λ i H x H'=>H'=H/\x = .int (lo+i),λ i _=>n<=i⟩
theorem Zlh {P:Program}{w:World}{K:Frag}{tg:Expr}(a it:Addr):Turn P w K tg (Itl K a) [it] it (λ i h=>h.IsListIter it a i) where
  mem:=by simp
  obj:=λ i h st b hb=>by
    have e:b=it:=by simpa using hb
    subst e;obtain⟨o,e,c,d⟩:=st;exact⟨o,e,λ v z=>by rw[d]at z;cases z⟩
  keep:=λ i h h' st k=>st.at λ o e=>k it (by simp) o e
  item:=by
    intro X hP hw hK hc i pins s σ H E I hf st hg;subst hP hw hK;obtain⟨xs,x,hq,hx⟩:=hg;obtain⟨its,rv,p,hz⟩:=I.list hq;obtain⟨u,hu,ru⟩:=rv.get hx;obtain⟨f0,f1,f2,f3,f4,f5⟩:=hf it (by simp);refine wpAny_pyNext_list_item st p.isList (x:=u) (by simpa using hu) λ h' st' sb=>?_;have I1:Inv X pins σ H { s with heap:=h' }:=I.turned (t':=s.toks) (λ b o hb e=>(sb.2 b hb).trans e) f0 f1 f3 f4 f5;obtain⟨o,e,c,d⟩:=id st';exact⟨u,rfl,Zk0 (s:={ s with heap:=h' }) e c d (by decide) ⟨x,H,I1,ru,⟨rfl,λ ys hy=>by rw[I.list_inj hy hq];exact hx⟩,st',λ b hb=>(hf b hb).1⟩⟩
  done:=by
    intro X hP hw hK hc i pins s σ H E I hf st hg;subst hP hw hK;obtain⟨xs,hq,hx⟩:=hg;obtain⟨its,rv,p,hz⟩:=I.list hq;obtain⟨f0,f1,f2,f3,f4,f5⟩:=hf it (by simp);have hl:=rv.length;exact wpAny_pyNext_list_end (I.ok.hd hc) st p.isList (by simp;omega) λ h' eb=>⟨rfl,I.turned (t':=s.toks) (λ b o hb e=>eb b o hb e) f0 f1 f3 f4 f5⟩
  self:=λ _ _ _ _ _ st h=>wpAny_pyIter_listiter st h
theorem Zj1 {P:Program}{w:World}{K:Frag}{tg:Expr}(it:Addr)(lo:Int)(n:Nat):Turn P w K tg (Itr lo n) [it] it (λ i h=>IsRangeIter h it (lo+(i:Nat) * 1) ((n:Int) - (i:Nat)) 1) where
  mem:=by simp
  obj:=λ i h st b hb=>by
    have e:b=it:=by simpa using hb
    subst e;exact⟨_,st,λ v z=>by
      have z':Data.fields _=Data.cell v:=z;cases z'⟩
  keep:=λ i h h' st k=>k it (by simp) _ st
  item:=by
    intro X hP hw hK hc i pins s σ H E I hf st hg;subst hP hw hK;obtain⟨f0,f1,f2,f3,f4,f5⟩:=hf it (by simp);have W:=Walks.range (prog:=X.prog) (w:=X.w) (I.ok.hd hc) it lo 1 n;refine W.item i s _ _ hg st λ v h' tk hv st' kk=>?_;obtain⟨t,rfl⟩:=hv;have I1:Inv X pins σ H { s with heap:=h',toks:=tk }:=I.turned (λ b o hb e=>kk b o (by simpa using hb) e) f0 f1 f3 f4 f5;refine⟨_,rfl,Zk0 (s:={ s with heap:=h',toks:=tk }) (n:="range_iterator") st' rfl rfl (by decide) ⟨.int (lo+i),H,I1,⟨t,?_⟩,⟨rfl,rfl⟩,st',λ b hb=>(hf b hb).1⟩⟩;rw[Int.mul_one]
  done:=by
    intro X hP hw hK hc i pins s σ H E I hf st hg;subst hP hw hK;obtain⟨f0,f1,f2,f3,f4,f5⟩:=hf it (by simp);exact wpAny_pyNext_range_end (I.ok.hd hc) st (by have:n<=i:=hg;omega) λ h' eb=>⟨rfl,I.turned (t':=s.toks) (λ b o hb e=>eb b o hb e) f0 f1 f3 f4 f5⟩
  self:=λ _ _ _ _ _ st h=>wpAny_pyIter_rangeiter st h
open PySem PySem.Spec PyProof.Rows
section
variable {X:Cx}{tg:Expr}
noncomputable def Zff (K:Frag)(tl:TE):TI:=λ σ H R=>tl σ H λ x H1=>∃ a,x = .ref a/\(∃ xs,SqL K H1 a xs)/\R (Itl K a) H1
theorem ZQ {l:Expr}{tl:TE}(hl:PE X l tl):PI X tg l (Zff X.K tl):=by
 refine⟨?_⟩;intro pins s σ H R I h;refine thn (hl pins s σ H _ I h) λ v s1 zz9=>?_;obtain⟨x,H1,I1,r1,q1⟩:=zz9;obtain⟨a,e,⟨xs,hq⟩,q⟩:=q1;subst e;cases r1;obtain⟨its,rv,p,hz⟩:=I1.list hq;refine wpAny_pyIter_list p.isList ?_;refine⟨s1.heap.objs.size,[s1.heap.objs.size],_,_,H1,rfl,I1.kept (t':=s1.toks) λ b o e=>Heap.get?_push_of_some _ e,Zlh a _,⟨_,Heap.get?_push_size _ rfl,rfl,rfl⟩,λ b hb=>?_,q⟩;have e:b=s1.heap.objs.size:=by simpa using hb
 subst e;exact I1.fpOk (le_refl _) (I1.hok.fresh (le_refl _))
theorem Zmm {pins:List (Addr×Obj)}{σ:St}{H:Hp}{s:Shared}{R:It->Hp->Prop}{E:Value->Shared->Prop}{lo hi:Int}{t u v:Tok}{tk:Nat}(I:Inv X pins σ H s)(h1 : -(2 ^ 62)<=lo)(h2:lo<2 ^ 62)(h3 : -(2 ^ 62)<=hi)(h4:hi<2 ^ 62)(q:R (Itr lo (hi - lo).toNat) H):wpAny (model X.prog X.w) X.A (pyIter (.ref s.heap.objs.size)) (PIE X pins σ tg R) E { s with heap:=s.heap.push { cls:=.type "range",data:=.fields #[.int lo t, .int hi u, .int 1 v] },toks:=tk }:=by
  refine wpAny_pyIter_range (IsRange.new ..) (small_one h1 h2 h3 h4) ?_;have I1:Inv X pins σ H { s with heap:=s.heap.push { cls:=.type "range",data:=.fields #[.int lo t, .int hi u, .int 1 v] },toks:=tk }:=I.kept λ b o e=>Heap.get?_push_of_some _ e;refine⟨(s.heap.push { cls:=.type "range",data:=.fields #[.int lo t, .int hi u, .int 1 v] }).objs.size,[(s.heap.push { cls:=.type "range",data:=.fields #[.int lo t, .int hi u, .int 1 v] }).objs.size],_,_,H,rfl,
    I1.kept (t':=tk) λ b o e=>Heap.get?_push_of_some _ e,Zj1 _ lo (hi - lo).toNat,?_,λ b hb=>?_,q⟩
  . have e1:lo+((0:Nat):Int) * 1=lo:=by simp
    have e2:(((hi - lo).toNat:Nat):Int) - ((0:Nat):Int)=Builtin.Range.rangeSize lo hi 1:=by rw[rangeSize_one];split <;> omega
    show IsRangeIter _ _ (lo+((0:Nat):Int) * 1) ((((hi - lo).toNat:Nat):Int) - ((0:Nat):Int)) 1;rw[e1,e2];exact Heap.get?_push_size _ rfl
  . have e:b=(s.heap.push { cls:=.type "range",data:=.fields #[.int lo t, .int hi u, .int 1 v] }).objs.size:=by simpa using hb
    subst e;exact I1.fpOk (le_refl _) (I1.hok.fresh (le_refl _))
noncomputable def iRng1 (ta:TA):TI:=λ σ H R=>ta σ H λ vs H1=>∃ j:Int,vs=[.int j] /\ -(2 ^ 62)<=j/\j<2 ^ 62/\R (Itr 0 j.toNat) H1
theorem Jn {a:Expr}{ta:TA}{p pos:Pos}(hg:Gl X "range")(hm:X.mg "range"=none)(ha:PA X [a] ta)(hs:starEach [a] X.env=[(false,eval a X.env)]:=by rfl):PI X tg (.Call (.Name "range" p) [a] [] pos) (iRng1 ta):=by
  refine⟨?_⟩;intro pins s σ H R I h;refine Call_ (ZiI I hg hm boot_range (PyProof.Rows.callWith_type1 (thn (ha pos pins s σ H _ I h) λ us s1 zz9=>?_) hs rfl));obtain⟨vs,H1,I1,r1,q1⟩:=zz9;obtain⟨j,e,q1,q2,q⟩:=q1;subst e;cases r1 with
  |cons r rr=>
    cases rr;obtain⟨t,rfl⟩:=r;exact call_range_1 (Zmm I1 (by omega) (by omega) q1 q2 (by simpa using q))
noncomputable def tFor (wi:TI)(g:TG)(tb:TS):TS:=λ D σ H=>wi σ H λ J H1=>∃ W:Nat->Nat->St->Hp->Prop,(∃ m,W 0 m σ H1)/\∀ i m σ H,W i m σ H ->
 (J.stop i H/\D.nx σ H)\/(J.go i H/\∃ N:St->Hp->Prop,(∀ σ' H',N σ' H'->∃ m',m'<m/\W (i+1) m' σ' H')/\∀ x H',J.yld i H x H'->g x σ H' λ σ2 H2=>tb { D with nx:=N,ct:=N,bk:=D.nx } σ2 H2)
noncomputable def Zgn (fp:List Addr)(h:Heap):List (Addr×Obj):=fp.filterMap λ b=>(h.get? b).map λ o=>(b,o)
theorem ZaO {fp:List Addr}{h:Heap}{b:Addr}{o:Obj}(hb:b∈fp)(e:h.get? b=some o):(b,o)∈Zgn fp h:=List.mem_filterMap.mpr ⟨b,hb,by rw[e];rfl⟩
theorem ZlC {fp:List Addr}{h:Heap}{p:Addr×Obj}(hp:p∈Zgn fp h):p.1∈fp/\h.get? p.1=some p.2:=by
  obtain⟨b,hb,e⟩:=List.mem_filterMap.mp hp;cases q:h.get? b with
  |none=>rw[q]at e;cases e
  |some o=>
    rw[q]at e;have e':(b,o)=p:=Option.some.inj e;subst e';exact⟨hb,q⟩
theorem Inv.pinned {pins:List (Addr×Obj)}{σ:St}{H:Hp}{s:Shared}{fp:List Addr}(I:Inv X pins σ H s)(hf:∀ b∈fp,Zg8 X pins H b)(ho:∀ b∈fp,∃ o,s.heap.get? b=some o/\∀ v,o.data ≠ .cell v):Inv X (pins++Zgn fp s.heap) σ H s:=
  I.pins_of λ p hp=>(List.mem_append.mp hp).elim (λ z=>I.pin p (mem_append_right _ z)) λ z=>by
    obtain⟨hb,e⟩:=ZlC z;obtain⟨f0,f1,f2,_⟩:=hf p.1 hb;obtain⟨o,e',d⟩:=ho p.1 hb;rw[e]at e';cases e';exact⟨e,f0,f1,f2,d⟩
theorem Inv.unpinned {pins pl:List (Addr×Obj)}{σ:St}{H:Hp}{s:Shared}(I:Inv X (pins++pl) σ H s):Inv X pins σ H s:=I.pins_of λ p hp=>I.pin p (mem_append_right _ (mem_append_left _ hp))
theorem Xv {iter:Expr}{body:List Stmt}{wi:TI}{g:TG}{tb:TS}{pos:Pos}(hp:PassesOwn (model X.prog X.w) X.A X.env X.xe)(hc:X.calm=true)(hi:PI X tg iter wi)(hg:PG X tg g)(hb:PSs X body tb)(hs:∀ x,foldedSetIterable iter X.env x=pure x:=by intro _;rfl):PS X (.For tg iter body [] pos) (tFor wi g tb):=by
  refine⟨?_⟩;intro pins s σ H D I h;refine wpAny_For (thn (hi pins s σ H _ I h) λ v s1 h1=>thn h1 λ itv s2 h2=>?_) hs;obtain⟨it,fp,tn,J,H2,e,I2,T,st2,f2,W,⟨m0,w0⟩,turn⟩:=h2;subst e;have stat:∀ {H':Hp},(∀ b∈fp,H' b=none)->∀ b∈fp,Zg8 X pins H' b:=λ hn b hb=>⟨hn b hb,(f2 b hb).2⟩;refine codeAny_forLoop_any (λ n s'=>∃ i σ' H',Inv X pins σ' H' s'/\tn i s'.heap/\(∀ b∈fp,H' b=none)/\W i n σ' H') ?_ m0 ⟨0,σ,H2,I2,st2,λ b hb=>(f2 b hb).1,w0⟩;rintro n s3 ⟨i,σ3,H3,I3,st3,fr3,w3⟩;rcases turn i n σ3 H3 w3 with ⟨stop,qn⟩|⟨go,N,hN,step⟩
  . refine wpAny_passesOwn hp (thn (T.done X rfl rfl rfl hc i pins s3 σ3 H3 X.xe I3 (stat fr3) st3 stop) λ r s4 zz9=>?_);obtain⟨hr,I4⟩:=zz9;subst hr;exact wpAny_execs_nil ⟨σ3,H3,I4,qn⟩
  . refine wpAny_passesOwn hp (thn (T.item X rfl rfl rfl hc i pins s3 σ3 H3 X.xe I3 (stat fr3) st3 go) λ r s4 zz9=>?_);obtain⟨u,hr,h4⟩:=zz9;subst hr;refine wpAny_passesOwn hp (thn h4 λ _ s5 zz9=>?_);obtain⟨x,H5,I5,r5,y5,st5,fr5⟩:=zz9;have I5':=I5.pinned (stat fr5) (T.obj _ _ st5);refine wpAny_passesOwn hp (thn (hg _ s5 σ3 H5 x u _ I5' r5 (step x H5 y5)) λ _ s6 zz9=>?_);obtain⟨σ6,H6,I6,q6⟩:=zz9;refine wpAny_passesOwn hp (thn (hb _ s6 σ6 H6 _ I6 q6) λ f s7 q7=>?_);have again:∀ {σ7:St} {H7:Hp},Inv X (pins++Zgn fp s5.heap) σ7 H7 s7->N σ7 H7->∃ m,m<n/\∃ i σ' H',Inv X pins σ' H' s7/\tn i s7.heap/\(∀ b∈fp,H' b=none)/\W i m σ' H':=λ {σ7 H7} I7 n7=>by
      obtain⟨m',hm,w7⟩:=hN σ7 H7 n7;refine⟨m',hm,i+1,σ7,H7,I7.unpinned,T.keep _ _ _ st5 λ b hb o e=>(I7.pin (b,o) (mem_append_right _ (mem_append_right _ (ZaO hb e)))).1,λ b hb=>?_,w7⟩;obtain⟨o,e,d⟩:=T.obj _ _ st5 b hb;exact(I7.pin (b,o) (mem_append_right _ (mem_append_right _ (ZaO hb e)))).2.1
    cases f with
    |next=>obtain⟨σ7,H7,I7,n7⟩:=q7;exact again I7 n7
    |cont=>obtain⟨σ7,H7,I7,n7⟩:=q7;exact again I7 n7
    |brk=>obtain⟨σ7,H7,I7,q7⟩:=q7;exact⟨σ7,H7,I7.unpinned,q7⟩
    |ret v=>obtain⟨x7,σ7,H7,I7,r7,q7⟩:=q7;exact⟨x7,σ7,H7,I7.unpinned,r7,q7⟩
end
theorem JJ {K:Frag}{a:Addr}{xs:List V}{g:TG}{tb:TS}{D:Ends}{σ:St}{H:Hp}(Pv:Nat->St->Hp->Prop)(h0:Pv 0 σ H)(hl:∀ i σ H,i<=xs.length->Pv i σ H->SqL K H a xs)(hs:∀ i x σ H,xs[i]? = some x->Pv i σ H->g x σ H λ σ2 H2=>tb { D with nx:=Pv (i+1),ct:=Pv (i+1),bk:=D.nx } σ2 H2)(hd:∀ σ H,Pv xs.length σ H->D.nx σ H) :
    ∃ W:Nat->Nat->St->Hp->Prop,(∃ m,W 0 m σ H)/\∀ i m σ H,W i m σ H ->
      ((Itl K a).stop i H/\D.nx σ H)\/((Itl K a).go i H/\∃ N:St->Hp->Prop,(∀ σ' H',N σ' H'->∃ m',m'<m/\W (i+1) m' σ' H')/\∀ x H',(Itl K a).yld i H x H'->g x σ H' λ σ2 H2=>tb { D with nx:=N,ct:=N,bk:=D.nx } σ2 H2):=by
  refine⟨λ i m σ H=>m=xs.length - i/\i<=xs.length/\Pv i σ H,⟨xs.length,by simp,zero_le _,h0⟩,?_⟩;rintro i m σ H ⟨rfl,hi,p⟩;have q:=hl i σ H hi p
  by_cases hlt:i<xs.length
  . refine .inr ⟨⟨xs,xs[i],q,by simp[hlt]⟩,Pv (i+1),λ σ' H' p'=>⟨xs.length - (i+1),by omega,rfl,hlt,p'⟩,λ x H' y=>?_⟩;obtain⟨e,y⟩:=y;subst e;exact hs i x σ _ (y xs q) p
  . have e:i=xs.length:=by omega
    subst e;exact .inl ⟨⟨xs,q,le_refl _⟩,hd σ H p⟩
theorem ZaC {lo:Int}{n:Nat}{g:TG}{tb:TS}{D:Ends}{σ:St}{H:Hp}(Pv:Nat->St->Hp->Prop)(h0:Pv 0 σ H)(hs:∀ i σ H,i<n->Pv i σ H->g (.int (lo+i)) σ H λ σ2 H2=>tb { D with nx:=Pv (i+1),ct:=Pv (i+1),bk:=D.nx } σ2 H2)(hd:∀ σ H,Pv n σ H->D.nx σ H) :
    ∃ W:Nat->Nat->St->Hp->Prop,(∃ m,W 0 m σ H)/\∀ i m σ H,W i m σ H ->
      ((Itr lo n).stop i H/\D.nx σ H)\/((Itr lo n).go i H/\∃ N:St->Hp->Prop,(∀ σ' H',N σ' H'->∃ m',m'<m/\W (i+1) m' σ' H')/\∀ x H',(Itr lo n).yld i H x H'->g x σ H' λ σ2 H2=>tb { D with nx:=N,ct:=N,bk:=D.nx } σ2 H2):=by
  refine⟨λ i m σ H=>m=n - i/\i<=n/\Pv i σ H,⟨n,by simp,zero_le _,h0⟩,?_⟩;rintro i m σ H ⟨rfl,hi,p⟩
  by_cases hlt:i<n
  . refine .inr ⟨hlt,Pv (i+1),λ σ' H' p'=>⟨n - (i+1),by omega,rfl,hlt,p'⟩,λ x H' y=>?_⟩;obtain⟨e,y⟩:=y;subst e y;exact hs i σ _ hlt p
  . have e:i=n:=by omega
    subst e;exact .inl ⟨le_refl _,hd σ H p⟩
open PySem PySem.Spec PyProof.Rows
noncomputable abbrev R2:=V->V->Hp->VK->Prop
noncomputable def OpR (X:Cx)(f:Value->Value->Sem Value)(r:R2):Prop:=
  ∀(pins:List (Addr×Obj))(s:Shared)(σ:St)(H:Hp)(x y:V)(v u:Value)(Q:VK),Inv X pins σ H s->ZI x v->ZI y u->r x y H Q ->
    wpAny (model X.prog X.w) X.A (f v u) (EP X pins σ Q) X.xe s
noncomputable def UnR (X:Cx)(f:Value->Sem Value)(r:V->Hp->VK->Prop):Prop:=
  ∀(pins:List (Addr×Obj))(s:Shared)(σ:St)(H:Hp)(x:V)(v:Value)(Q:VK),Inv X pins σ H s->ZI x v->r x H Q ->
    wpAny (model X.prog X.w) X.A (f v) (EP X pins σ Q) X.xe s
noncomputable def Xt (X:Cx)(f:Value)(r:List V->Hp->VK->Prop):Prop:=
  ∀(pins:List (Addr×Obj))(s:Shared)(σ:St)(H:Hp)(xs:List V)(us:List Value)(Q:VK),Inv X pins σ H s->ZJ xs us->r xs H Q ->
    wpAny (model X.prog X.w) X.A (call f us) (EP X pins σ Q) X.xe s
noncomputable def TruR (X:Cx)(r:V->Hp->(Bool->Hp->Prop)->Prop):Prop:=
  ∀(pins:List (Addr×Obj))(s:Shared)(σ:St)(H:Hp)(x:V)(v:Value)(Q:Bool->Hp->Prop),Inv X pins σ H s->ZI x v->r x H Q ->
    wpAny (model X.prog X.w) X.A (truthy v) (TP X pins σ Q) X.xe s
noncomputable def tOp (r:R2)(ta tb:TE):TE:=λ σ H Q=>ta σ H λ x H1=>tb σ H1 λ y H2=>r x y H2 Q
noncomputable def tUn (r:V->Hp->VK->Prop)(ta:TE):TE:=λ σ H Q=>ta σ H λ x H1=>r x H1 Q
noncomputable def rI (C:Int->Int->Prop)(g:Int->Int->V):R2:=λ x y H Q=>∃ i j,x = .int i/\y = .int j/\C i j/\Q (g i j) H
noncomputable def rI0 (g:Int->Int->V):R2:=λ x y H Q=>∃ i j,x = .int i/\y = .int j/\Q (g i j) H
noncomputable def rU (g:Int->V):V->Hp->VK->Prop:=λ x H Q=>∃ i,x = .int i/\Q (g i) H
section
variable {X:Cx}{a b c:Expr}{ta tb tc:TE}{pos:Pos}
theorem binT (ha:PE X a ta)(hb:PE X b tb){pins:List (Addr×Obj)}{s:Shared}{σ:St}{H:Hp}{R:V->V->Hp->Prop}(I:Inv X pins σ H s)(h:ta σ H λ x H1=>tb σ H1 λ y H2=>R x y H2){Q:Value->Shared->Prop}{f:Value->Value->Sem Value}(hf:∀ v u s2 x y H2,Inv X pins σ H2 s2->ZI x v->ZI y u->R x y H2->wpAny (model X.prog X.w) X.A (f v u) Q X.xe s2) :
    wpAny (model X.prog X.w) X.A (eval a X.env) (λ v s₁=>wpAny (model X.prog X.w) X.A (eval b X.env) (λ u s₂=>wpAny (model X.prog X.w) X.A (f v u) Q X.xe s₂) X.xe s₁) X.xe s:=by
  refine thn (ha pins s σ H _ I h) λ v s1 zz9=>?_;obtain⟨x,H1,I1,r1,q1⟩:=zz9;refine thn (hb pins s1 σ H1 _ I1 q1) λ u s2 zz9=>?_;obtain⟨y,H2,I2,r2,q2⟩:=zz9;exact hf v u s2 x y H2 I2 r1 r2 q2
theorem Zq {op:Operator}{r:R2}(ho:OpR X (binaryOp op) r)(ha:PE X a ta)(hb:PE X b tb):PE X (.BinOp a op b pos) (tOp r ta tb):=by
 refine⟨?_⟩;intro pins s σ H Q I h;exact wpAny_BinOp (binT ha hb I h λ v u s2 x y H2 I2 rx ry q=>ho pins s2 σ H2 x y v u Q I2 rx ry q)
theorem pe_un {op:UnaryOp}{r:V->Hp->VK->Prop}(ho:UnR X (unaryOp op) r)(ha:PE X a ta):PE X (.UnaryOp op a pos) (tUn r ta):=by
 refine⟨?_⟩;intro pins s σ H Q I h;exact UnaryOp_ (thn (ha pins s σ H _ I h) λ v s1 ⟨x,H1,I1,r1,q1⟩=>ho pins s1 σ H1 x v Q I1 r1 q1)
theorem opI {f:Value->Value->Sem Value}{C:Int->Int->Prop}{g:Int->Int->Int}(rule:∀(i j:Int)(t u:Tok)(s:Shared)(Q:Value->Shared->Prop)(E:Value->Shared->Prop),C i j->Q (.int (g i j) s.toks) { s with toks:=s.toks+1 }->wpAny (model X.prog X.w) X.A (f (.int i t) (.int j u)) Q E s) :
    OpR X f (rI C λ i j => .int (g i j)):=by
  intro pins s σ H x y v u Q I rx ry h;obtain⟨i,j,rfl,rfl,hc,q⟩:=h;obtain⟨t,rfl⟩:=rx;obtain⟨t',rfl⟩:=ry;exact rule i j t t' s _ _ hc ⟨.int (g i j),H,I.tok _,⟨_,rfl⟩,q⟩
theorem opI0 {f:Value->Value->Sem Value}{g:Int->Int->Int}(rule:∀(i j:Int)(t u:Tok)(s:Shared)(Q:Value->Shared->Prop)(E:Value->Shared->Prop),Q (.int (g i j) s.toks) { s with toks:=s.toks+1 }->wpAny (model X.prog X.w) X.A (f (.int i t) (.int j u)) Q E s) :
    OpR X f (rI0 λ i j => .int (g i j)):=by
  intro pins s σ H x y v u Q I rx ry h;obtain⟨i,j,rfl,rfl,q⟩:=h;obtain⟨t,rfl⟩:=rx;obtain⟨t',rfl⟩:=ry;exact rule i j t t' s _ _ ⟨.int (g i j),H,I.tok _,⟨_,rfl⟩,q⟩
theorem opB0 {f:Value->Value->Sem Value}{g:Int->Int->Bool}(rule:∀(i j:Int)(t u:Tok)(s:Shared)(Q:Value->Shared->Prop)(E:Value->Shared->Prop),Q (.bool (g i j)) s->wpAny (model X.prog X.w) X.A (f (.int i t) (.int j u)) Q E s) :
    OpR X f (rI0 λ i j => .bl (g i j)):=by
  intro pins s σ H x y v u Q I rx ry h;obtain⟨i,j,rfl,rfl,q⟩:=h;obtain⟨t,rfl⟩:=rx;obtain⟨t',rfl⟩:=ry;exact rule i j t t' s _ _ ⟨.bl (g i j),H,I,rfl,q⟩
noncomputable def CDiv (i j:Int):Prop:=0<j/\j<1073741824
noncomputable def CPow (i j:Int):Prop:=0<=j/\j<=1000000/\i.natAbs<2 ^ 64
noncomputable def CMul (i j:Int):Prop:=(-(2 ^ 64)<i/\i<2 ^ 64)\/(-(2 ^ 64)<j/\j<2 ^ 64)
theorem CMul.ok {i j:Int}(h:CMul i j):IntMulOk i j:=by
  rcases h with ⟨h1,h2⟩|⟨h1,h2⟩
  . exact .of_left (intBits_le_64 h1 h2)
  . exact .of_right (intBits_le_64 h1 h2)
theorem Z8:OpR X (binaryOp .Add) (rI0 λ i j => .int (i+j)):=opI0 λ _ _ _ _ _ _ _ q=>add_int q
theorem Zai:OpR X (binaryOp .Sub) (rI0 λ i j => .int (i - j)):=opI0 λ _ _ _ _ _ _ _ q=>sub_int q
theorem ZbZ:OpR X (binaryOp .Mult) (rI CMul λ i j => .int (i * j)):=opI λ _ _ _ _ _ _ _ hc q=>mul_int q hc.ok
theorem ZZ:OpR X (binaryOp .FloorDiv) (rI CDiv λ i j => .int (i / j)):=opI λ i j _ _ _ _ _ hc q=>by
 have h1:(0:Int)<j:=hc.1;have h2:j<1073741824:=hc.2;exact floordiv_int (by omega) (by rw[Int.fdiv_eq_ediv_of_nonneg i (by omega)];exact q) (.inl (PyProof.noPylong_small (by omega)))
theorem ZL:OpR X (binaryOp .Mod) (rI (λ _ j=>0<j) λ i j => .int (i % j)):=opI λ i j _ _ _ _ _ hc q=>by
 have h1:(0:Int)<j:=hc;exact mod_int' (by omega) (by rw[Int.fmod_eq_emod_of_nonneg i (by omega)];exact q)
theorem op_pow:OpR X (binaryOp .Pow) (rI CPow λ i j => .int (i ^ j.toNat)):=opI λ _ _ _ _ _ _ _ hc q=>pow_int_small hc.1 hc.2.1 hc.2.2 q
theorem unI {f:Value->Sem Value}{g:Int->Int}(rule:∀(i:Int)(t:Tok)(s:Shared)(Q:Value->Shared->Prop)(E:Value->Shared->Prop),Q (.int (g i) s.toks) { s with toks:=s.toks+1 }->wpAny (model X.prog X.w) X.A (f (.int i t)) Q E s) :
    UnR X f (rU λ i => .int (g i)):=by
  intro pins s σ H x v Q I rx h;obtain⟨i,rfl,q⟩:=h;obtain⟨t,rfl⟩:=rx;exact rule i t s _ _ ⟨.int (g i),H,I.tok _,⟨_,rfl⟩,q⟩
theorem un_neg:UnR X (unaryOp .USub) (rU λ i => .int (-i)):=unI λ _ _ _ _ _ q=>neg_int q
end
noncomputable def scal:V->V->Bool
  |.non, .non=>true|.non, .int _=>true|.int _, .non=>true|.non, .bl _=>true|.bl _, .non=>true|.non, .str _=>true|.str _, .non=>true
  |.int _, .int _=>true|.bl _, .bl _=>true|.str _, .str _=>true|.byt _, .byt _=>true
  |.int _, .str _=>true|.str _, .int _=>true|.bl _, .str _=>true|.str _, .bl _=>true
  |_,_=>false
noncomputable def rEq:R2:=λ x y H Q=>scal x y=true/\Q (.bl (decide (x=y))) H
noncomputable def rNe:R2:=λ x y H Q=>scal x y=true/\Q (.bl (!decide (x=y))) H
theorem Zk6 {i j:Int}:decide (V.int i=V.int j)=(i == j):=by
 rw[Bool.eq_iff_iff];simp
theorem Zne {i j:Bool}:decide (V.bl i=V.bl j)=(i == j):=by
 rw[Bool.eq_iff_iff];simp
theorem Zk5 {i j:Str}:decide (V.str i=V.str j)=(i == j):=by
 rw[Bool.eq_iff_iff];simp
theorem Zk7 {i j:Array UInt8}:decide (V.byt i=V.byt j)=(i.toList == j.toList):=by
 rw[Bool.eq_iff_iff];cases i;cases j;simp
section
variable {X:Cx}{a b c:Expr}{ta tb tc:TE}{pos:Pos}
theorem ZW {pins:List (Addr×Obj)}{σ:St}{H:Hp}{s:Shared}{Q:VK}{k k':Bool}(I:Inv X pins σ H s)(q:Q (.bl k) H)(e:k=k'):EP X pins σ Q (.bool k') s:=by
 subst e;exact⟨.bl k,H,I,rfl,q⟩
theorem Z1:OpR X (compareOp .Eq) rEq:=by
  intro pins s σ H x y v u Q I rx ry h;obtain⟨hs,q⟩:=h;cases x with
  |non=>
    cases rx;cases y with
    |non=>cases ry;exact PySem.EqNone.eq_none_none (ZW I q (by simp))
    |bl j=>cases ry;exact PySem.EqNone.eq_none_bool (ZW I q (by simp))
    |int j=>obtain⟨t',rfl⟩:=ry;exact PySem.EqNone.eq_none_int (ZW I q (by simp))
    |str j=>obtain⟨t',rfl⟩:=ry;exact PySem.EqNone.eq_none_str (ZW I q (by simp))
    |_=>exact absurd (show false=true from hs) Bool.false_ne_true
  |bl i=>
    cases rx;cases y with
    |non=>cases ry;exact PySem.EqNone.eq_bool_none (ZW I q (by simp))
    |bl j=>cases ry;exact eq_bool (ZW I q Zne)
    |str j=>obtain⟨t',rfl⟩:=ry;exact PySem.EqMixed.eq_bool_str (ZW I q (by simp))
    |_=>exact absurd (show false=true from hs) Bool.false_ne_true
  |int i=>
    obtain⟨t,rfl⟩:=rx;cases y with
    |non=>cases ry;exact PySem.EqNone.eq_int_none (ZW I q (by simp))
    |int j=>obtain⟨t',rfl⟩:=ry;exact eq_int (ZW I q Zk6)
    |str j=>obtain⟨t',rfl⟩:=ry;exact PySem.EqMixed.eq_int_str (ZW I q (by simp))
    |_=>exact absurd (show false=true from hs) Bool.false_ne_true
  |str i=>
    obtain⟨t,rfl⟩:=rx;cases y with
    |non=>cases ry;exact PySem.EqNone.eq_str_none (ZW I q (by simp))
    |bl j=>cases ry;exact PySem.EqMixed.eq_str_bool (ZW I q (by simp))
    |int j=>obtain⟨t',rfl⟩:=ry;exact PySem.EqMixed.eq_str_int (ZW I q (by simp))
    |str j=>obtain⟨t',rfl⟩:=ry;exact eq_str (ZW I q Zk5)
    |_=>exact absurd (show false=true from hs) Bool.false_ne_true
  |byt i=>
    obtain⟨t,rfl⟩:=rx;cases y with
    |byt j=>obtain⟨t',rfl⟩:=ry;exact PySem.W.eq_bytes (ZW I q Zk7)
    |_=>exact absurd (show false=true from hs) Bool.false_ne_true
  |_=>cases y <;> exact absurd (show false=true from hs) Bool.false_ne_true
theorem ZcJ:OpR X (compareOp .NotEq) rNe:=by
  intro pins s σ H x y v u Q I rx ry h;obtain⟨hs,q⟩:=h;cases x with
  |non=>
    cases rx;cases y with
    |non=>cases ry;exact PySem.EqNone.ne_none_none (ZW I q (by simp))
    |bl j=>cases ry;exact PySem.EqNone.ne_none_bool (ZW I q (by simp))
    |int j=>obtain⟨t',rfl⟩:=ry;exact PySem.EqNone.ne_none_int (ZW I q (by simp))
    |str j=>obtain⟨t',rfl⟩:=ry;exact PySem.EqNone.ne_none_str (ZW I q (by simp))
    |_=>exact absurd (show false=true from hs) Bool.false_ne_true
  |bl i=>
    cases rx;cases y with
    |non=>cases ry;exact PySem.EqNone.ne_bool_none (ZW I q (by simp))
    |bl j=>cases ry;exact ne_bool (ZW I q (congrArg not Zne))
    |str j=>obtain⟨t',rfl⟩:=ry;exact PySem.EqMixed.ne_bool_str (ZW I q (by simp))
    |_=>exact absurd (show false=true from hs) Bool.false_ne_true
  |int i=>
    obtain⟨t,rfl⟩:=rx;cases y with
    |non=>cases ry;exact PySem.EqNone.ne_int_none (ZW I q (by simp))
    |int j=>obtain⟨t',rfl⟩:=ry;exact ne_int (ZW I q (congrArg not Zk6))
    |str j=>obtain⟨t',rfl⟩:=ry;exact PySem.EqMixed.ne_int_str (ZW I q (by simp))
    |_=>exact absurd (show false=true from hs) Bool.false_ne_true
  |str i=>
    obtain⟨t,rfl⟩:=rx;cases y with
    |non=>cases ry;exact PySem.EqNone.ne_str_none (ZW I q (by simp))
    |bl j=>cases ry;exact PySem.EqMixed.ne_str_bool (ZW I q (by simp))
    |int j=>obtain⟨t',rfl⟩:=ry;exact PySem.EqMixed.ne_str_int (ZW I q (by simp))
    |str j=>obtain⟨t',rfl⟩:=ry;exact ne_str (ZW I q (congrArg not Zk5))
    |_=>exact absurd (show false=true from hs) Bool.false_ne_true
  |byt i=>
    obtain⟨t,rfl⟩:=rx;cases y with
    |byt j=>obtain⟨t',rfl⟩:=ry;exact PySem.W.ne_bytes (ZW I q (congrArg not Zk7))
    |_=>exact absurd (show false=true from hs) Bool.false_ne_true
  |_=>cases y <;> exact absurd (show false=true from hs) Bool.false_ne_true
theorem Zax:OpR X (compareOp .Lt) (rI0 λ i j => .bl (decide (i<j))):=opB0 λ _ _ _ _ _ _ _ q=>lt_int q
theorem Zhy:OpR X (compareOp .LtE) (rI0 λ i j => .bl (decide (i<=j))):=opB0 λ _ _ _ _ _ _ _ q=>le_int q
theorem Zay:OpR X (compareOp .Gt) (rI0 λ i j => .bl (decide (j<i))):=opB0 λ _ _ _ _ _ _ _ q=>gt_int q
theorem Zd3:OpR X (compareOp .GtE) (rI0 λ i j => .bl (decide (j<=i))):=opB0 λ _ _ _ _ _ _ _ q=>ge_int q
theorem Zlv:OpR X (compareOp .Lt) (λ x y H Q=>∃ i j,x = .str i/\y = .str j/\Q (.bl (decide (i.cps.toList<j.cps.toList))) H):=by
 intro pins s σ H x y v u Q I rx ry h;obtain⟨i,j,rfl,rfl,q⟩:=h;obtain⟨t,rfl⟩:=rx;obtain⟨t',rfl⟩:=ry;exact lt_str (ZW I q rfl)
theorem Zlw:OpR X (compareOp .In) (λ x y H Q=>∃ i j,x = .str i/\y = .str j/\Q (.bl (!(Builtin.Str.occurrences j i 0 j.length 1).isEmpty)) H):=by
 intro pins s σ H x y v u Q I rx ry h;obtain⟨i,j,rfl,rfl,q⟩:=h;obtain⟨t,rfl⟩:=rx;obtain⟨t',rfl⟩:=ry;exact in_str (ZW I q rfl)
theorem op_isN:OpR X (compareOp .Is) (λ x y H Q=>y = .non/\Q (.bl (decide (x = .non))) H):=by
  intro pins s σ H x y v u Q I rx ry h;obtain⟨rfl,q⟩:=h;cases ry;refine is_none_gen (ZW I q ?_);cases x <;> first
    | (cases rx;rfl)
    | (obtain⟨t,rfl⟩:=rx;rfl)
theorem Zr (b:Expr){op:CmpOp}(h:op ≠ .In:=by decide)(h2:op ≠ .NotIn:=by decide):behindInMarks op b=false:=by
 have e1:(op == CmpOp.In)=false:=by cases op <;> first|rfl|exact absurd rfl h
 have e2:(op == CmpOp.NotIn)=false:=by cases op <;> first|rfl|exact absurd rfl h2
 cases b <;> simp[behindInMarks,e1,e2]
theorem YE {op:CmpOp}{r:R2}(ho:OpR X (compareOp op) r)(ha:PE X a ta)(hb:PE X b tb)(hm:behindInMarks op b=false):PE X (.Compare a [op] [b] pos) (tOp r ta tb):=by
 refine⟨?_⟩;intro pins s σ H Q I h;exact wpAny_Compare1 (binT ha hb I h λ v u s2 x y H2 I2 rx ry q=>ho pins s2 σ H2 x y v u Q I2 rx ry q) hm
noncomputable def tTest (t:TE):TT:=λ σ H Q=>t σ H λ x H'=>∃ k,x = .bl k/\Q k H'
theorem Zo {op:CmpOp}{r:R2}(ho:OpR X (compareOp op) r)(ha:PE X a ta)(hb:PE X b tb)(hm:behindInMarks op b=false):PT X (.Compare a [op] [b] pos) (tTest (tOp r ta tb)):=by
  refine⟨?_⟩;intro pins s σ H Q I h;refine wpAny_isTrue_Compare1 (thn (ha pins s σ H _ I h) λ v s1 ⟨x,H1,I1,r1,q1⟩=>thn (hb pins s1 σ H1 _ I1 q1) λ u s2 ⟨y,H2,I2,r2,q2⟩=>
    thn (ho pins s2 σ H2 x y v u _ I2 r1 r2 q2) λ c s3 ⟨z,H3,I3,r3,k,e,q3⟩=>?_) hm
  subst e;cases r3;exact wpAny_truthy_bool ⟨H3,I3,q3⟩
noncomputable def tChain (r r':R2)(ta tb tc:TE):TE:=λ σ H Q=>ta σ H λ x H1=>tb σ H1 λ y H2=>r x y H2 λ z H3=>∃ k,z = .bl k /\
 (if k=true then tc σ H3 λ w' H4=>r' y w' H4 Q else Q (.bl false) H3)
theorem Zjk {op op':CmpOp}{r r':R2}(ho:OpR X (compareOp op) r)(ho':OpR X (compareOp op') r')(ha:PE X a ta)(hb:PE X b tb)(hc:PE X c tc)(hm:lastMarks [op,op'] [b,c]=false:=by with_unfolding_all rfl):PE X (.Compare a [op,op'] [b,c] pos) (tChain r r' ta tb tc):=by
  refine⟨?_⟩;intro pins s σ H Q I h;refine Compare_chain (thn (ha pins s σ H _ I h) λ v s1 ⟨x,H1,I1,r1,q1⟩=>chain_link (thn (hb pins s1 σ H1 _ I1 q1) λ u s2 ⟨y,H2,I2,r2,q2⟩=>
    thn (ho pins s2 σ H2 x y v u _ I2 r1 r2 q2) λ d s3 ⟨z,H3,I3,r3,k,e,q3⟩=>?_)) hm
  subst e;cases r3;refine wpAny_truthy_bool ?_;cases k with
  |false=>exact ite_ff ⟨.bl false,H3,I3,rfl,q3⟩
  |true=>exact ite_tt (chain_last (thn (hc pins s3 σ H3 _ I3 q3) λ w' s4 ⟨z',H4,I4,r4,q4⟩=>ho' pins s4 σ H4 y z' u w' Q I4 r2 r4 q4))
noncomputable def TruV (K:Frag)(x:V)(H:Hp)(k:Bool):Prop:=
  match x with
  |.non=>k=false
  |.bl b=>k=b
  |.int i=>k=(i != 0)
  |.str y=>y.length<=sizeLine/\k=((y.length:Int) != 0)
  |.byt y=>y.size<=sizeLine/\k=((y.size:Int) != 0)
  |.ref p=>(∃ xs,SqL K H p xs/\k = !xs.isEmpty)\/(∃ xs,SqT K H p xs/\k = !xs.isEmpty)\/∃ kvs,H p=some (.dK kvs)/\k = !kvs.isEmpty
  |_=>False
theorem Zkq {κ:Type}{kvs:List (κ×V)}{vs:List (κ×Value)}(r:KV kvs vs):(!vs.isEmpty) = !kvs.isEmpty:=by
 cases r <;> rfl
theorem ZgP {xs:List V}{its:List Value}(r:ZJ xs its):(!its.toArray.isEmpty) = !xs.isEmpty:=by
 cases r <;> simp
theorem ZeJ:(sizeLine:Nat)<2 ^ 63:=by rw[sizeLine_eq];decide
theorem tru_ok:TruR X (λ x H Q=>∃ k,TruV X.K x H k/\Q k H):=by
  intro pins s σ H x v Q I rx h;obtain⟨k,e,q⟩:=h;have hl:=ZeJ;have hs:sizeLine=16777216:=sizeLine_eq;cases x with
  |non=>
    cases rx;have e':k=false:=e;subst e';exact truthy_none ⟨H,I,q⟩
  |bl b=>
    cases rx;have e':k=b:=e;subst e';exact wpAny_truthy_bool ⟨H,I,q⟩
  |int i=>
    obtain⟨t,rfl⟩:=rx;have e':k=(i != 0):=e;subst e';exact PySem.P.truthy_int ⟨H,I,q⟩
  |str y=>
    obtain⟨t,rfl⟩:=rx;obtain⟨hy,e'⟩:y.length<=sizeLine/\k=((y.length:Int) != 0):=e;subst e';exact PySem.P.truthy_str (by omega) ⟨H,I.tok _,q⟩
  |byt y=>
    obtain⟨t,rfl⟩:=rx;obtain⟨hy,e'⟩:y.size<=sizeLine/\k=((y.size:Int) != 0):=e;subst e';exact PySem.W.truthy_bytes (by omega) ⟨H,I.tok _,q⟩
  |ref p=>
    cases rx;have e':(∃ xs,SqL X.K H p xs/\k = !xs.isEmpty)\/(∃ xs,SqT X.K H p xs/\k = !xs.isEmpty)\/∃ kvs,H p=some (.dK kvs)/\k = !kvs.isEmpty:=e;rcases e' with ⟨xs,hx,e'⟩|⟨xs,hx,e'⟩|⟨kvs,hx,e'⟩
    . subst e';obtain⟨its,r,pl,hz⟩:=I.list hx;have hlen:=r.length;exact wpAny_truthy_list pl.isList (by simp only[size_toArray];omega) ⟨H,I.tok _,by rw[ZgP r];exact q⟩
    . subst e';obtain⟨its,r,pl,hz⟩:=I.tuple hx;have hlen:=r.length;exact truthy_tuple pl (by simp only[size_toArray];omega) ⟨H,I.tok _,by rw[ZgP r];exact q⟩
    . subst e';obtain⟨hz,hS,vs,r,m⟩:kvs.length<=sizeLine/\(p == sysModules)=false/\∃ vs,KV kvs vs/\s.heap.DictOf (ZR X.prog X.w) p vs:=I.hok p _ hx;have hlen:kvs.length=vs.length:=Paired.length r;exact wpAny_truthy_dict hS m (by omega) ⟨H,I.tok _,by rw[Zkq r];exact q⟩
  |_=>exact(show False from e).elim
theorem Zgl (ha:PE X a ta)(he:∀ whole,isTrue a X.env whole=(do let v <- whole;standAt a.pos;holding [v] (truthy v))) :
    PT X a (λ σ H Q=>ta σ H λ x H'=>∃ k,TruV X.K x H' k/\Q k H'):=by
  refine⟨?_⟩;intro pins s σ H Q I h;exact isTrue_plain (thn (ha pins s σ H _ I h) λ v s1 ⟨x,H1,I1,r1,q1⟩=>tru_ok pins s1 σ H1 x v Q I1 r1 q1) (he _)
theorem Yn:OpR X (binaryOp .Add) (λ x y H Q=>∃ i j,x = .str i/\y = .str j/\i.length+j.length<=sizeLine/\Q (.str (i++j)) H):=by
 intro pins s σ H x y v u Q I rx ry h;obtain⟨i,j,rfl,rfl,hz,q⟩:=h;obtain⟨t,rfl⟩:=rx;obtain⟨t',rfl⟩:=ry;exact add_str (λ t' tk=>⟨.str (i++j),H,I.tok _,⟨_,rfl⟩,q⟩) hz
theorem Js {x:V}{us:List Value}(r:ZJ [x] us):∃ u,us=[u]/\ZI x u:=by
  cases r with
  |cons r1 r2=>cases r2;exact⟨_,rfl,r1⟩
theorem vals2 {x y:V}{us:List Value}(r:ZJ [x,y] us):∃ u w',us=[u,w']/\ZI x u/\ZI y w':=by
  cases r with
  |cons r1 r2=>
    cases r2 with
    |cons r3 r4=>cases r4;exact⟨_,_,rfl,r1,r3⟩
theorem Zcv (hc:X.calm=true):Xt X (.builtin "max") (λ xs H Q=>∃ i j,xs=[.int i, .int j]/\Q (.int (if j>i then j else i)) H):=by
  intro pins s σ H xs us Q I r h;obtain⟨i,j,rfl,q⟩:=h;obtain⟨u,w',rfl,⟨t,rfl⟩,⟨t',rfl⟩⟩:=vals2 r;refine max_two_ints (I.ok.hd hc) λ h' tk k=>⟨_,H,I.kept k,?_,q⟩
  by_cases hj:j>i
  . rw[if_pos hj,if_pos hj];exact⟨_,rfl⟩
  . rw[if_neg hj,if_neg hj];exact⟨_,rfl⟩
theorem ZhO (hc:X.calm=true):Xt X (.builtin "min") (λ xs H Q=>∃ i j,xs=[.int i, .int j]/\Q (.int (if j<i then j else i)) H):=by
  intro pins s σ H xs us Q I r h;obtain⟨i,j,rfl,q⟩:=h;obtain⟨u,w',rfl,⟨t,rfl⟩,⟨t',rfl⟩⟩:=vals2 r;refine min_two_ints (I.ok.hd hc) λ h' tk k=>⟨_,H,I.kept k,?_,q⟩
  by_cases hj:j<i
  . rw[if_pos hj,if_pos hj];exact⟨_,rfl⟩
  . rw[if_neg hj,if_neg hj];exact⟨_,rfl⟩
theorem Jr:Xt X (.type "int") (λ xs H Q=>(∃ i,xs=[.int i]/\Q (.int i) H)\/∃ k,xs=[.bl k]/\Q (.int (if k then 1 else 0)) H):=by
  intro pins s σ H xs us Q I r h;rcases h with ⟨i,rfl,q⟩|⟨k,rfl,q⟩
  . obtain⟨u,rfl,t,rfl⟩:=Js r;exact call_int_int ⟨.int i,H,I,⟨_,rfl⟩,q⟩
  . obtain⟨u,rfl,r1⟩:=Js r;cases r1;exact call_int_bool ⟨.int (if k then 1 else 0),H,I.tok _,⟨_,rfl⟩,q⟩
theorem XB:Xt X (.type "str") (λ xs H Q=>∃ i,xs=[.int i]/\i.natAbs.log2<1920/\Q (.str (toString i)) H):=by
 intro pins s σ H xs us Q I r h;obtain⟨i,rfl,hz,q⟩:=h;obtain⟨u,rfl,t,rfl⟩:=Js r;exact PySem.P.str_of_int hz ⟨.str _,H,I.tok _,⟨_,rfl⟩,q⟩
noncomputable def LenV (K:Frag)(x:V)(H:Hp)(n:Nat):Prop:=
  match x with
  |.str y=>y.length<=sizeLine/\n=y.length
  |.byt y=>y.size<=sizeLine/\n=y.size
  |.ref p=>(∃ xs,SqL K H p xs/\n=xs.length)\/∃ xs,SqT K H p xs/\n=xs.length
  |_=>False
theorem ZO:Xt X (.builtin "len") (λ xs H Q=>∃ x n,xs=[x]/\LenV X.K x H n/\Q (.int n) H):=by
  intro pins s σ H xs us Q I r h;obtain⟨x,n,rfl,e,q⟩:=h;obtain⟨u,rfl,rx⟩:=Js r;have hl:=ZeJ;have hs:sizeLine=16777216:=sizeLine_eq;cases x with
  |str y=>
    obtain⟨t,rfl⟩:=rx;obtain⟨hy,e'⟩:y.length<=sizeLine/\n=y.length:=e;subst e';exact len_str (by omega) ⟨.int _,H,I.tok _,⟨_,rfl⟩,q⟩
  |byt y=>
    obtain⟨t,rfl⟩:=rx;obtain⟨hy,e'⟩:y.size<=sizeLine/\n=y.size:=e;subst e';exact PySem.W.len_bytes (by omega) ⟨.int _,H,I.tok _,⟨_,rfl⟩,q⟩
  |ref p=>
    cases rx;have e':(∃ xs,SqL X.K H p xs/\n=xs.length)\/∃ xs,SqT X.K H p xs/\n=xs.length:=e;rcases e' with ⟨xs,hx,e'⟩|⟨xs,hx,e'⟩
    . subst e';obtain⟨its,r',pl,hz⟩:=I.list hx;have hlen:=r'.length;exact Calls.call_len_list pl.isList (by simp only[size_toArray];omega) ⟨.int xs.length,H,I.tok _,⟨_,by simp only[size_toArray];rw[hlen]⟩,q⟩
    . subst e';obtain⟨its,r',pl,hz⟩:=I.tuple hx;have hlen:=r'.length;exact len_tuple pl (by simp only[size_toArray];omega) ⟨.int xs.length,H,I.tok _,⟨_,by simp only[size_toArray];rw[hlen]⟩,q⟩
  |_=>exact(show False from e).elim
end
open PySem PySem.Spec PyProof.Rows
structure ObjM (h:Heap)(x dx C:Addr)(mA:Str->Option Value):Prop where
  obj:h.get? x=some (instObj C dx)
  ns:h.Ns1 dx mA
  ne:dx≠x
theorem ZlJ {h:Heap}{dx:Addr}{mA:Str->Option Value}(n:h.Ns1 dx mA):∃ od,h.get? dx=some od/\∀ name,lookIn name od=some (mA name):=by
  obtain⟨o,es,ep,ho,hd,hk,_,hm⟩:=n;refine⟨o,ho,λ name=>?_⟩;have e:=hm name;unfold nsFind findBy at e;rw[<- Array.find?_toList]at e;unfold lookIn;rw[hd];dsimp only;split
  . rename_i y q;rw[q]at e;exact congrArg some e
  . rename_i q;rw[q]at e;have a:es.toList.any (·.refKey)=false:=by
      rw[List.any_eq_false];intro y hy;obtain⟨z,t,hkey⟩:=hk y (Array.mem_toList_iff.mp hy);simp[DictEntry.refKey,hkey]
    have a':¬ es.toList.any (·.refKey)=true:=by rw[a];exact Bool.false_ne_true
    rw[if_neg a'];exact congrArg some e
theorem ObjM.look {h:Heap}{x dx C:Addr}{mA:Str->Option Value}(I:ObjM h x dx C mA):∃ od,PySem.W.InstAt h x (instObj C dx) C (some od)/\∀ name,lookIn name od=some (mA name):=
 let ⟨od,ho,hl⟩:=ZlJ I.ns
 ⟨od,⟨I.obj,rfl,rfl,ho⟩,hl⟩
section
variable {prog:Program}{w:World}{A:Around}{E:Value->Shared->Prop}{s:Shared}{K:Frag}{x dx C f:Addr}{mA:Str->Option Value}{name:Str}{v:Value}
theorem ZnY {expr:Bool}{Q:Value->Shared->Prop}(X:K.In s.heap)(I:ObjM s.heap x dx C mA)(hg:plainGet K C name=true)(hh:hasDictIn K C=true)(ha:findIn K (.ref C) name=some none)(hv:mA name=some v)(hv':PySem.W.handedIn v=true)(h:Q v { s with toks:=s.toks+1 }) :
    wpAny (model prog w) A (getAttr (.ref x) name expr) Q E s:=by
  obtain⟨od,J,hl⟩:=I.look;exact PySem.W.get_value X J (PySem.W.plainGet_of hg).1 (PySem.W.findObj_own hh ha rfl (by rw[hl,hv])) hv' h
theorem Zm4 {pl:Sem Bool}{Q:Value×List Value->Shared->Prop}(X:K.In s.heap)(I:ObjM s.heap x dx C mA)(hg:plainGet K C name=true)(hf:findIn K (.ref C) name=some (some (.ref f)))(ht:isFn K (.ref f)=true)(hv:mA name=none)(h:Q (.ref f,[.ref x]) s) :
    wpAny (model prog w) A (getMethod (.ref x) name pl) Q E s:=by
  obtain⟨od,J,hl⟩:=I.look;exact PySem.W.method_fn X J (PySem.W.plainGet_of hg).1 (PySem.W.plainGet_of hg).2 hf (beq_iff_eq.mp ht) (by show(lookIn name od).map (·.isSome)=some false;rw[hl,hv];rfl) h
theorem ZnA {ns:List Str}{Q:Unit->Shared->Prop}(X:K.In s.heap)(I:ObjM s.heap x dx C mA)(hs:findIn K (.ref C) "__setattr__"=some (some (.builtin "object.__setattr__")))(hp:plainOver K C=true)(ht:PySem.W.takerIn K C name=some none)(hh:hasDictIn K C=true)(hw:PySem.Within mA ns)(hsz:ns.length<=sizeLine)(h:∀ h',ObjM h' x dx C (λ y=>if y=name then some v else mA y)->Heap.SameBut dx s.heap h'->Q () { s with heap:=h',toks:=s.toks+2 }) :
    wpAny (model prog w) A (setAttr (.ref x) name v) Q E s:=by
  obtain⟨od,J,hl⟩:=I.look;refine PySem.W.set_plain X J hs (PySem.W.osa_open (s:={ s with toks:=s.toks+1 }) (r:=none) X J hp ht λ b=>?_);obtain⟨cd,hc,hd'⟩:=PySem.W.any_some hh;have hx:s.heap.get? x=some ⟨.ref C,some dx, .plain,#[]⟩:=I.obj;refine wpAny_bind (wpAny_pure (wpAny_bind (wpAny_bind (wpAny_loadPart hx (wpAny_bind (PySem.W.Looks.here (s:={ s with toks:=s.toks+1 }) (PySem.W.looks_clsIn X hc) ?_))))));rw[hd'];refine wpAny_pure (a:=some dx) (wpAny_bind (wpAny_pure (wpAny_bind ?_)));refine wpAny_nsSet1 (s:={ s with toks:=s.toks+1 }) I.ns λ h' hn2 hs2=>?_;obtain⟨oD,esD,epD,hoD,hdD,hcD⟩:=hn2.count (PySem.Within.cons name v hw);refine wpAny_bind (wpAny_lookBehind hoD (by rw[hdD];exact pastItsLine_dict (le_trans hcD (by rw[length_cons];omega))) ?_);exact wpAny_pure (h _ ⟨(hs2.2 _ (Ne.symm I.ne)).trans I.obj,hn2,I.ne⟩ hs2)
theorem ZmK {R:Result->Shared->Prop}{vs:List Value}{kw:List (Str×Value)}(X:K.In s.heap)(hm:makesIn K C=true)(hi:findIn K (.ref C) "__init__"=some (some (.ref f)))(hf:PySem.W.typeIn K (.ref f)=some (.type "function"))(h:codeAny (model prog w) (A.under (.builtin "type.__call__" ⟨.ref C::vs,kw⟩)) (.call (.ref f) ⟨.ref (s.heap.objs.size+1)::vs,kw⟩) (PySem.W.InitBack (s.heap.objs.size+1) R)
      { s with heap:=(s.heap.push emptyDict).push (instObj C s.heap.objs.size) }) :
    codeAny (model prog w) A (.call (.ref C) ⟨vs,kw⟩) R s:=by
  obtain⟨hh,g,d,t,os⟩:=s;exact PySem.W.make_core (PySem.W.makes_of X hm) (PySem.W.looks_findIn X hi) (λ self=>PySem.W.bind_fn X self hf) (.inl rfl) h
end
noncomputable def ZbY (f:Str)(v:V):List (Str×V)->List (Str×V)
  |[]=>[(f,v)]
  |(g,x)::r=>if g=f then (g,v)::r else (g,x)::ZbY f v r
theorem Zfb (f g:Str)(v:V):∀ fs:List (Str×V),(ZbY f v fs).lookup g=if g=f then some v else fs.lookup g
  | []=>by
    show List.lookup g [(f,v)]=_
    by_cases h:g=f
    . have hb:(g == f)=true:=beq_iff_eq.mpr h;simp only[List.lookup,hb,if_pos h]
    . have hb:(g == f)=false:=beq_eq_false_iff_ne.mpr h;simp only[List.lookup,hb,if_neg h]
  | (k,x)::r=>by
    have ih:=Zfb f g v r;rw[show ZbY f v ((k,x)::r)=(if k=f then (k,v)::r else (k,x)::ZbY f v r) from rfl]
    by_cases hk:k=f
    . rw[if_pos hk]
      by_cases h:g=k
      . have hb:(g == k)=true:=beq_iff_eq.mpr h;simp only[List.lookup,hb,if_pos (h.trans hk)]
      . have hb:(g == k)=false:=beq_eq_false_iff_ne.mpr h;simp only[List.lookup,hb,if_neg (λ e:g=f=>h (e.trans hk.symm))]
    . rw[if_neg hk]
      by_cases h:g=k
      . have hb:(g == k)=true:=beq_iff_eq.mpr h;simp only[List.lookup,hb,if_neg (λ e:g=f=>hk (h.symm.trans e))]
      . have hb:(g == k)=false:=beq_eq_false_iff_ne.mpr h;simp only[List.lookup,hb];exact ih
theorem ZeK (f:Str)(v:V):∀ fs:List (Str×V),f∈(ZbY f v fs).map (·.1)/\∀ g,g∈fs.map (·.1)->g∈(ZbY f v fs).map (·.1)
  |[]=>⟨by simp[ZbY],λ g h=>by simp at h⟩
  | (k,x)::r=>by
    obtain⟨i1,i2⟩:=ZeK f v r;rw[show ZbY f v ((k,x)::r)=(if k=f then (k,v)::r else (k,x)::ZbY f v r) from rfl]
    by_cases hk:k=f
    . rw[if_pos hk];subst hk;exact⟨by simp,λ g h=>by simpa using h⟩
    . rw[if_neg hk];refine⟨?_,λ g h=>?_⟩
      . rw[map_cons];exact mem_cons_of_mem _ i1
      . rw[map_cons]at h ⊢;rcases List.mem_cons.mp h with e|e
        . exact List.mem_cons.mpr (.inl e)
        . exact mem_cons_of_mem _ (i2 g e)
theorem Zfd (f:Str)(v:V):∀ fs:List (Str×V),(ZbY f v fs).length<=fs.length+1
  |[]=>by simp[ZbY]
  | (k,x)::r=>by
    have ih:=Zfd f v r;rw[show ZbY f v ((k,x)::r)=(if k=f then (k,v)::r else (k,x)::ZbY f v r) from rfl]
    by_cases hk:k=f
    . rw[if_pos hk,length_cons,length_cons];omega
    . rw[if_neg hk,length_cons,length_cons];omega
theorem Zbe.some_of {v:V}{o:Option Value}(r:Zbe (some v) o):∃ u,o=some u/\ZI v u:=by
  cases o with
  |none=>exact(show False from r).elim
  |some u=>exact⟨u,rfl,r⟩
theorem Zbe.none_of {o:Option Value}(r:Zbe none o):o=none:=by
  cases o with
  |none=>rfl
  |some u=>exact(show False from r).elim
theorem ZlQ {v:V}{u:Value}(r:ZI v u):PySem.W.handedIn u=true:=by
  cases v with
  |non=>cases (show u=Value.none from r);rfl
  |bl b=>cases (show u=Value.bool b from r);rfl
  |int i=>obtain⟨t,e⟩:=(show ∃ t,u=Value.int i t from r);cases e;rfl
  |str x=>obtain⟨t,e⟩:=(show ∃ t,u=Value.str x t from r);cases e;rfl
  |byt b=>obtain⟨t,e⟩:=(show ∃ t,u=Value.bytes b t from r);cases e;rfl
  |flt b=>obtain⟨t,e⟩:=(show ∃ t,u=Value.float b t from r);cases e;rfl
  |ref a=>cases (show u=Value.ref a from r);rfl
  |ty n=>cases (show u=Value.type n from r);rfl
section
variable {P:Program}{w:World}{H H':Hp}{h h':Heap}{a C dx:Addr}{fs fs':List (Str×V)}
theorem ZfI (hok:HOk P w H h)(e:H a=some (.ins C dx fs)):∃ mA,ObjM h a dx C mA/\(∀ f,Zbe (fs.lookup f) (mA f))/\PySem.Within mA (fs.map (·.1))/\fs.length<=1000/\H dx=some (.own a):=by
 obtain⟨d,z,ne,ob,mA,n,r,q⟩:=(show Yw P w H h a (.ins C dx fs) from hok a _ e);exact⟨mA,⟨ob,n,ne⟩,r,q,z,d⟩
end
structure Cls (K:Frag)(C:Addr):Prop where
  pg:plainGet K C Str.empty=true
  hd:hasDictIn K C=true
  po:plainOver K C=true
  sa:findIn K (.ref C) "__setattr__"=some (some (.builtin "object.__setattr__"))
theorem Cls.get {K:Frag}{C:Addr}(c:Cls K C)(f:Str):plainGet K C f=true:=c.pg
noncomputable def XQ (K:Frag)(C:Addr)(f:Str):Prop:=findIn K (.ref C) f=some none
theorem XQ.taker {K:Frag}{C:Addr}{f:Str}(n:XQ K C f):PySem.W.takerIn K C f=some none:=by
 unfold PySem.W.takerIn;rw[show findIn K (.ref C) f=some none from n];rfl
structure Meth (K:Frag)(C:Addr)(m:Str)(f:Addr):Prop where
  at_:findIn K (.ref C) m=some (some (.ref f))
  fn:isFn K (.ref f)=true
  kp:keepIn K (.ref f)=true
section
variable {X:Cx}{pins:List (Addr×Obj)}{σ:St}{H:Hp}{s:Shared}{a C dx:Addr}{fs:List (Str×V)}{f:Str}{v:V}{A:Around}{E:Value->Shared->Prop}
theorem ZgT {b:Bool}{Q:Value->Shared->Prop}(I:Inv X pins σ H s)(e:H a=some (.ins C dx fs))(c:Cls X.K C)(n:XQ X.K C f)(l:fs.lookup f=some v)(h:∀ u s',Inv X pins σ H s'->ZI v u->Q u s'):wpAny (model X.prog X.w) A (getAttr (.ref a) f b) Q E s:=by
 obtain⟨mA,O,r,_,_,_⟩:=ZfI I.hok e;obtain⟨u,hu,ru⟩:=Zbe.some_of (v:=v) (o:=mA f) (by rw[<- l];exact r f);exact ZnY I.kIn O (c.get f) c.hd n hu (ZlQ ru) (h u _ (I.tok _) ru)
theorem ZgS {m:Str}{g:Addr}{pl:Sem Bool}{Q:Value×List Value->Shared->Prop}(I:Inv X pins σ H s)(e:H a=some (.ins C dx fs))(c:Cls X.K C)(k:Meth X.K C m g)(l:fs.lookup m=none)(h:Q (.ref g,[.ref a]) s):wpAny (model X.prog X.w) A (getMethod (.ref a) m pl) Q E s:=by
 obtain⟨mA,O,r,_,_,_⟩:=ZfI I.hok e;have hn:mA m=none:=Zbe.none_of (by rw[<- l];exact r m);exact Zm4 I.kIn O (c.get m) k.at_ k.fn hn h
theorem Zf0 {y:V}{u:Value}{Q:Unit->Shared->Prop}(I:Inv X pins σ H s)(e:H a=some (.ins C dx fs))(c:Cls X.K C)(n:XQ X.K C f)(hl:fs.length<1000)(ry:ZI y u)(h:∀ s',Inv X pins σ (upd H a (.ins C dx (ZbY f y fs))) s'->Q () s'):wpAny (model X.prog X.w) A (setAttr (.ref a) f u) Q E s:=by
  obtain⟨mA,O,r,wi,_,ho⟩:=ZfI I.hok e;have hz:(fs.map (·.1)).length<=sizeLine:=by rw[length_map,sizeLine_eq];omega
  refine ZnA I.kIn O c.sa c.po n.taker c.hd wi hz λ h' O' sb=>h _ ?_;have hd:∃ o,h'.get? dx=some o:=let ⟨o,_,_,e',_⟩:=O'.ns;⟨o,e'⟩;refine I.write (x:=a) (e:=dx) (by rw[e];exact True.intro) (.inr ho) (λ b q hb z=>(sb.2 b hb).trans z) hd ?_;refine⟨by rw[Zh O.ne];exact ho,?_,O.ne,O'.obj,_,O'.ns,λ g=>?_,λ g hg=>?_⟩
  . have:=Zfd f y fs;omega
  . show Zbe ((ZbY f y fs).lookup g) (if g=f then some u else mA g);rw[Zfb]
    by_cases q:g=f
    . rw[if_pos q,if_pos q];exact ry
    . rw[if_neg q,if_neg q];exact r g
  . by_cases q:g=f
    . rw[q];exact(ZeK f y fs).1
    . refine(ZeK f y fs).2 g (wi g λ z=>hg ?_);show(if g=f then some u else mA g)=none;rw[if_neg q];exact z
theorem Inv.made (I:Inv X pins σ H s):Inv X pins σ (upd (upd H s.heap.objs.size (.own (s.heap.objs.size+1))) (s.heap.objs.size+1) (.ins C s.heap.objs.size []))
    { s with heap:=(s.heap.push emptyDict).push (instObj C s.heap.objs.size) }:=by
  have e1:(s.heap.push emptyDict).get? s.heap.objs.size=some emptyDict:=Heap.get?_push_size s.heap rfl;have e2:((s.heap.push emptyDict).push (instObj C s.heap.objs.size)).get? (s.heap.objs.size+1)=some (instObj C s.heap.objs.size):=by
    have:=Heap.get?_push_size (s.heap.push emptyDict) (o:=instObj C s.heap.objs.size) rfl
    rwa [Heap.size_push]at this
  have e3:(s.heap.push emptyDict).Ns s.heap.objs.size (λ _=>none):=⟨emptyDict,#[],_,e1,rfl,(λ e he=>absurd he (by simp)),λ _=>rfl⟩;have I1:=I.laid (a:=s.heap.objs.size) (o:=.own (s.heap.objs.size+1)) (h':=s.heap.push emptyDict) (t':=s.toks) (λ b u q=>Heap.get?_push_of_some _ q) (le_refl _) ⟨_,e1⟩;refine I1.laid (a:=s.heap.objs.size+1) (o:=.ins C s.heap.objs.size []) (t':=s.toks) (λ b u q=>Heap.get?_push_of_some _ q) (Nat.le_of_eq (Heap.size_push _ _)) ?_;have ne:s.heap.objs.size≠s.heap.objs.size+1:=ne_of_lt (lt_succ_self _);refine⟨by rw[Zh ne,Ze],zero_le _,ne,e2,λ _=>none,(Heap.Ns1.of_empty e3).at λ o q=>Heap.get?_push_of_some _ q,λ _=>True.intro,λ y hy=>absurd rfl hy⟩
theorem Zn3 {prog:Program}{w:World}{env:Env}{e:Expr}{f:Str}{pos:Pos}{s:Shared}{Q:Value->Shared->Prop}(hb:attributeBase e f env (eval e env)=eval e env)(h:wpAny (model prog w) A (eval e env) (λ o s₁=>wpAny (model prog w) A (getAttr o f true) Q E s₁) E s):wpAny (model prog w) A (eval (.Attribute e f pos) env) Q E s:=
 Attribute_any_ h (by rw[arm_eval_Attribute,hb])
end
noncomputable def tFld (K:Frag)(ta:TE)(f:Str):TE:=λ σ H Q=>ta σ H λ x H1=>∃ a C dx fs v,x = .ref a/\H1 a=some (.ins C dx fs)/\Cls K C/\XQ K C f/\fs.lookup f=some v/\Q v H1
noncomputable def sFld (K:Frag)(ta tv:TE)(f:Str):TS:=λ D σ H=>tv σ H λ y H1=>ta σ H1 λ x H2=>∃ a C dx fs,x = .ref a/\H2 a=some (.ins C dx fs)/\Cls K C/\XQ K C f/\fs.length<1000 /\
 D.nx σ (upd H2 a (.ins C dx (ZbY f y fs)))
noncomputable def InOp (X:Cx)(op:Operator)(rd:V->V->Hp->VK->Prop):Prop:=
 ∀(pins:List (Addr×Obj))(s:Shared)(σ:St)(H:Hp)(x y:V)(u v:Value)(Q:VK),Inv X pins σ H s->ZI x u->ZI y v->rd x y H Q->wpAny (model X.prog X.w) X.A (inplaceOp op u v) (EP X pins σ Q) X.xe s
noncomputable def ZnB (K:Frag)(ta tv:TE)(rd:V->V->Hp->VK->Prop)(f:Str):TS:=λ D σ H=>ta σ H λ x H1=>∃ a C dx fs v,x = .ref a/\H1 a=some (.ins C dx fs)/\Cls K C/\XQ K C f/\fs.lookup f=some v /\
 tv σ H1 λ y H2=>rd v y H2 λ z H3=>∃ dx' fs',H3 a=some (.ins C dx' fs')/\fs'.length<1000/\D.nx σ (upd H3 a (.ins C dx' (ZbY f z fs')))
section
variable {X:Cx}{o e value:Expr}{f:Str}{pos pos' tpos:Pos}{ta tv:TE}
theorem Zw (he:PE X e ta)(hb:attributeBase e f X.env (eval e X.env)=eval e X.env):PE X (.Attribute e f pos) (tFld X.K ta f):=by
 refine⟨?_⟩;intro pins s σ H Q I h;refine Zn3 hb (thn (he pins s σ H _ I h) λ u s1 zz9=>?_);obtain⟨x,H1,I1,rx,a,C,dx,fs,v,ex,ea,c,n,l,q⟩:=zz9;subst ex;obtain rfl:u=Value.ref a:=rx;exact ZgT I1 ea c n l λ u' s2 I2 ru=>⟨v,H1,I2,ru,q⟩
theorem Zey (ha:PE X o ta)(hv:PE X value tv)(hs:swapsWith value (some (.Attribute o f pos')) pos.line X.env=pure false):PS X (.Assign [.Attribute o f pos'] value pos) (sFld X.K ta tv f):=by
 refine⟨?_⟩;intro pins s σ H D I h;refine plainObj_wpAny_Assign_Attribute (thn (hv pins s σ H _ I h) λ u s1 ⟨y,H1,I1,ry,q⟩=>thn (ha pins s1 σ H1 _ I1 q) λ ov s2 zz9=>?_) hs;obtain⟨x,H2,I2,rx,a,C,dx,fs,ex,ea,c,n,l,q2⟩:=zz9;subst ex;obtain rfl:ov=Value.ref a:=rx;exact Zf0 I2 ea c n l ry λ s3 I3=>⟨σ,_,I3,q2⟩
theorem Zls {op:Operator}{rd:V->V->Hp->VK->Prop}(ha:PE X o ta)(hv:PE X value tv)(hop:InOp X op rd):PS X (.AugAssign (.Attribute o f tpos) op value pos) (ZnB X.K ta tv rd f):=by
 refine⟨?_⟩;intro pins s σ H D I h;refine wpAny_AugAssign_AttributeAny (thn (ha pins s σ H _ I h) λ ov s1 zz9=>?_);obtain⟨x,H1,I1,rx,a,C,dx,fs,v,ex,ea,c,n,l,q⟩:=zz9;subst ex;obtain rfl:ov=Value.ref a:=rx;refine ZgT I1 ea c n l λ u s2 I2 ru=>thn (hv pins s2 σ H1 _ I2 q) λ w3 s3 ⟨y,H2,I3,ry,q3⟩=>thn (hop pins s3 σ H2 v y u w3 _ I3 ru ry q3) λ w4 s4 zz9=>?_;obtain⟨z,H3,I4,rz,dx',fs',ea',l',q4⟩:=zz9;exact Zf0 I4 ea' c n l' rz λ s5 I5=>⟨σ,_,I5,q4⟩
noncomputable def rAdd:V->V->Hp->VK->Prop:=λ x y H Q=>∃ i j,x = .int i/\y = .int j/\Q (.int (i+j)) H
theorem in_add:InOp X .Add rAdd:=by
 rintro pins s σ H x y u v Q I rx ry ⟨i,j,rfl,rfl,q⟩;obtain⟨t,rfl⟩:=(show ∃ t,u=Value.int i t from rx);obtain⟨t',rfl⟩:=(show ∃ t',v=Value.int j t' from ry);exact PyProof.Rows.iadd_int ⟨.int (i+j),H,I.tok _,⟨_,rfl⟩,q⟩
end
section
variable {X:Cx}{pins:List (Addr×Obj)}{σ:St}{H:Hp}{s:Shared}{A:Around}{E:Value->Shared->Prop}{Q:Value->Shared->Prop}{c:Value}{b:Bool}
inductive TyOf (K:Frag)(H:Hp):V->Value->Prop where
  | non:TyOf K H .non (.type "NoneType")
  | bl (x:Bool):TyOf K H (.bl x) (.type "bool")
  | int (i:Int):TyOf K H (.int i) (.type "int")
  | str (x:Str):TyOf K H (.str x) (.type "str")
  | flt (x:UInt64):TyOf K H (.flt x) (.type "float")
  | lst {a:Addr} {xs:List V} (e:H a=some (.lst xs)):TyOf K H (.ref a) (.type "list")
  | frz {a:Addr} {o:Obj} {xs:List V} (e:H a=some (.frz o (.lst xs))):TyOf K H (.ref a) (.type "list")
  | tup {a:Addr} {xs:List V} (e:H a=some (.tup xs)):TyOf K H (.ref a) (.type "tuple")
  | dK {a:Addr} {kvs:List (Key×V)} (e:H a=some (.dK kvs)):TyOf K H (.ref a) (.type "dict")
  | dT {a:Addr} {kvs:List (List Key×V)} (e:H a=some (.dT kvs)):TyOf K H (.ref a) (.type "dict")
  | ins {a C dx:Addr} {fs:List (Str×V)} (e:H a=some (.ins C dx fs)) (cl:Cls K C) (ha:findIn K (.ref C) "__class__"=some (some (.builtin "object.__class__")))
      (hn:PySem.W.specialIn K (.builtin "object.__class__") "__get__"=some (some (.builtin "getset_descriptor.__get__"))) (htk:PySem.W.takesIn K (.builtin "object.__class__")=some true)
      (hm:PySem.W.mroIn K C (.type "object")=some true):TyOf K H (.ref a) (.ref C)
theorem ZlN {x:V}{u t:Value}(I:Inv X pins σ H s)(rx:ZI x u)(ty:TyOf X.K H x t)(e:PySem.W.kitOne X.K t c=some b)(h:∀ tk,Q (.bool b) { s with toks:=tk }) :
    wpAny (model X.prog X.w) A (call (.builtin "isinstance") [u,c]) Q E s:=by
  cases ty with
  |non=>cases (show u=Value.none from rx);exact PySem.W.kia_one PySem.W.kitx_none I.kIn True.intro e (λ z=>nomatch z) h
  |bl y=>cases (show u=Value.bool y from rx);exact PySem.W.kia_one PySem.W.kitx_bool I.kIn True.intro e (λ z=>nomatch z) h
  |int i=>obtain⟨t,q⟩:=(show ∃ t,u=Value.int i t from rx);cases q;exact PySem.W.kia_one PySem.W.kitx_int I.kIn True.intro e (λ z=>nomatch z) h
  |str y=>obtain⟨t,q⟩:=(show ∃ t,u=Value.str y t from rx);cases q;exact PySem.W.kia_one PySem.W.kitx_str I.kIn True.intro e (λ z=>nomatch z) h
  |flt y=>obtain⟨t,q⟩:=(show ∃ t,u=Value.float y t from rx);cases q;exact PySem.W.kia_one PySem.W.kitx_float I.kIn True.intro e (λ z=>nomatch z) h
  |@lst a xs ea=>
    cases (show u=Value.ref a from rx);obtain⟨_,_,n,_,h1⟩:=(show Yw X.prog X.w H s.heap a (.lst xs) from I.hok a _ ea);exact PySem.W.kia_one PySem.W.kitx_list I.kIn ⟨_,h1,rfl⟩ e (λ z=>nomatch z) h
  |@frz a ob xs ea=>
    cases (show u=Value.ref a from rx);obtain⟨_,_,_,n,_,h1⟩:=(show Yw X.prog X.w H s.heap a (.frz ob (.lst xs)) from I.hok a _ ea);exact PySem.W.kia_one PySem.W.kitx_list I.kIn ⟨_,h1,rfl⟩ e (λ z=>nomatch z) h
  |@tup a xs ea=>
    cases (show u=Value.ref a from rx);obtain⟨_,_,_,p⟩:=(show Yw X.prog X.w H s.heap a (.tup xs) from I.hok a _ ea);obtain⟨o,h1,h2,_⟩:=p;exact PySem.W.kia_one PySem.W.kitx_tuple I.kIn ⟨o,h1,h2⟩ e (λ z=>nomatch z) h
  |@dK a kvs ea=>
    cases (show u=Value.ref a from rx);obtain⟨_,_,vs,_,p⟩:=(show Yw X.prog X.w H s.heap a (.dK kvs) from I.hok a _ ea);obtain⟨o,es,ep,h1,h2,_⟩:=p;exact PySem.W.kia_one PySem.W.kitx_dict I.kIn ⟨o,h1,h2.1⟩ e (λ z=>nomatch z) h
  |@dT a kvs ea=>
    cases (show u=Value.ref a from rx);obtain⟨_,_,xs,_,o,es,ep,h1,h2,_⟩:=(show Yw X.prog X.w H s.heap a (.dT kvs) from I.hok a _ ea);exact PySem.W.kia_one PySem.W.kitx_dict I.kIn ⟨o,h1,h2.1⟩ e (λ z=>nomatch z) h
  |@ins a C dx fs ea cl ha hn htk hm=>
    cases (show u=Value.ref a from rx);obtain⟨mA,O,_⟩:=ZfI I.hok ea;obtain⟨od,J,_⟩:=O.look;exact PySem.W.kia_one (PySem.W.kitx_own (cl.get _) cl.hd ha hn htk hm) I.kIn J e (λ z=>nomatch z) h
end
open PySem PySem.Spec PyProof.Rows
structure Room (k:Nat)(A:Around):Prop where
  hd:A.handled=none
  dp:A.depth+3 * k+5<recursionLimit
  un:A.units+16 * k+200<cLine
theorem Room.mono {j k:Nat}{A:Around}(r:Room k A)(h:j<=k):Room j A:=⟨r.hd,by have:=r.dp;omega,by have:=r.un;omega⟩
theorem Room.deeper {k:Nat}{A:Around}(r:Room (k+1) A)(env:Env):Room k (A.deeper env):=
 ⟨r.hd,by have:=r.dp;show A.depth+1+3 * k+5<_;omega,by have:=r.un;show A.units+3+16 * k+200<_;omega⟩
theorem Zkm {A:Around}{C:Addr}{us:List Value}{kw:List (Str×Value)}:(A.under (.builtin "type.__call__" ⟨.ref C::us,kw⟩)).depth=A.depth+1:=by
 first|rfl|simp[Around.under,Code.weight,Code.isCreation,Code.isGuard,Code.isCaller,Code.frames,Code.isFrame,guardIds]
theorem Zkl {A:Around}{C:Addr}{us:List Value}{kw:List (Str×Value)}:(A.under (.builtin "type.__call__" ⟨.ref C::us,kw⟩)).units=A.units+1:=by
 first|rfl|simp[Around.under,Code.cUnits,Code.frames,Code.isFrame]
theorem Room.make {k:Nat}{A:Around}(r:Room (k+1) A)(C:Addr)(us:List Value)(kw:List (Str×Value)):Room k (A.under (.builtin "type.__call__" ⟨.ref C::us,kw⟩)):=
 ⟨r.hd,by have:=r.dp;rw[Zkm];omega,by have:=r.un;rw[Zkl];omega⟩
theorem Room.depth {k:Nat}{A:Around}(r:Room k A):A.depth<recursionLimit:=by have:=r.dp;omega
theorem Room.units {k:Nat}{A:Around}(r:Room k A):A.units+64<cLine:=by have:=r.un;omega
noncomputable def tNil:TA:=λ _ H Q=>Q [] H
noncomputable def Zi3 (ta:TE)(tr:TA):TA:=λ σ H Q=>ta σ H λ x H1=>tr σ H1 λ xs H2=>Q (x::xs) H2
section
variable {X:Cx}{e:Expr}{es:List Expr}{te:TE}{t:TA}{pos:Pos}
theorem Zb:PA X [] tNil:=⟨λ _ _ _ _ H Q I h=>Calls.spliced_nil ⟨[],H,I, .nil,h⟩⟩
theorem Za (ha:PE X e te)(hr:PA X es t)(hs:starEach (e::es) X.env=(false,eval e X.env)::starEach es X.env:=by rfl):PA X (e::es) (Zi3 te t):=by
 refine⟨?_⟩;intro pos pins s σ H Q I h;rw[hs];show wpAny _ _ (spliced ((false,eval e X.env)::backTo pos (starEach es X.env))) _ _ s;refine Calls.spliced_cons (thn (ha pins s σ H _ I h) λ u s1 zz9=>?_);obtain⟨x,H1,I1,r1,q1⟩:=zz9;exact thn (hr pos pins s1 σ H1 _ I1 q1) λ us s2 ⟨xs,H2,I2,r2,q2⟩=>⟨x::xs,H2,I2, .cons r1 r2,q2⟩
noncomputable def tTup (t:TA):TE:=λ σ H Q=>t σ H λ xs H1=>xs.length<=sizeLine/\∀ p,H1 p=none->Q (.ref p) (upd H1 p (.tup xs))
noncomputable def tLst (t:TA):TE:=λ σ H Q=>t σ H λ xs H1=>xs.length<=sizeLine/\∀ p,H1 p=none->Q (.ref p) (upd H1 p (.lst xs))
theorem Yc {x1}(h:PA X es t):PE X (.Tuple es x1 pos) (tTup t):=by
 refine⟨?_⟩;intro pins s σ H Q I hq;refine wpAny_Tuple_spliced (thn (h pos pins s σ H _ I hq) λ us s1 ⟨xs,H1,I1,r,z,q⟩=>⟨by rw[<- r.length];exact z,?_⟩);have hf:H1 s1.heap.objs.size=none:=I1.hok.fresh (le_refl _);refine⟨.ref s1.heap.objs.size,upd H1 s1.heap.objs.size (.tup xs),I1.laid (t':=s1.toks) (λ b u e=>Heap.get?_push_of_some _ e) (le_refl _) ?_,rfl,q _ hf⟩;exact⟨z,us,r,⟨_,Heap.get?_push_size _ rfl,rfl,_,rfl⟩⟩
theorem Z6 (h:PA X es t):PE X (.List es pos) (tLst t):=by
 refine⟨?_⟩;intro pins s σ H Q I hq;refine wpAny_List_spliced (thn (h pos pins s σ H _ I hq) λ us s1 ⟨xs,H1,I1,r,z,q⟩=>⟨by rw[<- r.length];exact z,?_⟩);have hf:H1 s1.heap.objs.size=none:=I1.hok.fresh (le_refl _);refine⟨.ref s1.heap.objs.size,upd H1 s1.heap.objs.size (.lst xs),I1.laid (t':=s1.toks) (λ b u e=>Heap.get?_push_of_some _ e) (le_refl _) ?_,rfl,q _ hf⟩;exact⟨z,us,0,r,Heap.get?_push_size _ rfl⟩
end
noncomputable abbrev Sp:=List V->Hp->VK->XK->Prop
noncomputable abbrev CXT:=List Env->Hp->Shared->XK->Value->Shared->Prop
structure Env0 (P:Program)(w:World)(K:Frag)(mg:Str->Option Value)(base:Heap)(A:Around)(outer:List Env)(s:Shared)(H:Hp):Prop where
  frames:A.frames=some outer
  mod:Mod K mg base
  bs:∀ b o,base.get? b=some o->s.heap.get? b=some o/\H b=none
  bsz:base.objs.size<=s.heap.objs.size
  funs:s.heap.FunFrames base outer
  frf:∀ b∈frs outer,H b=none
  hok:HOk P w H s.heap
  bare:AllBare s.gens
noncomputable def CE (outer:List Env)(P:Program)(w:World)(H:Hp)(s:Shared)(Q:VK)(u:Value)(s':Shared):Prop:=
 ∃ v H',s'.os=s.os/\AllBare s'.gens/\Un (frs outer) [] H H' s.heap s'.heap/\HOk P w H' s'.heap/\ZI v u/\Q v H'
noncomputable def CR (CX:CXT)(outer:List Env)(P:Program)(w:World)(H:Hp)(s:Shared)(Q:VK)(E:XK)(r:Result)(s':Shared):Prop:=
  match r with
  |.ok (.ret u)=>CE outer P w H s Q u s'
  |.ok _=>False
  |.error e=>CX outer H s E e s'
structure FnOk (P:Program)(w:World)(K:Frag)(mg:Str->Option Value)(base:Heap)(CX:CXT)(k:Nat)(f:Addr)(fd:FuncData)(ps:List Str)(sp:Sp):Prop where
  len:∀ vs H Q E,sp vs H Q E->vs.length=ps.length
  run:∀(A:Around)(outer:List Env)(s:Shared)(H:Hp)(args:Args)(us:List Value)(vs:List V)(Q:VK)(E:XK),Room k A->Env0 P w K mg base A outer s H->BindsTo s fd args (ps.zip us)->ZJ vs us->sp vs H Q E ->
    codeAny (model P w) A (.call (.ref f) args) (CR CX outer P w H s Q E) s
theorem FnOk.mono {P:Program}{w:World}{K:Frag}{mg:Str->Option Value}{base:Heap}{CX:CXT}{j k:Nat}{f:Addr}{fd:FuncData}{ps:List Str}{sp:Sp}(F:FnOk P w K mg base CX j f fd ps sp)(h:j<=k) :
    FnOk P w K mg base CX k f fd ps sp:=⟨F.len,λ A outer s H args us vs Q E hr=>F.run A outer s H args us vs Q E (hr.mono h)⟩
theorem Env0.make {P:Program}{w:World}{K:Frag}{mg:Str->Option Value}{base:Heap}{A:Around}{outer:List Env}{s:Shared}{H:Hp}(e:Env0 P w K mg base A outer s H)(C:Addr)(us:List Value)(kw:List (Str×Value)) :
    Env0 P w K mg base (A.under (.builtin "type.__call__" ⟨.ref C::us,kw⟩)) outer s H:=⟨by first|exact e.frames|(simpa [Around.under,Code.envs,Code.isFrame,pushEnvs] using e.frames),e.mod,e.bs,e.bsz,e.funs,e.frf,e.hok,e.bare⟩
section
variable {X:Cx}{pins:List (Addr×Obj)}{σ:St}{H:Hp}{s s':Shared}
theorem Inv.env0 (I:Inv X pins σ H s):Env0 X.prog X.w X.K X.mg X.base X.A X.stack s H:=
 ⟨I.ok.frames,I.ok.mod,I.bs,le_trans I.ok.bsz I.sz,I.stack,I.stkFree,I.hok,I.bare⟩
theorem Inv.after {Q:VK}{u:Value}(I:Inv X pins σ H s)(h:CE X.stack X.prog X.w H s Q u s'):EP X pins σ Q u s':=by
 obtain⟨v,H',os,bare,un,hok,r,q⟩:=h;obtain⟨hh,g,d,t,os'⟩:=s';obtain rfl:os'=s.os:=os;exact⟨v,H',I.call (h':=hh) (g':=g) (d':=d) (t':=t) (ch:=[]) un hok bare (λ b z=>absurd z (by simp)),r,q⟩
end
noncomputable def Zmd (sp:Sp)(dvs:List V)(E:XK)(t:TA):TE:=λ σ H Q=>t σ H λ vs H1=>sp (vs++dvs) H1 Q E
noncomputable def ZkI (C:Addr)(m:Str)(sp:Sp)(dvs:List V)(E:XK)(ta:TE)(t:TA):TE:=λ σ H Q=>ta σ H λ x H1=>∃ a dx fs,x = .ref a/\H1 a=some (.ins C dx fs)/\fs.lookup m=none /\
 t σ H1 λ vs H2=>sp (x::(vs++dvs)) H2 Q E
noncomputable def ZkJ (C:Addr)(sp:Sp)(dvs:List V)(E:XK)(t:TA):TE:=λ σ H Q=>t σ H λ vs H1=>∀ x dx,H1 x=none->H1 dx=none->dx≠x ->
 sp (.ref x::(vs++dvs)) (upd (upd H1 dx (.own x)) x (.ins C dx [])) (λ v H2=>v = .non/\Q (.ref x) H2) E
noncomputable def JZ (K:Frag)(fd:FuncData)(ps:List Str)(ds:List Value):Prop:=
 ∀(s:Shared)(us:List Value),K.In s.heap->(us++ds).length=ps.length->BindsTo s fd ⟨us,[]⟩ (ps.zip (us++ds))
theorem JZ.all {K:Frag}{fd:FuncData}{ps:List Str}(h:∀ us:List Value,us.length=ps.length->bindArgs fd ⟨us,[]⟩=pure (ps.zip us)):JZ K fd ps []:=λ s us _ hl=>by
 rw[append_nil]at hl ⊢;exact .of_eq (h us hl)
noncomputable def Xq (CX:CXT)(X:Cx)(E:XK):Prop:=∀(pins:List (Addr×Obj))(σ:St)(H:Hp)(s:Shared)(e:Value)(s':Shared),Inv X pins σ H s->CX X.stack H s E e s'->X.xe e s'
section
variable {X:Cx}{CX:CXT}{k:Nat}{f C:Addr}{fd:FuncData}{ps:List Str}{sp:Sp}{dvs:List V}{ds:List Value}{E:XK}{x m:Str}{p pos apos:Pos}{e o:Expr}{es:List Expr}{ta:TE}{t:TA}
theorem Zkb {pins:List (Addr×Obj)}{σ:St}{H:Hp}{s:Shared}{Q:VK}{us:List Value}{vs:List V}(F:FnOk X.prog X.w X.K X.mg X.base CX k f fd ps sp)(hr:Room k X.A)(hb:JZ X.K fd ps ds)(hd:ZJ dvs ds)(hx:Xq CX X E)(I:Inv X pins σ H s)(r:ZJ vs us)(h:sp (vs++dvs) H Q E):wpAny (model X.prog X.w) X.A (call (.ref f) us) (EP X pins σ Q) X.xe s:=by
  have r2:ZJ (vs++dvs) (us++ds):=r.append hd;have hl:(us++ds).length=ps.length:=by rw[<- r2.length];exact F.len _ _ _ _ h
  refine wpAny_call (codeAny_mono (F.run X.A X.stack s H ⟨us,[]⟩ (us++ds) (vs++dvs) Q E hr I.env0 (hb s us I.kIn hl) r2 h) λ r s' hq=>?_);cases r with
  |error e=>exact hx pins σ H s e s' I hq
  |ok fl=>
    cases fl with
    |ret u=>exact I.after hq
    |next=>exact False.elim hq
    |brk=>exact False.elim hq
    |cont=>exact False.elim hq
theorem ZkN (F:FnOk X.prog X.w X.K X.mg X.base CX k f fd ps sp)(hr:Room k X.A)(hg:Gl X x)(hm:X.mg x=some (.ref f))(hk:keepIn X.K (.ref f)=true)(hb:JZ X.K fd ps ds)(hd:ZJ dvs ds)(hx:Xq CX X E)(ha:PA X (e::es) t)(hdb:(x == ("__debug__":Str))=false:=by decide)(he:starEach (e::es) X.env=(false,eval e X.env)::starEach es X.env:=by rfl)(hpl:(backTo pos (starEach es X.env)).any (·.1)=false:=by rfl) :
    PE X (.Call (.Name x p) (e::es) [] pos) (Zmd sp dvs E t):=by
  refine⟨?_⟩;intro pins s σ H Q I h;refine wpAny_Call_Name_kw (Zea I hg hm ?_ hdb);refine PySem.W.callWith_K (h₀:=X.base) I.ok.mod.kin hk (thn (ha pos pins s σ H _ I h) λ us s1 ⟨vs,H1,I1,r,q⟩=>⟨I1.kIn,?_⟩) he hpl;exact Zkb F hr hb hd hx I1 r q
theorem ZnI {pl:Sem Bool}(he:PE X o ta)(c:Cls X.K C)(hm:Meth X.K C m f)(F:FnOk X.prog X.w X.K X.mg X.base CX k f fd ps sp)(hr:Room k X.A)(hb:JZ X.K fd ps ds)(hd:ZJ dvs ds)(hx:Xq CX X E)(ha:PA X (e::es) t)(hst:starEach (e::es) X.env=(false,eval e X.env)::starEach es X.env:=by rfl)(hpl:(backTo pos (starEach es X.env)).any (·.1)=false:=by rfl)(ht:eval (.Call (.Attribute o m apos) (e::es) [] pos) X.env=(do
      let ov <- eval o X.env
      standAt apos.atName
      let (f,first) <- holding [ov] (getMethod ov m pl)
      callWith pos f first (backTo pos (starEach (e::es) X.env)) (backToKw pos (keywordEach [] X.env))):=by rfl) :
    PE X (.Call (.Attribute o m apos) (e::es) [] pos) (ZkI C m sp dvs E ta t):=by
  refine⟨?_⟩;intro pins s σ H Q I h;refine PySem.W.methodCall_KW (pl:=pl) (thn (he pins s σ H _ I h) λ u s1 zz9=>?_) ht;obtain⟨x,H1,I1,rx,a,dx,fs,ex,ea,l,q⟩:=zz9;subst ex;obtain rfl:u=Value.ref a:=rx;refine ZgS I1 ea c hm l ?_;refine PySem.W.callWith_K (first:=[.ref a]) (h₀:=X.base) I.ok.mod.kin hm.kp (thn (ha pos pins s1 σ H1 _ I1 q) λ us s2 ⟨vs,H2,I2,r,q2⟩=>⟨I2.kIn,?_⟩) hst hpl;exact Zkb (us:=.ref a::us) (vs:=.ref a::vs) F hr hb hd hx I2 (.cons rfl r) q2
theorem Zmr {pl:Sem Bool}(he:PE X o ta)(c:Cls X.K C)(hm:Meth X.K C m f)(F:FnOk X.prog X.w X.K X.mg X.base CX k f fd ps sp)(hr:Room k X.A)(hb:JZ X.K fd ps ds)(hd:ZJ dvs ds)(hx:Xq CX X E)(ht:eval (.Call (.Attribute o m apos) [] [] pos) X.env=(do
      let ov <- eval o X.env
      standAt apos.atName
      let (f,first) <- holding [ov] (getMethod ov m pl)
      callWith pos f first (backTo pos (starEach [] X.env)) (backToKw pos (keywordEach [] X.env))):=by rfl) :
    PE X (.Call (.Attribute o m apos) [] [] pos) (ZkI C m sp dvs E ta tNil):=by
  refine⟨?_⟩;intro pins s σ H Q I h;refine PySem.W.methodCall_KW (pl:=pl) (thn (he pins s σ H _ I h) λ u s1 zz9=>?_) ht;obtain⟨x,H1,I1,rx,a,dx,fs,ex,ea,l,q⟩:=zz9;subst ex;obtain rfl:u=Value.ref a:=rx;refine ZgS I1 ea c hm l ?_;exact PySem.W.callWith_K0 (first:=[.ref a]) I1.kIn hm.kp (Zkb (us:=[.ref a]) (vs:=[.ref a]) F hr hb hd hx I1 (.cons rfl .nil) q)
structure Mk (K:Frag)(C f:Addr):Prop where
  makes:makesIn K C=true
  init:findIn K (.ref C) "__init__"=some (some (.ref f))
  fn:isFn K (.ref f)=true
  kp:keepIn K (.ref C)=true
theorem Zji {pins:List (Addr×Obj)}{σ:St}{H:Hp}{s:Shared}{Q:VK}{us:List Value}{vs:List V}(M:Mk X.K C f)(F:FnOk X.prog X.w X.K X.mg X.base CX k f fd ps sp)(hr:Room (k+1) X.A)(hb:JZ X.K fd ps ds)(hd:ZJ dvs ds)(hx:Xq CX X E)(I:Inv X pins σ H s)(r:ZJ vs us)(h:∀ x dx,H x=none->H dx=none->dx≠x->sp (.ref x::(vs++dvs)) (upd (upd H dx (.own x)) x (.ins C dx [])) (λ v H2=>v = .non/\Q (.ref x) H2) E) :
    wpAny (model X.prog X.w) X.A (call (.ref C) us) (EP X pins σ Q) X.xe s:=by
  have hq:=h (s.heap.objs.size+1) s.heap.objs.size (I.hok.fresh (le_succ _)) (I.hok.fresh (le_refl _)) (ne_of_lt (lt_succ_self _));have I2:=Inv.made (C:=C) I;have r2:ZJ (V.ref (s.heap.objs.size+1)::(vs++dvs)) (Value.ref (s.heap.objs.size+1)::(us++ds)):=.cons rfl (r.append hd);have hl:(Value.ref (s.heap.objs.size+1)::us++ds).length=ps.length:=by
    have e:=r2.length;rw[F.len _ _ _ _ hq]at e;exact e.symm
  refine wpAny_call (ZmK (f:=f) I.kIn M.makes M.init (beq_iff_eq.mp M.fn) (codeAny_mono (F.run _ X.stack _ _ ⟨Value.ref (s.heap.objs.size+1)::us,[]⟩ (Value.ref (s.heap.objs.size+1)::(us++ds)) _ _ E (hr.make C us [])
    (I2.env0.make C us []) (hb _ (Value.ref (s.heap.objs.size+1)::us) I2.kIn hl) r2 hq) λ r s' hq'=>?_))
  cases r with
  |error e=>exact hx pins σ _ _ e s' I2 hq'
  |ok fl=>
    cases fl with
    |ret u=>
      obtain⟨v,H',I3,rv,ev,q3⟩:=I2.after hq';subst ev;exact⟨rv,⟨V.ref (s.heap.objs.size+1),H',I3,rfl,q3⟩⟩
    |next=>exact False.elim hq'
    |brk=>exact False.elim hq'
    |cont=>exact False.elim hq'
theorem ZnJ (M:Mk X.K C f)(F:FnOk X.prog X.w X.K X.mg X.base CX k f fd ps sp)(hr:Room (k+1) X.A)(hg:Gl X x)(hm:X.mg x=some (.ref C))(hb:JZ X.K fd ps ds)(hd:ZJ dvs ds)(hx:Xq CX X E)(ha:PA X (e::es) t)(hdb:(x == ("__debug__":Str))=false:=by decide)(he:starEach (e::es) X.env=(false,eval e X.env)::starEach es X.env:=by rfl)(hpl:(backTo pos (starEach es X.env)).any (·.1)=false:=by rfl) :
    PE X (.Call (.Name x p) (e::es) [] pos) (ZkJ C sp dvs E t):=by
  refine⟨?_⟩;intro pins s σ H Q I h;refine wpAny_Call_Name_kw (Zea I hg hm ?_ hdb);refine PySem.W.callWith_K (h₀:=X.base) I.ok.mod.kin M.kp (thn (ha pos pins s σ H _ I h) λ us s1 ⟨vs,H1,I1,r,q⟩=>⟨I1.kIn,?_⟩) he hpl;exact Zji M F hr hb hd hx I1 r q
theorem Zms (M:Mk X.K C f)(F:FnOk X.prog X.w X.K X.mg X.base CX k f fd ps sp)(hr:Room (k+1) X.A)(hg:Gl X x)(hm:X.mg x=some (.ref C))(hb:JZ X.K fd ps ds)(hd:ZJ dvs ds)(hx:Xq CX X E)(hdb:(x == ("__debug__":Str))=false:=by decide):PE X (.Call (.Name x p) [] [] pos) (ZkJ C sp dvs E tNil):=by
 refine⟨?_⟩;intro pins s σ H Q I h;refine wpAny_Call_Name_kw (Zea I hg hm ?_ hdb);exact PySem.W.callWith_K0 I.kIn M.kp (Zji (us:=[]) M F hr hb hd hx I .nil h)
end
noncomputable abbrev PKb (X:Cx)(kws:List Keyword)(t:TA):Prop:=
  ∀(pos:Pos)(pins:List (Addr×Obj))(s:Shared)(σ:St)(H:Hp)(Q:List V->Hp->Prop),Inv X pins σ H s->t σ H Q->wpAny (model X.prog X.w) X.A (evalAll ((backToKw pos (keywordEach kws X.env)).map (·.2))) (AP X pins σ Q) X.xe s
structure PK (X:Cx)(kws:List Keyword)(t:TA):Prop where
  go:PKb X kws t
instance {X:Cx}{kws:List Keyword}{t:TA}:CoeFun (PK X kws t) λ _=>PKb X kws t:=⟨PK.go⟩
section
variable {X:Cx}{CX:CXT}{k:Nat}{f C:Addr}{fd:FuncData}{ps ks:List Str}{sp:Sp}{E:XK}{x m:Str}{p pos apos kpos:Pos}{e o:Expr}{es:List Expr}{kws:List Keyword}{te ta:TE}{t tk:TA}{nm:Option Str}
variable {g:List Value->List Value->List Value}{gV:List V->List V->List V}
end
structure FnScope (N P:List Str)(sc:Scope):Prop where
  kind:sc.kind = .function
  co:sc.isCoroutine=false
  gen:sc.isGenerator=false
  nd:N.Nodup
  pre:N.take P.length=P
  par:∀ x∈P,sc.names.lookup x=some .local\/sc.names.lookup x=some .cell
  nofree:∀ y∈sc.names,y.2 ≠ .free
theorem ZhP {kindOf:Str->Option NameKind}{x:Str}:∀ {binds:List (Str×Value)} {m:Str->Option Value},(∀ v,(x,v)∉binds)->bindL kindOf binds m x=m x
  |[],_,_=>rfl
  | (n,v)::r,m,h=>by
    unfold bindL;rw[ZhP λ w hw=>h w (mem_cons_of_mem _ hw)];split
    . have:x≠n:=by rintro rfl;exact h v mem_cons_self
      simp[this]
    . rfl
theorem ZhR {kindOf:Str->Option NameKind}{x:Str}:∀ {binds:List (Str×Value)} {m:Str->Option Value},(∀ v,(x,v)∉binds)->bindC kindOf binds m x=m x
  |[],_,_=>rfl
  | (n,v)::r,m,h=>by
    unfold bindC;rw[ZhR λ w hw=>h w (mem_cons_of_mem _ hw)];split
    . rfl
    . have:x≠n:=by rintro rfl;exact h v mem_cons_self
      simp[this]
theorem ZhQ {kindOf:Str->Option NameKind}{x:Str}{v:Value}:∀ {P:List Str} {vs:List Value} {i:Nat} {m:Str->Option Value},P.Nodup->P[i]? = some x->vs[i]? = some v->kindOf x=some .local ->
    bindL kindOf (P.zip vs) m x=some v
  |[],_,_,_,_,h,_,_=>by simp at h
  |_::_,[],_,_,_,_,h,_=>by simp at h
  | p::P,w::vs,0,m,nd,h1,h2,hk=>by
    simp at h1 h2;subst h1;subst h2;show bindL kindOf ((p,w)::P.zip vs) m p=_;unfold bindL;rw[ZhP λ v hv=>(List.nodup_cons.mp nd).1 (List.of_mem_zip hv).1,if_pos hk];simp
  | p::P,w::vs,i+1,m,nd,h1,h2,hk=>by
    show bindL kindOf ((p,w)::P.zip vs) m x=_;unfold bindL;exact ZhQ (i:=i) (List.nodup_cons.mp nd).2 (by simpa using h1) (by simpa using h2) hk
theorem ZhS {kindOf:Str->Option NameKind}{x:Str}{v:Value}:∀ {P:List Str} {vs:List Value} {i:Nat} {m:Str->Option Value},P.Nodup->P[i]? = some x->vs[i]? = some v->kindOf x≠some .local ->
    bindC kindOf (P.zip vs) m x=some v
  |[],_,_,_,_,h,_,_=>by simp at h
  |_::_,[],_,_,_,_,h,_=>by simp at h
  | p::P,w::vs,0,m,nd,h1,h2,hk=>by
    simp at h1 h2;subst h1;subst h2;show bindC kindOf ((p,w)::P.zip vs) m p=_;unfold bindC;rw[ZhR λ v hv=>(List.nodup_cons.mp nd).1 (List.of_mem_zip hv).1,if_neg hk];simp
  | p::P,w::vs,i+1,m,nd,h1,h2,hk=>by
    show bindC kindOf ((p,w)::P.zip vs) m x=_;unfold bindC;exact ZhS (i:=i) (List.nodup_cons.mp nd).2 (by simpa using h1) (by simpa using h2) hk
noncomputable def Zdz (N:List Str)(vs:List V):St:=vs.map some++List.replicate (N.length - vs.length) none
noncomputable def Xo (CX:CXT)(P:Program)(w:World)(K:Frag)(mg:Str->Option Value)(base:Heap)(N:List Str)(qual:Str)(scope:Scope)(f:Addr)(cd:Value)(A:Around)(outer:List Env)(s:Shared)(H:Hp)(E:XK):Cx where
 prog:=P
 w:=w
 K:=K
 mg:=mg
 base:=base
 A:=A.deeper (envOfC qual scope s.heap.objs.size f cd)
 N:=N
 s₀:=s
 H₀:=H
 env:=envOfC qual scope s.heap.objs.size f cd
 outer:=outer
 stack:=envOfC qual scope s.heap.objs.size f cd::outer
 ex:=[]
 calm:=true
 fn:=λ _=>true
 pn:=[]
 xe:=λ e s'=>wpAny (model P w) (A.deeper (envOfC qual scope s.heap.objs.size f cd)) (leaving (envOfC qual scope s.heap.objs.size f cd) e) (λ _ s''=>CX outer H s E e s'') (λ e' s''=>CX outer H s E e' s'') s'
theorem ZjU {sc:Scope}{n:Nat}{x:Str}(h:sc.names.lookup x=some .cell):∃ c,(cellsFrom n sc.names []).lookup x=some c:=by
 have q:=PySem.W.cellsFrom_some sc.names n [] (.inl h);exact Option.isSome_iff_exists.mp q
theorem ZlO {CX:CXT}{P:Program}{w:World}{K:Frag}{mg:Str->Option Value}{base:Heap}{N ps:List Str}{qual:Str}{scope:Scope}{f:Addr}{cd:Value}{A:Around}{outer:List Env}{s s1:Shared}{H:Hp}{E:XK}{us:List Value}{vs:List V}(S:FnScope N ps scope)(hd:A.handled=none)(e0:Env0 P w K mg base A outer s H)(hl:vs.length=ps.length)(r:ZJ vs us)(x:InCallC s s.heap.objs.size (bindL (envOfC qual scope s.heap.objs.size f cd).kindOf (ps.zip us) λ _=>none) (cellsFrom (s.heap.objs.size+1) scope.names []) (bindC (envOfC qual scope s.heap.objs.size f cd).kindOf (ps.zip us) λ _=>none) s1) :
    Inv (Xo CX P w K mg base N qual scope f cd A outer s H E) [] (Zdz N vs) H s1:=by
  have hpl:ps.length<=N.length:=by have:=congrArg List.length S.pre;rw[length_take]at this;omega
  obtain⟨h1,tk,rfl,hk⟩:=x.done;have noA:∀ b:Addr,b∉(Xo CX P w K mg base N qual scope f cd A outer s H E).ex:=λ b z=>absurd (show b∈([]:List Addr) from z) (by simp);refine⟨⟨e0.mod,S.kind,rfl,rfl,le_refl _,λ y z c h1 h2=>?_,λ y hy=>?_,λ y c _ h=>?_,λ _=>hd,Around.frames_deeper e0.frames, .inr ⟨rfl,rfl⟩,λ b z=>absurd z (noA b),e0.bs,e0.bsz,λ b _ _=>noA b,λ b z=>absurd z (noA b),e0.funs,e0.frf⟩,
    rfl,e0.bare,Un.kept hk,⟨_,x.toInCall.ns,λ i y v h1 h2 h3=>?_⟩,λ y c h=>⟨_,x.cell y c h⟩,e0.hok.fresh (le_refl _),λ y c h=>?_,λ p hp=>absurd (show p∈([]:List (Addr×Obj)) from hp) (by simp),e0.hok.kept hk,?_⟩
  . exact name_of_addr x.apart (PySem.mem_of_lookup h1) (PySem.mem_of_lookup h2)
  . have hy:scope.names.lookup y=some .cell\/scope.names.lookup y=some .free:=hy;rcases hy with hy|hy
    . exact ZjU hy
    . exact absurd rfl (S.nofree _ (PySem.mem_of_lookup hy))
  . exact le_of_lt (x.above y c (PySem.mem_of_lookup h))
  . have hi:i<vs.length:=by
      unfold Zdz at h2
      by_cases hi:i<vs.length
      . exact hi
      . rw[getElem?_append_right (by simpa using hi)]at h2;rw[List.getElem?_replicate]at h2;split at h2 <;> cases h2
    have ha:vs[i]? = some v:=by
      unfold Zdz at h2;rw[getElem?_append_left (by simpa using hi),getElem?_map]at h2;cases e:vs[i]? with
      |none=>rw[e]at h2;cases h2
      |some a=>rw[e]at h2;cases h2;rfl
    obtain⟨u,hu,rv⟩:=r.get ha;have hp:ps[i]? = some y:=by
      rw[<- S.pre,List.getElem?_take_of_lt (by omega)];exact h1
    have ndP:ps.Nodup:=by rw[<- S.pre];exact S.nd.sublist (List.take_sublist _ _)
    refine⟨u,rv,?_⟩;rcases S.par y (mem_of_getElem? hp) with k|k
    . exact .inl ⟨k,ZhQ ndP hp hu k⟩
    . obtain⟨c,e⟩:=ZjU (n:=s.heap.objs.size+1) k;refine .inr ⟨.inl k,c,e,?_⟩;have q:=x.cell y c e;rw[ZhS ndP hp hu (by show scope.names.lookup y≠_;rw[k];decide)]at q;exact q
  . exact e0.hok.fresh (le_of_lt (x.above y c (PySem.mem_of_lookup h)))
  . unfold Zdz;show _=N.length;rw[length_append,length_map,length_replicate];omega
theorem fn_of {CX:CXT}{P:Program}{w:World}{K:Frag}{mg:Str->Option Value}{base:Heap}{k:Nat}{f:Addr}{name qual:Str}{params:Arguments}{body:List Stmt}{scope:Scope}{dV kV doc pm cdv ct oc:Value}{an od:Option Addr}{osl:Array (Option Value)}{N ps:List Str}{sp:Sp}(lk:K.lookup f=some ⟨oc,od, .func (fnOf name qual params body scope dV kV doc pm an cdv ct),osl⟩)(hcd:codeIn K cdv qual=true)(S:FnScope N ps scope)(len:∀ vs H Q E,sp vs H Q E->vs.length=ps.length)(hbody:∀(A:Around)(outer:List Env)(s:Shared)(H:Hp)(vs:List V)(Q:VK)(E:XK),Room k (A.deeper (envOfC qual scope s.heap.objs.size f cdv))->sp vs H Q E ->
      ∃ t,PSs (Xo CX P w K mg base N qual scope f cdv A outer s H E) body t/\t { nx:=λ _ H'=>Q .non H',rt:=Q } (Zdz N vs) H) :
    FnOk P w K mg base CX (k+1) f (fnOf name qual params body scope dV kV doc pm an cdv ct) ps sp:=by
  refine⟨len,λ A outer s H args us vs Q E hr e0 hb r hsp=>?_⟩;have hl:=len _ _ _ _ hsp;have KX:K.In s.heap:=e0.mod.kin.keeps λ b o e=>(e0.bs b o e).1;have lim:s.heap.NoLimit:=e0.mod.nolimit.keeps λ b o e=>(e0.bs b o e).1;have hkind:∀ y∈ps.zip us,scope.names.lookup y.1=some .local\/(scope.names.lookup y.1=some .cell/\((cellsFrom (s.heap.objs.size+1) scope.names []).lookup y.1).isSome=true):=λ⟨n,v⟩ hy=>by
    rcases S.par n (List.of_mem_zip hy).1 with q|q
    . exact .inl q
    . exact .inr ⟨q,PySem.W.cellsFrom_some _ _ _ (.inl q)⟩
  refine codeAny_call_function hr.depth (KX _ _ lk) rfl S.co S.gen rfl (PySem.W.codeRec_of KX hcd) (hb _ _ _ _ ?_);refine wpAny_newFunctionEnv_cells S.kind hkind λ env he s1 x=>?_;subst he;refine⟨lim.keeps x.toInCall.keep,codeAny_func ?_⟩;obtain⟨t,ht,hq⟩:=hbody A outer s H vs Q E (hr.deeper _) hsp;have I:Inv (Xo CX P w K mg base N qual scope f cdv A outer s H E) [] (Zdz N vs) H s1:=ZlO S hr.hd e0 hl r x;refine wpAny_mono (ht [] s1 (Zdz N vs) H _ I hq) (λ fl s' hs=>?_) λ e s' hs=>hs;have fin:∀ {σ':St} {H':Hp} {v:V} {u:Value},Inv (Xo CX P w K mg base N qual scope f cdv A outer s H E) [] σ' H' s'->ZI v u->Q v H'->CE outer P w H s Q u s':=
    λ {σ' H' v u} J rv q=>⟨v,H',J.os,J.bare,J.base,J.hok,rv,q⟩
  cases fl with
  |ret u=>
    obtain⟨v,σ',H',J,rv,q⟩:=hs;exact fin J rv q
  |next=>
    obtain⟨σ',H',J,q⟩:=hs;exact fin (v:=V.non) (u:=Value.none) J rfl q
  |brk=>
    obtain⟨_,_,_,q⟩:=hs;exact False.elim q
  |cont=>
    obtain⟨_,_,_,q⟩:=hs;exact False.elim q
open PySem PySem.Spec PyProof.Rows
section
variable {X:Cx}{x:Str}{p pos:Pos}{e:Expr}{es:List Expr}{t:TA}{id T:String}{r:List V->Hp->VK->Prop}
noncomputable def tCB (r:List V->Hp->VK->Prop)(t:TA):TE:=λ σ H Q=>t σ H λ vs H1=>r vs H1 Q
theorem Zx (hc:Xt X (.builtin id) r)(hg:Gl X x)(hm:X.mg x=none)(hv:bootBuiltins x=some (.builtin id))(ha:PA X (e::es) t)(hn:x≠"__name__":=by decide)(hdb:(x == ("__debug__":Str))=false:=by decide)(he:starEach (e::es) X.env=(false,eval e X.env)::starEach es X.env:=by rfl)(hpl:(backTo pos (starEach es X.env)).any (·.1)=false:=by rfl):PE X (.Call (.Name x p) (e::es) [] pos) (tCB r t):=by
 refine⟨?_⟩;intro pins s σ H Q I h;refine wpAny_Call_Name_kw (ZiI I hg hm hv ?_ hn hdb);exact PyProof.Rows.callWith_builtin1 (thn (ha pos pins s σ H _ I h) λ us s1 ⟨vs,H1,I1,r1,q1⟩=>hc pins s1 σ H1 vs us Q I1 r1 q1) he hpl
theorem ZU (hc:Xt X (.type T) r)(hg:Gl X x)(hm:X.mg x=none)(hv:bootBuiltins x=some (.type T))(ha:PA X (e::es) t)(hn:x≠"__name__":=by decide)(hdb:(x == ("__debug__":Str))=false:=by decide)(he:starEach (e::es) X.env=(false,eval e X.env)::starEach es X.env:=by rfl)(hpl:(backTo pos (starEach es X.env)).any (·.1)=false:=by rfl):PE X (.Call (.Name x p) (e::es) [] pos) (tCB r t):=by
 refine⟨?_⟩;intro pins s σ H Q I h;refine wpAny_Call_Name_kw (ZiI I hg hm hv ?_ hn hdb);exact PyProof.Rows.callWith_type1 (thn (ha pos pins s σ H _ I h) λ us s1 ⟨vs,H1,I1,r1,q1⟩=>hc pins s1 σ H1 vs us Q I1 r1 q1) he hpl
end
open PySem PySem.Spec PyProof.Rows
section
variable {κ:Type}[DecidableEq κ]
noncomputable def Y2 (kvs:List (κ×V))(k:κ):Option V:=(kvs.find? λ kv=>decide (kv.1=k)).map (·.2)
noncomputable def Zdd (kvs:List (κ×V))(k:κ)(v:V):List (κ×V):=
 if (kvs.any λ kv=>decide (kv.1=k))=true then kvs.map (λ kv=>if kv.1=k then (kv.1,v) else kv) else kvs++[(k,v)]
noncomputable def dropK (kvs:List (κ×V))(k:κ):List (κ×V):=kvs.filter λ kv=>decide (kv.1≠k)
theorem Zbf {p:κ×V}{r:List (κ×V)}{k:κ}(e:p.1=k):Y2 (p::r) k=some p.2:=by simp[Y2,find?_cons,e]
theorem Zbg {p:κ×V}{r:List (κ×V)}{k:κ}(e:¬ p.1=k):Y2 (p::r) k=Y2 r k:=by simp[Y2,find?_cons,e]
theorem Zdy (k:κ):∀ kvs:List (κ×V),(kvs.any λ kv=>decide (kv.1=k))=(Y2 kvs k).isSome
  |[]=>rfl
  | p::r=>by
    rw[any_cons]
    by_cases e:p.1=k
    . simp only[Zbf e,decide_eq_true e,Bool.true_or,Option.isSome_some]
    . rw[Zbg e,decide_eq_false e,Bool.false_or];exact Zdy k r
theorem Zfc (kvs:List (κ×V))(k:κ)(v:V):(Zdd kvs k v).length<=kvs.length+1:=by
  unfold Zdd;split
  . rw[length_map];omega
  . rw[length_append,length_cons,List.length_nil];omega
theorem Xu {kvs:List (κ×V)}{k:κ}(v:V)(h:Y2 kvs k=none):Zdd kvs k v=kvs++[(k,v)]:=by
 unfold Zdd;rw[Zdy,h];exact if_neg (by decide)
theorem Zbe.isSome_eq {o:Option V}{u:Option Value}(r:Zbe o u):o.isSome=u.isSome:=by
  cases o with
  | none=>cases u with
    |none=>rfl
    |some _=>exact(show False from r).elim
  | some _=>cases u with
    |none=>exact(show False from r).elim
    |some _=>rfl
theorem Zbe.getD {o:Option V}{u:Option Value}{d:V}{d':Value}(r:Zbe o u)(rd:ZI d d'):ZI (o.getD d) (u.getD d'):=by
  cases o with
  | none=>cases u with
    |none=>exact rd
    |some _=>exact(show False from r).elim
  | some _=>cases u with
    |none=>exact(show False from r).elim
    |some _=>exact r
theorem KV.val {kvs:List (κ×V)}{vs:List (κ×Value)}(r:KV kvs vs)(k:κ):Zbe (Y2 kvs k) (valueAt vs k):=by
  unfold KV at r
  induction r with
  |nil=>exact True.intro
  |@cons p q ps qs h t ih=>
    obtain⟨h1,h2⟩:=h
    by_cases e:p.1=k
    . have e':q.1=k:=h1.symm.trans e;have b:valueAt (q::qs) k=some q.2:=by simp[valueAt,find?_cons,e']
      rw[Zbf e,b];exact h2
    . have e':¬ q.1=k:=λ z=>e (h1.trans z);have b:valueAt (q::qs) k=valueAt qs k:=by simp[valueAt,find?_cons,e']
      rw[Zbg e,b];exact ih
theorem KV.any {kvs:List (κ×V)}{vs:List (κ×Value)}(r:KV kvs vs)(k:κ):(kvs.any λ kv=>decide (kv.1=k))=vs.any λ kv=>decide (kv.1=k):=by
  unfold KV at r
  induction r with
  |nil=>rfl
  |cons h t ih=>rw[any_cons,any_cons,ih,h.1]
theorem KV.repl {kvs:List (κ×V)}{vs:List (κ×Value)}(r:KV kvs vs)(k:κ){y:V}{u:Value}(ry:ZI y u) :
    KV (kvs.map λ kv=>if kv.1=k then (kv.1,y) else kv) (vs.map λ kv=>if kv.1=k then (kv.1,u) else kv):=by
  unfold KV at r ⊢
  induction r with
  |nil=>exact .nil
  |@cons p q ps qs h t ih=>
    rw[map_cons,map_cons];refine .cons ?_ ih;obtain⟨h1,h2⟩:=h
    by_cases e:p.1=k
    . rw[if_pos e,if_pos (h1.symm.trans e)];exact⟨h1,ry⟩
    . rw[if_neg e,if_neg (λ z=>e (h1.trans z))];exact⟨h1,h2⟩
theorem KV.put {kvs:List (κ×V)}{vs:List (κ×Value)}(r:KV kvs vs)(k:κ){y:V}{u:Value}(ry:ZI y u):KV (Zdd kvs k y) (stored vs k u):=by
  unfold Zdd stored;rw[r.any k]
  by_cases e:(vs.any λ kv=>decide (kv.1=k))=true
  . rw[if_pos e,if_pos e];exact r.repl k ry
  . rw[if_neg e,if_neg e];exact Paired.snoc r ⟨rfl,ry⟩
theorem KV.length {kvs:List (κ×V)}{vs:List (κ×Value)}(r:KV kvs vs):kvs.length=vs.length:=Paired.length r
end
theorem ZgN {P:Program}{w:World}{k:Key}{u:Value}(r:ZI (kV k) u):(ZR P w).is k u=true:=by
  cases k with
  |inl i=>obtain⟨t,e⟩:=(show ∃ t,u=Value.int i t from r);subst e;exact ZjK P w i t
  |inr x=>obtain⟨t,e⟩:=(show ∃ t,u=Value.str x t from r);subst e;exact ZjJ P w x t
theorem ZhD {P:Program}{w:World}:∀ {ks:List Key} {us:List Value},ZJ (ks.map kV) us->ItemsAre (ZR P w) ks us
  |[],_,r=>by rw[map_nil]at r;cases r;exact .nil
  | k::ks,_,r=>by
    rw[map_cons]at r;cases r with
    |cons h t=>exact .cons (ZgN h) (ZhD t)
noncomputable abbrev KT (H:Hp):List (List Key×V)->List (List Key×Addr×Value)->Prop:=Paired λ p q=>p.1=q.1/\H q.2.1=some (.tup (p.1.map kV))/\ZI p.2 q.2.2
theorem KT.val {H:Hp}{kvs:List (List Key×V)}{xs:List (List Key×Addr×Value)}(r:KT H kvs xs)(k:List Key):Zbe (Y2 kvs k) ((atKey xs k).map (·.2)):=by
  induction r with
  |nil=>exact True.intro
  |@cons p q ps qs h t ih=>
    obtain⟨h1,_,h2⟩:=h
    by_cases e:p.1=k
    . have e':q.1=k:=h1.symm.trans e;have b:atKey (q::qs) k=some q.2:=by simp[atKey,find?_cons,e']
      rw[Zbf e,b];exact h2
    . have e':¬ q.1=k:=λ z=>e (h1.trans z);have b:atKey (q::qs) k=atKey qs k:=by simp[atKey,find?_cons,e']
      rw[Zbg e,b];exact ih
theorem KT.repl {H:Hp}{kvs:List (List Key×V)}{xs:List (List Key×Addr×Value)}(r:KT H kvs xs)(k:List Key){y:V}{u:Value}(ry:ZI y u) :
    KT H (kvs.map λ kv=>if kv.1=k then (kv.1,y) else kv) (xs.map (putAt k u)):=by
  induction r with
  |nil=>exact .nil
  |@cons p q ps qs h t ih=>
    rw[map_cons,map_cons];refine .cons ?_ ih;obtain⟨h1,h2,h3⟩:=h;unfold putAt
    by_cases e:p.1=k
    . rw[if_pos e,if_pos (h1.symm.trans e)];exact⟨h1,h2,ry⟩
    . rw[if_neg e,if_neg (λ z=>e (h1.trans z))];exact⟨h1,h2,h3⟩
theorem KT.put {H:Hp}{kvs:List (List Key×V)}{xs:List (List Key×Addr×Value)}(r:KT H kvs xs)(k:List Key){b:Addr}{y:V}{u:Value}(hb:H b=some (.tup (k.map kV)))(ry:ZI y u) :
    KT H (Zdd kvs k y) (storedH xs k b u):=by
  have e:(kvs.any λ kv=>decide (kv.1=k))=(atKey xs k).isSome:=by
    rw[Zdy,(r.val k).isSome_eq,isSome_map]
  unfold Zdd storedH;rw[e]
  by_cases q:(atKey xs k).isSome=true
  . rw[if_pos q,if_pos q];exact r.repl k ry
  . rw[if_neg q,if_neg q];exact Paired.snoc r ⟨rfl,hb,ry⟩
theorem KT.keeps {H H':Hp}{kvs:List (List Key×V)}{xs:List (List Key×Addr×Value)}(r:KT H kvs xs)(ht:∀ b ys,H b=some (.tup ys)->H' b=some (.tup ys)):KT H' kvs xs:=
 Paired.mapP r λ _ _ z=>⟨z.1,ht _ _ z.2.1,z.2.2⟩
section
variable {P:Program}{w:World}{H:Hp}{h:Heap}{a:Addr}
theorem rd_of {u:HO}(ok:HOk P w H h)(e:Rd H a u):Yw P w H h a u:=e.ok ok
theorem Zee {kvs:List (Key×V)}(ok:HOk P w H h)(e:Rd H a (.dK kvs)):kvs.length<=sizeLine/\(a == sysModules)=false/\∃ vs,KV kvs vs/\h.DictOf (ZR P w) a vs:=
 show Yw P w H h a (.dK kvs) from rd_of ok e
theorem dk_of {kvs:List (Key×V)}(ok:HOk P w H h)(e:H a=some (.dK kvs)):kvs.length<=sizeLine/\(a == sysModules)=false/\∃ vs,KV kvs vs/\h.DictOf (ZR P w) a vs:=Zee ok (.inl e)
theorem Zdj {ks:List Key}(ok:HOk P w H h)(e:H a=some (.tup (ks.map kV))):(tupleKind (ZR P w)).is h ks a:=by
 obtain⟨_,its,r,o,h1,h2,n,h3⟩:=(show Yw P w H h a (.tup (ks.map kV)) from ok a _ e);exact⟨o,its.toArray,n,h1,h2,h3,by simpa using ZhD r⟩
theorem Zfi {kvs:List (List Key×V)}(ok:HOk P w H h)(e:Rd H a (.dT kvs)):kvs.length<=sizeLine/\(a == sysModules)=false /\
    ∃ xs,KT H kvs xs/\h.DictOfH (tupleKind (ZR P w)) a xs:=by
  obtain⟨z,y,xs,r,o,es,ep,h1,h2,h3,h4,h5⟩:=(show Yw P w H h a (.dT kvs) from rd_of ok e);refine⟨z,y,xs,r,o,es,ep,h1,h2,h3,h4,λ x hx=>?_,h5⟩;have all:∀ {l:List (List Key×V)} {m:List (List Key×Addr×Value)},KT H l m->∀ x∈m,(tupleKind (ZR P w)).is h x.1 x.2.1:=by
    intro l m q
    induction q with
    |nil=>intro x hx;exact nomatch hx
    |@cons p q ps qs hq t ih=>
      intro x hx;rcases List.mem_cons.mp hx with e|hx
      . subst e;exact Zdj ok (by rw[<- hq.1];exact hq.2.1)
      . exact ih x hx
  exact all r x hx
theorem dt_of {kvs:List (List Key×V)}(ok:HOk P w H h)(e:H a=some (.dT kvs)):kvs.length<=sizeLine/\(a == sysModules)=false /\
    ∃ xs,KT H kvs xs/\h.DictOfH (tupleKind (ZR P w)) a xs:=Zfi ok (.inl e)
end
noncomputable def ZY (H:Hp)(a:Addr)(y:V)(r:Option V):Prop:=
 (∃ kvs k,Rd H a (.dK kvs)/\y=kV k/\r=Y2 kvs k)\/∃ kvs k b,Rd H a (.dT kvs)/\y = .ref b/\H b=some (.tup (k.map kV))/\r=Y2 kvs k
noncomputable def Zej (H:Hp)(a:Addr)(y v:V)(H':Hp):Prop:=
 (∃ kvs k,H a=some (.dK kvs)/\y=kV k/\kvs.length<sizeLine/\H'=upd H a (.dK (Zdd kvs k v))) \/
 ∃ kvs k b,H a=some (.dT kvs)/\y = .ref b/\H b=some (.tup (k.map kV))/\kvs.length<sizeLine/\H'=upd H a (.dT (Zdd kvs k v))
theorem ZY.k {H:Hp}{a:Addr}{kvs:List (Key×V)}{k:Key}(e:H a=some (.dK kvs)):ZY H a (kV k) (Y2 kvs k):=.inl ⟨kvs,k, .inl e,rfl,rfl⟩
theorem Zej.k {H:Hp}{a:Addr}{kvs:List (Key×V)}{k:Key}{v:V}(e:H a=some (.dK kvs))(hl:kvs.length<sizeLine):Zej H a (kV k) v (upd H a (.dK (Zdd kvs k v))):=.inl ⟨kvs,k,e,rfl,hl,rfl⟩
section
variable {X:Cx}{pins:List (Addr×Obj)}{σ:St}{H:Hp}{s:Shared}{a:Addr}{y v:V}{u r:Value}{o:Option V}{A:Around}{E:Value->Shared->Prop}
theorem Inv.big (I:Inv X pins σ H s):sysModules<s.heap.objs.size:=by
 have h:mainGlobals<s.heap.objs.size:=(I.mod.glob.keeps I.bk).lt;exact Nat.lt_trans (by decide) h
theorem ZlV {Q:Value->Shared->Prop}(hu:A.units+1<cLine)(I:Inv X pins σ H s)(g:ZY H a y (some v))(ry:ZI y u)(h:∀ w' s',Inv X pins σ H s'->ZI v w'->Q w' s') :
    wpAny (model X.prog X.w) A (getItem (.ref a) u) Q E s:=by
  rcases g with ⟨kvs,k,e,ey,l⟩|⟨kvs,k,b,e,ey,eb,l⟩
  . subst ey;obtain⟨z,hd,vs,rel,dd⟩:=Zee I.hok e;obtain⟨w',hw,rw'⟩:=Zbe.some_of (v:=v) (o:=valueAt vs k) (by rw[l];exact rel.val k);exact wpAny_getItem_of (ZgN ry) dd.mapOf hw (h w' _ (I.tok _) rw')
  . subst ey;cases (show u=Value.ref b from ry);obtain⟨z,hd,xs,rel,dd⟩:=Zfi I.hok e;obtain⟨w',hw,rw'⟩:=Zbe.some_of (v:=v) (o:=(atKey xs k).map (·.2)) (by rw[l];exact rel.val k);obtain⟨p,hp,hp2⟩:=Option.map_eq_some_iff.mp hw;refine wpAny_getItem_heap (tupleKind_room_in1 hu) (Zdj I.hok eb) dd hp ?_;rw[hp2];exact h w' _ (I.tok _) rw'
theorem d_in {Q:Value->Shared->Prop}(hu:A.units+1<cLine)(I:Inv X pins σ H s)(g:ZY H a y o)(ry:ZI y u)(h:∀ s',Inv X pins σ H s'->Q (.bool o.isSome) s') :
    wpAny (model X.prog X.w) A (compareOp .In u (.ref a)) Q E s:=by
  rcases g with ⟨kvs,k,e,ey,l⟩|⟨kvs,k,b,e,ey,eb,l⟩
  . subst ey;obtain⟨z,hd,vs,rel,dd⟩:=Zee I.hok e;refine wpAny_in_of (ZgN ry) hd dd.mapOf ?_;rw[<- (rel.val k).isSome_eq,<- l];exact h _ (I.tok _)
  . subst ey;cases (show u=Value.ref b from ry);obtain⟨z,hd,xs,rel,dd⟩:=Zfi I.hok e;refine wpAny_in_heap (tupleKind_room_in1 hu) (Zdj I.hok eb) hd dd ?_;have q:=(rel.val k).isSome_eq;rw[isSome_map]at q;rw[<- q,<- l];exact h _ (I.tok _)
theorem Zn1 {Q:Value->Shared->Prop}(hu:A.units+1<cLine)(I:Inv X pins σ H s)(g:ZY H a y o)(ry:ZI y u)(h:∀ s',Inv X pins σ H s'->Q (.bool (!o.isSome)) s') :
    wpAny (model X.prog X.w) A (compareOp .NotIn u (.ref a)) Q E s:=by
  rcases g with ⟨kvs,k,e,ey,l⟩|⟨kvs,k,b,e,ey,eb,l⟩
  . subst ey;obtain⟨z,hd,vs,rel,dd⟩:=Zee I.hok e;refine wpAny_notIn_of (ZgN ry) hd dd.mapOf ?_;rw[<- (rel.val k).isSome_eq,<- l];exact h _ (I.tok _)
  . subst ey;cases (show u=Value.ref b from ry);obtain⟨z,hd,xs,rel,dd⟩:=Zfi I.hok e;refine wpAny_notIn_heap (tupleKind_room_in1 hu) (Zdj I.hok eb) hd dd ?_;have q:=(rel.val k).isSome_eq;rw[isSome_map]at q;rw[<- q,<- l];exact h _ (I.tok _)
theorem Zk8 {h':Heap}{t':Nat}{ob:HO}(I:Inv X pins σ H s)(mu:Mut (H a))(hs:Heap.SameBut a s.heap h')(he:∃ q,h'.get? a=some q)(new:Yw X.prog X.w (upd H a ob) h' a ob) :
    Inv X pins σ (upd H a ob) { s with heap:=h',toks:=t' }:=
  I.write (x:=a) (e:=a) mu (.inl rfl) (λ b q hb z=>(hs.2 b hb).trans z) he new
theorem dk_new {P:Program}{w:World}{H':Hp}{h':Heap}{kvs:List (Key×V)}{vs:List (Key×Value)}(z:kvs.length<=sizeLine)(hd:(a == sysModules)=false)(rel:KV kvs vs)(dd:h'.DictOf (ZR P w) a vs) :
    Yw P w H' h' a (.dK kvs):=⟨z,hd,vs,rel,dd⟩
theorem ZlU {H':Hp}{Q:Unit->Shared->Prop}(hu:A.units+1<cLine)(I:Inv X pins σ H s)(g:Zej H a y v H')(ry:ZI y u)(rv:ZI v r)(h:∀ s',Inv X pins σ H' s'->Q () s') :
    wpAny (model X.prog X.w) A (setItem (.ref a) u r) Q E s:=by
  rcases g with ⟨kvs,k,e,ey,l,eH⟩|⟨kvs,k,b,e,ey,eb,l,eH⟩
  . subst ey eH;obtain⟨z,hd,vs,rel,dd⟩:=dk_of I.hok e;have hz:vs.length<=sizeLine:=by rw[<- rel.length];exact z
    have hl:(Zdd kvs k v).length<=sizeLine:=by have:=Zfc kvs k v;omega
    refine wpAny_setItem_pairs (hsz:=hz) (ZgN ry) dd λ h' dd' hs=>h _ ?_;have he:∃ q,h'.get? a=some q:=let ⟨q,_,_,hq,_⟩:=dd';⟨q,hq⟩;exact Zk8 I (by rw[e];exact True.intro) hs he (dk_new hl hd (rel.put k rv) dd')
  . subst ey eH;cases (show u=Value.ref b from ry);obtain⟨z,hd,xs,rel,dd⟩:=dt_of I.hok e;have hz:xs.length<=sizeLine:=by rw[<- Paired.length rel];exact z
    have hl:(Zdd kvs k v).length<=sizeLine:=by have:=Zfc kvs k v;omega
    refine wpAny_setItem_heap (hsz:=hz) (tupleKind_room_in1 hu) (Zdj I.hok eb) dd λ h' dd' hs=>h _ ?_;obtain⟨q,es,ep,hq,h2,h3,h4,_,h5⟩:=dd';refine Zk8 I (by rw[e];exact True.intro) hs ⟨q,hq⟩ ⟨hl,hd,_,(rel.put k eb rv).keeps λ c ys ec=>?_,q,es,ep,hq,h2,h3,h4,h5⟩;rw[Zh (ne_of ec e (λ z=>nomatch z))];exact ec
end
section
variable {X:Cx}{pins:List (Addr×Obj)}{σ:St}{H:Hp}{s:Shared}{a:Addr}{kvs:List (Key×V)}{k:Key}{u:Value}{A:Around}{E:Value->Shared->Prop}
end
noncomputable def NoSl (i:Expr):Prop:=∀ ov iv,subscripted i false ov iv=operate [ov,iv] (getItem ov iv)
theorem Znv {prog:Program}{w:World}{A:Around}{E:Value->Shared->Prop}{s:Shared}{env:Env}{value slice:Expr}{pos:Pos}{T id:String}{Q:Value->Shared->Prop}(hl:typeLookup (.type T) "__getitem__"=pure (some (.builtin id)))(hs:NoSl slice)(h:wpAny (model prog w) A (eval value env) (λ o s₁=>wpAny (model prog w) A (eval slice env) (λ i s₂=>s₂.TypeIs o T/\wpAny (model prog w) A (getItem o i) Q E s₂) E s₁) E s) :
    wpAny (model prog w) A (eval (.Subscript value slice pos) env) Q E s:=by
  refine Subscript_ (wpAny_mono h (λ o s₁ h₁=>wpAny_mono h₁ (λ i s₂ h₂=>?_) λ _ _ x=>x) λ _ _ x=>x);obtain⟨hT,h₂⟩:=h₂;unfold subscriptTail;refine wpAny_bind ?_;rw[getitemInPython_of_ne hT.not_modules];refine wpAny_bind (wpAny_specialOf hT hl ?_);have fin:wpAny (model prog w) A (subscripted slice false o i) (λ r s₃=>wpAny (model prog w) A (letTemporaryGo value o r >>= λ _=>pure r) Q E s₃) E s₂:=by
    rw[hs o i];exact wpAny_operating (wpAny_mono h₂ (λ r s₃ h₃=>wpAny_bind (wpAny_letTemporaryGo (wpAny_pure h₃))) λ _ _ x=>x)
  first
    | exact wpAny_pure (wpAny_bind fin)
    | exact wpAny_bind (wpAny_pure (wpAny_bind fin))
    | exact wpAny_bind fin
theorem ZjO {X:Cx}{pins:List (Addr×Obj)}{σ:St}{H:Hp}{s:Shared}{a:Addr}{y:V}{o:Option V}(I:Inv X pins σ H s)(g:ZY H a y o):s.TypeIs (.ref a) "dict":=by
  rcases g with ⟨kvs,k,e,_,_⟩|⟨kvs,k,b,e,_,_,_⟩
  . obtain⟨_,_,vs,_,dd⟩:=Zee I.hok e;exact dd.typeIs
  . obtain⟨_,_,xs,_,dd⟩:=Zfi I.hok e;exact dd.typeIs
noncomputable def tDGet (td ty:TE):TE:=λ σ H Q=>td σ H λ x H1=>ty σ H1 λ y H2=>∃ a v,x = .ref a/\ZY H2 a y (some v)/\Q v H2
noncomputable def tDIn (ty td:TE):TE:=λ σ H Q=>ty σ H λ y H1=>td σ H1 λ x H2=>∃ a o,x = .ref a/\ZY H2 a y o/\Q (.bl o.isSome) H2
noncomputable def Znu (ty td:TE):TE:=λ σ H Q=>ty σ H λ y H1=>td σ H1 λ x H2=>∃ a o,x = .ref a/\ZY H2 a y o/\Q (.bl (!o.isSome)) H2
noncomputable def sDPut (td ty tv:TE):TS:=λ D σ H=>tv σ H λ v H1=>td σ H1 λ x H2=>ty σ H2 λ y H3=>∃ a H4,x = .ref a/\Zej H3 a y v H4/\D.nx σ H4
section
variable {X:Cx}{o i e value:Expr}{pos pos' tpos:Pos}{td ty tv:TE}
theorem JU (hu:X.A.units+1<cLine)(ho:PE X o td)(hi:PE X i ty)(hs:NoSl i):PE X (.Subscript o i pos) (tDGet td ty):=by
 refine⟨?_⟩;intro pins s σ H Q I h;refine Znv PySem.F.slot_dict_getitem.lookup hs (thn (ho pins s σ H _ I h) λ u s1 ⟨x,H1,I1,rx,q1⟩=>thn (hi pins s1 σ H1 _ I1 q1) λ iv s2 zz9=>?_);obtain⟨y,H2,I2,ry,a,v,ex,g,q2⟩:=zz9;subst ex;obtain rfl:u=Value.ref a:=rx;exact⟨ZjO I2 g,ZlV hu I2 g ry λ w' s3 I3 rw'=>⟨v,H2,I3,rw',q2⟩⟩
theorem XM (hu:X.A.units+1<cLine)(hi:PE X i ty)(ho:PE X o td):PC X .In i o (tDIn ty td):=by
 refine⟨?_⟩;intro pins s σ H Q I h;refine thn (hi pins s σ H _ I h) λ iv s1 ⟨y,H1,I1,ry,q1⟩=>thn (ho pins s1 σ H1 _ I1 q1) λ u s2 zz9=>?_;obtain⟨x,H2,I2,rx,a,ov,ex,g,q2⟩:=zz9;subst ex;obtain rfl:u=Value.ref a:=rx;exact d_in hu I2 g ry λ s3 I3=>⟨.bl ov.isSome,H2,I3,rfl,q2⟩
theorem Yt (hu:X.A.units+1<cLine)(hi:PE X i ty)(ho:PE X o td):PC X .NotIn i o (Znu ty td):=by
 refine⟨?_⟩;intro pins s σ H Q I h;refine thn (hi pins s σ H _ I h) λ iv s1 ⟨y,H1,I1,ry,q1⟩=>thn (ho pins s1 σ H1 _ I1 q1) λ u s2 zz9=>?_;obtain⟨x,H2,I2,rx,a,ov,ex,g,q2⟩:=zz9;subst ex;obtain rfl:u=Value.ref a:=rx;exact Zn1 hu I2 g ry λ s3 I3=>⟨.bl (!ov.isSome),H2,I3,rfl,q2⟩
theorem XT (hu:X.A.units+1<cLine)(ho:PE X o td)(hi:PE X i ty)(hv:PE X value tv)(hs:swapsWith value (some (.Subscript o i pos')) pos.line X.env=pure false) :
    PS X (.Assign [.Subscript o i pos'] value pos) (sDPut td ty tv):=by
  refine⟨?_⟩;intro pins s σ H D I h;refine wpAny_Assign_Subscript (thn (hv pins s σ H _ I h) λ r s1 ⟨v,H1,I1,rv,q1⟩=>thn (ho pins s1 σ H1 _ I1 q1) λ u s2 ⟨x,H2,I2,rx,q2⟩=>thn (hi pins s2 σ H2 _ I2 q2) λ iv s3 zz9=>?_) hs;obtain⟨y,H3,I3,ry,a,H4,ex,g,q3⟩:=zz9;subst ex;obtain rfl:u=Value.ref a:=rx;exact ZlU hu I3 g ry rv λ s4 I4=>⟨σ,H4,I4,q3⟩
end
theorem Znd {P:Program}{w:World}{H:Hp}(h:Heap)(hb:sysModules<h.objs.size):Yw P w H (h.push { cls:=.type "dict",data:=.dict #[] }) h.objs.size (.dK []):=
 ⟨zero_le _,beq_eq_false_iff_ne.mpr (Ne.symm (ne_of_lt hb)),[], .nil,Heap.DictOf.new h⟩
noncomputable def tDNewK:TE:=λ _ H Q=>∀ p,H p=none->Q (.ref p) (upd H p (.dK []))
section
variable {X:Cx}{pos:Pos}
theorem Xw:PE X (.Dict [] [] pos) tDNewK:=⟨λ pins s σ H Q I h=>
 wpAny_Dict_empty ⟨.ref s.heap.objs.size,_,I.laid (a:=s.heap.objs.size) (o:=.dK []) (t':=s.toks) (λ _ _ q=>Heap.get?_push_of_some _ q) (le_refl _) (Znd s.heap I.big),rfl,h _ (I.hok.fresh (le_refl _))⟩⟩
end
structure M1 (X:Cx)(o:Expr)(m:Str)(apos:Pos)(e:Expr)(cpos:Pos):Prop where
  base:attributeBase o m X.env (eval o X.env)=eval o X.env
  few:((backTo cpos (starEach [e] X.env)).all (λ x => !x.1) && (backToKw cpos (keywordEach [] X.env)).all (λ x=>x.1.isSome)
    && decide (([e]:List Expr).length+([]:List Keyword).length+(if ([]:List Keyword).isEmpty then 0 else 1)<30))=true
  line:(apos.endLine == cpos.line)=true
  trees:backTo cpos (starEach [e] X.env)=[(false,eval e X.env)]
structure M2 (X:Cx)(o:Expr)(m:Str)(apos:Pos)(e f:Expr)(cpos:Pos):Prop where
  base:attributeBase o m X.env (eval o X.env)=eval o X.env
  few:((backTo cpos (starEach [e,f] X.env)).all (λ x => !x.1) && (backToKw cpos (keywordEach [] X.env)).all (λ x=>x.1.isSome)
    && decide (([e,f]:List Expr).length+([]:List Keyword).length+(if ([]:List Keyword).isEmpty then 0 else 1)<30))=true
  line:(apos.endLine == cpos.line)=true
  trees:backTo cpos (starEach [e,f] X.env)=[(false,eval e X.env),(false,eval f X.env)]
noncomputable def IsD (H:Hp)(a:Addr):Prop:=(∃ kvs,Rd H a (.dK kvs))\/∃ kvs,Rd H a (.dT kvs)
theorem ZmY {X:Cx}{pins:List (Addr×Obj)}{σ:St}{H:Hp}{s:Shared}{a:Addr}(I:Inv X pins σ H s)(d:IsD H a) :
    s.TypeIs (.ref a) "dict"/\(∀ b,Value.ref a = .ref b->∃ ob,s.heap.get? b=some ob/\ob.dict=none)/\(a == sysModules)=false:=by
  rcases d with ⟨kvs,e⟩|⟨kvs,e⟩
  . obtain⟨_,hd,vs,_,dd⟩:=Zee I.hok e;refine⟨dd.typeIs,λ b q=>?_,hd⟩;cases q;obtain⟨ob,_,_,h1,h2,_⟩:=dd;exact⟨ob,h1,h2.2.1⟩
  . obtain⟨_,hd,xs,_,dd⟩:=Zfi I.hok e;refine⟨dd.typeIs,λ b q=>?_,hd⟩;cases q;obtain⟨ob,_,_,h1,h2,_⟩:=dd;exact⟨ob,h1,h2.2.1⟩
section
variable {X:Cx}{pins:List (Addr×Obj)}{σ:St}{H:Hp}{s:Shared}{a:Addr}{y d:V}{u r:Value}{o:Option V}{A:Around}{E:Value->Shared->Prop}
theorem d_get1 {Q:Value->Shared->Prop}(hu:A.units+1<cLine)(I:Inv X pins σ H s)(g:ZY H a y o)(ry:ZI y u)(h:∀ w' s',Inv X pins σ H s'->ZI (o.getD .non) w'->Q w' s') :
    wpAny (model X.prog X.w) A (call (.builtin "dict.get") [.ref a,u]) Q E s:=by
  rcases g with ⟨kvs,k,e,ey,l⟩|⟨kvs,k,b,e,ey,eb,l⟩
  . subst ey;obtain⟨z,hd,vs,rel,dd⟩:=Zee I.hok e;refine call_meetsIn slot_dict_get dd.typeIs entry_dict_get (PySem.F.args_dict_get_2 _ _) (meets_dict_get (ZR X.prog X.w) a (ZgN ry) hd) ⟨_,dd.mapOf,h _ _ (I.tok _) ?_⟩;rw[l];exact(rel.val k).getD rfl
  . subst ey;cases (show u=Value.ref b from ry);obtain⟨z,hd,xs,rel,dd⟩:=Zfi I.hok e;refine call_meetsIn slot_dict_get dd.typeIs entry_dict_get (PySem.F.args_dict_get_2 _ _) (meetsH_dict_get (tupleKind (ZR X.prog X.w)) a b hd) ⟨tupleKind_room_in1 hu,k,xs,Zdj I.hok eb,dd,h _ _ (I.tok _) ?_⟩;rw[l];exact(rel.val k).getD rfl
theorem d_get2 {Q:Value->Shared->Prop}(hu:A.units+1<cLine)(I:Inv X pins σ H s)(g:ZY H a y o)(ry:ZI y u)(rd:ZI d r)(h:∀ w' s',Inv X pins σ H s'->ZI (o.getD d) w'->Q w' s') :
    wpAny (model X.prog X.w) A (call (.builtin "dict.get") [.ref a,u,r]) Q E s:=by
  rcases g with ⟨kvs,k,e,ey,l⟩|⟨kvs,k,b,e,ey,eb,l⟩
  . subst ey;obtain⟨z,hd,vs,rel,dd⟩:=Zee I.hok e;refine call_meetsIn slot_dict_get dd.typeIs entry_dict_get (PySem.F.args_dict_get_3 _ _ _) (meets_dict_get_default (ZR X.prog X.w) a (ZgN ry) hd r) ⟨_,dd.mapOf,h _ _ (I.tok _) ?_⟩;rw[l];exact(rel.val k).getD rd
  . subst ey;cases (show u=Value.ref b from ry);obtain⟨z,hd,xs,rel,dd⟩:=Zfi I.hok e;refine call_meetsIn slot_dict_get dd.typeIs entry_dict_get (PySem.F.args_dict_get_3 _ _ _) (meetsH_dict_get_default (tupleKind (ZR X.prog X.w)) a b hd r) ⟨tupleKind_room_in1 hu,k,xs,Zdj I.hok eb,dd,h _ _ (I.tok _) ?_⟩;rw[l];exact(rel.val k).getD rd
end
noncomputable def tDGet1 (td ty:TE):TE:=λ σ H Q=>td σ H λ x H1=>∃ a,x = .ref a/\IsD H1 a/\ty σ H1 λ y H2=>∃ o,ZY H2 a y o/\Q (o.getD .non) H2
noncomputable def tDGet2 (td ty tx:TE):TE:=λ σ H Q=>td σ H λ x H1=>∃ a,x = .ref a/\IsD H1 a/\ty σ H1 λ y H2=>tx σ H2 λ z H3=>∃ o,ZY H3 a y o/\Q (o.getD z) H3
section
variable {X:Cx}{o e f:Expr}{apos cpos:Pos}{td ty tx:TE}
theorem Zmt (hu:X.A.units+1<cLine)(ho:PE X o td)(he:PE X e ty)(m:M1 X o "get" apos e cpos):PE X (.Call (.Attribute o "get" apos) [e] [] cpos) (tDGet1 td ty):=by
 refine⟨?_⟩;intro pins s σ H Q I h;refine wpAny_Call_method m.base m.few m.line PySem.F.plainAttrs_dict slot_dict_get PySem.F.type_dict_get (thn (ho pins s σ H _ I h) λ u s1 zz9=>?_);obtain⟨x,H1,I1,rx,a,ex,d,q1⟩:=zz9;subst ex;obtain rfl:u=Value.ref a:=rx;obtain⟨t1,t2,_⟩:=ZmY I1 d;refine⟨t1,t2,?_⟩;rw[m.trees];refine Calls.callWith_builtin rfl (Calls.evalArgs_plain (Calls.spliced_cons (thn (he pins s1 σ H1 _ I1 q1) λ iv s2 ⟨y,H2,I2,ry,ov,g,q2⟩=>Calls.spliced_nil ?_)));exact d_get1 hu I2 g ry λ w' s3 I3 rw'=>⟨_,H2,I3,rw',q2⟩
theorem Zgp (hu:X.A.units+1<cLine)(ho:PE X o td)(he:PE X e ty)(hf:PE X f tx)(m:M2 X o "get" apos e f cpos):PE X (.Call (.Attribute o "get" apos) [e,f] [] cpos) (tDGet2 td ty tx):=by
  refine⟨?_⟩;intro pins s σ H Q I h;refine wpAny_Call_method m.base m.few m.line PySem.F.plainAttrs_dict slot_dict_get PySem.F.type_dict_get (thn (ho pins s σ H _ I h) λ u s1 zz9=>?_);obtain⟨x,H1,I1,rx,a,ex,d,q1⟩:=zz9;subst ex;obtain rfl:u=Value.ref a:=rx;obtain⟨t1,t2,_⟩:=ZmY I1 d;refine⟨t1,t2,?_⟩;rw[m.trees];refine Calls.callWith_builtin rfl (Calls.evalArgs_plain (Calls.spliced_cons (thn (he pins s1 σ H1 _ I1 q1) λ iv s2 ⟨y,H2,I2,ry,q2⟩=>
    Calls.spliced_cons (thn (hf pins s2 σ H2 _ I2 q2) λ fv s3 ⟨z,H3,I3,rz,ov,g,q3⟩=>Calls.spliced_nil ?_))))
  exact d_get2 hu I3 g ry rz λ w' s4 I4 rw'=>⟨_,H3,I4,rw',q3⟩
end
section
variable {X:Cx}{pins:List (Addr×Obj)}{σ:St}{H:Hp}{s:Shared}{a:Addr}{kvs:List (Key×V)}{A:Around}{E:Value->Shared->Prop}
end
section
variable {X:Cx}{pins:List (Addr×Obj)}{σ:St}{H:Hp}{s:Shared}{a:Addr}{y:V}{u:Value}{A:Around}{E:Value->Shared->Prop}
end
end L2
namespace HT
open PySem PyProof.Rows
section
open PySem.SeqAt
open PySem.AutoSeq1 (wpAny_loadPart')
open PySem.MeetsSeq PySem.MeetsSeq2 PySem.MeetsSeq3
end
section
variable {prog:Program}{w:World}{A:Around}{E:Value->Shared->Prop}{s:Shared}
noncomputable def sIx (n d:Nat):Option Int->Nat
  |none=>d
  |some v=>if v<0 then (v+(n:Int)).toNat else min v.toNat n
theorem sIx_none (n d:Nat):sIx n d none=d:=rfl
theorem sIx_nat (n d k:Nat):sIx n d (some (k:Int))=min k n:=by
 show(if (k:Int)<0 then ((k:Int)+(n:Int)).toNat else min (k:Int).toNat n)=min k n;rw[if_neg (by omega),toNat_natCast]
end
end HT
namespace L2
open PySem PySem.Spec PyProof.Rows
noncomputable abbrev TO:=St->Hp->(Option Int->Hp->Prop)->Prop
noncomputable abbrev POb (X:Cx)(e:Option Expr)(t:TO):Prop:=
  ∀(pins:List (Addr×Obj))(s:Shared)(σ:St)(H:Hp)(Q:Option Int->Hp->Prop),Inv X pins σ H s->t σ H Q ->
    wpAny (model X.prog X.w) X.A (evalPart e X.env) (λ u s'=>∃ o H',Inv X pins σ H' s'/\IsPart u o/\Q o H') X.xe s
structure PO (X:Cx)(e:Option Expr)(t:TO):Prop where
  go:POb X e t
instance {X:Cx}{e:Option Expr}{t:TO}:CoeFun (PO X e t) λ _=>POb X e t:=⟨PO.go⟩
noncomputable def ZkG:TO:=λ _ H Q=>Q none H
noncomputable def tPart (t:TE):TO:=λ σ H Q=>t σ H λ x H1=>∃ i,x = .int i/\Q (some i) H1
theorem ZgQ {ns:List Int}:∀ {us:List Value},ZJ (ns.map V.int) us->IntsAre us ns:=by
  induction ns with
  |nil=>intro us r;rw[map_nil]at r;cases r;exact .nil
  |cons n ns ih=>
    intro us r;rw[map_cons]at r;cases r with
    |cons r1 r2=>
      obtain⟨t,e⟩:=r1;subst e;exact .cons n t (ih r2)
section
variable {X:Cx}{e:Expr}{te:TE}{lo hi:Option Expr}{tl th:TO}{pos p2:Pos}
theorem Zih:PO X none ZkG:=by
 refine⟨?_⟩;intro pins s σ H Q I h;rw[evalPart_none];exact wpAny_pure ⟨none,H,I, .none,h⟩
theorem Zig (h:PE X e te):PO X (some e) (tPart te):=by
 refine⟨?_⟩;intro pins s σ H Q I hw;rw[evalPart_some];refine thn (h pins s σ H _ I hw) λ u s1 zz9=>?_;obtain⟨x,H1,I1,r1,q1⟩:=zz9;obtain⟨i,rfl,q⟩:=q1;obtain⟨t,rfl⟩:=r1;exact⟨some i,H1,I1, .int i t,q⟩
noncomputable def SlR (X:Cx)(r:V->Option Int->Option Int->Hp->VK->Prop):Prop:=
  ∀(pins:List (Addr×Obj))(s:Shared)(σ:St)(H:Hp)(x:V)(v vl vu:Value)(lo hi:Option Int)(sl:Addr)(Q:VK),Inv X pins σ H s->ZI x v->s.heap.IsSliceOf sl vl vu .none->IsPart vl lo->IsPart vu hi->r x lo hi H Q ->
    ∃ T id,typeLookup (.type T) "__getitem__"=pure (some (.builtin id))/\s.TypeIs v T/\wpAny (model X.prog X.w) X.A (getItem v (.ref sl)) (EP X pins σ Q) X.xe s
noncomputable def tSl (r:V->Option Int->Option Int->Hp->VK->Prop)(te:TE)(tl th:TO):TE:=λ σ H Q=>te σ H λ x H1=>tl σ H1 λ l H2=>th σ H2 λ u H3=>r x l u H3 Q
theorem Zgo {r:V->Option Int->Option Int->Hp->VK->Prop}(hr:SlR X r)(he:PE X e te)(hl:PO X lo tl)(hu:PO X hi th):PE X (.Subscript e (.Slice lo hi none p2) pos) (tSl r te tl th):=by
 refine⟨?_⟩;intro pins s σ H Q I h;refine Subscript_ (thn (he pins s σ H _ I h) λ v s1 zz9=>?_);obtain⟨x,H1,I1,r1,q1⟩:=zz9;refine wpAny_Slice (thn (hl pins s1 σ H1 _ I1 q1) λ vl s2 ⟨l,H2,I2,pl,q2⟩=>thn (hu pins s2 σ H2 _ I2 q2) λ vu s3 zz9=>?_);obtain⟨u,H3,I3,pu,q3⟩:=zz9;rw[evalPart_none];refine wpAny_pure ?_;have I4:Inv X pins σ H3 { s3 with heap:=s3.heap.push { cls:=.type "slice",data:=.fields #[vl,vu, .none] } }:=I3.kept (t':=s3.toks) λ b ob q=>Heap.get?_push_of_some _ q;obtain⟨T,id,hT,ht,hg⟩:=hr pins { s3 with heap:=s3.heap.push { cls:=.type "slice",data:=.fields #[vl,vu, .none] } } σ H3 x v vl vu l u s3.heap.objs.size Q I4 r1 (Heap.IsSliceOf.new ..) pl pu q3;show wpAny (model X.prog X.w) X.A (subscriptTail e (.Slice lo hi none p2) v (.ref s3.heap.objs.size)) (EP X pins σ Q) X.xe { s3 with heap:=s3.heap.push { cls:=.type "slice",data:=.fields #[vl,vu, .none] } };exact tail_any (ops:=[.ref s3.heap.objs.size,v]) ht hT hg (by with_unfolding_all rfl)
noncomputable def Zku (xs:List V)(lo hi:Option Int):List V:=(xs.drop (HT.sIx xs.length 0 lo)).take (HT.sIx xs.length xs.length hi - HT.sIx xs.length 0 lo)
theorem ZjQ (xs:List V)(lo hi:Option Int):(Zku xs lo hi).length<=xs.length:=by
 unfold Zku;rw[length_take,List.length_drop];omega
end
open PySem PySem.Spec PyProof.Rows
noncomputable def ixN (n:Nat)(i:Int):Option Nat:=if 0<=i then (if i<n then some i.toNat else none) else if -(n:Int)<=i then some (i+n).toNat else none
noncomputable def atI {α:Type}(xs:List α)(i:Int):Option α:=(ixN xs.length i).bind λ j=>xs[j]?
theorem ZkX {n:Nat}{i:Int}{j:Nat}(h:ixN n i=some j):seqIndex? i n=some j/\j<n /\ -(n:Int)<=i/\i<n:=by
  unfold ixN at h
  by_cases h0:0<=i
  . rw[if_pos h0]at h
    by_cases h1:i<n
    . rw[if_pos h1]at h;have e:i.toNat=j:=Option.some.inj h;exact⟨by rw[seqIndex_of h0 h1,e],by omega,by omega,h1⟩
    . rw[if_neg h1]at h;cases h
  . rw[if_neg h0]at h
    by_cases h1 : -(n:Int)<=i
    . rw[if_pos h1]at h;have e:(i+n).toNat=j:=Option.some.inj h;exact⟨by rw[seqIndex_neg (by omega) h1,e],by omega,h1,by omega⟩
    . rw[if_neg h1]at h;cases h
theorem ZiV {α:Type}{xs:List α}{i:Int}{v:α}(h:atI xs i=some v):∃ j,seqIndex? i xs.length=some j/\xs[j]? = some v/\j<xs.length /\ -(xs.length:Int)<=i/\i<xs.length:=by
  unfold atI at h;cases e:ixN xs.length i with
  |none=>rw[e]at h;cases h
  |some j=>
    rw[e]at h;obtain⟨h1,h2,h3,h4⟩:=ZkX e;exact⟨j,h1,h,h2,h3,h4⟩
theorem JY {α:Type}{xs:List α}{j:Nat}{v:α}(h:xs[j]? = some v):atI xs (j:Int)=some v:=by
  have hj:j<xs.length:=(List.getElem?_eq_some_iff.mp h).1;have e:ixN xs.length (j:Int)=some j:=by
    unfold ixN;rw[if_pos (by omega),if_pos (by omega)];simp
  unfold atI;rw[e];exact h
theorem Znn {α:Type}(xs:List α)(v:α):atI (xs++[v]) (-1)=some v:=by
  have hl:(xs++[v]).length=xs.length+1:=by simp
  have e:ixN (xs++[v]).length (-1)=some xs.length:=by
    unfold ixN;rw[hl,if_neg (by decide),if_pos (by omega)];congr 1;omega
  unfold atI;rw[e];show(xs++[v])[xs.length]? = some v;simp
noncomputable def Zn7 (b:Expr):Prop:=∀ o i,subscripted b false o i=operate [o,i] (getItem o i)
noncomputable def IxR (X:Cx)(r:R2):Prop:=
  ∀(value slice:Expr)(pins:List (Addr×Obj))(s:Shared)(σ:St)(H:Hp)(x y:V)(v u:Value)(Q:VK),Inv X pins σ H s->ZI x v->ZI y u->r x y H Q ->
    subscripted slice false v u=operate [v,u] (getItem v u)->wpAny (model X.prog X.w) X.A (subscriptTail value slice v u) (EP X pins σ Q) X.xe s
noncomputable def MtR (X:Cx)(id:String)(r:V->List V->Hp->VK->Prop):Prop:=
  ∀(pins:List (Addr×Obj))(s:Shared)(σ:St)(H:Hp)(x:V)(xs:List V)(v:Value)(us:List Value)(Q:VK),Inv X pins σ H s->ZI x v->ZJ xs us->r x xs H Q ->
    wpAny (model X.prog X.w) X.A (call (.builtin id) (v::us)) (EP X pins σ Q) X.xe s
section
variable {X:Cx}{a b:Expr}{ta tb:TE}{pos:Pos}
theorem Zn {r:R2}(hr:IxR X r)(ha:PE X a ta)(hb:PE X b tb)(hs:Zn7 b):PE X (.Subscript a b pos) (tOp r ta tb):=by
 refine⟨?_⟩;intro pins s σ H Q I h;exact Subscript_ (binT ha hb I h λ v u s2 x y H2 I2 rx ry q=>hr a b pins s2 σ H2 x y v u Q I2 rx ry q (hs _ _))
noncomputable def rIxL (K:Frag):R2:=λ x y H Q=>∃ p xs i v,x = .ref p/\y = .int i/\SqL K H p xs/\atI xs i=some v/\Q v H
noncomputable def Zex (K:Frag):R2:=λ x y H Q=>∃ p xs i v,x = .ref p/\y = .int i/\SqT K H p xs/\atI xs i=some v/\Q v H
noncomputable def rIxS:R2:=λ x y H Q=>∃ z i c,x = .str z/\y = .int i/\z.length<=sizeLine/\atI z.cps.toList i=some c/\Q (.str ⟨#[c]⟩) H
theorem ZG:IxR X (rIxL X.K):=by
  intro value slice pins s σ H x y v u Q I rx ry h hs;obtain⟨p,xs,i,z,rfl,rfl,hq,he,q⟩:=h;cases rx;obtain⟨t,rfl⟩:=ry;obtain⟨its,r,pl,hz⟩:=I.list hq;obtain⟨j,h1,h2,h3,h4,h5⟩:=ZiV he;obtain⟨w,ew,rw'⟩:=r.get h2;have hl:=r.length;have hn:=ZeJ;have fin:EP X pins σ Q w s:=⟨z,H,I,rw',q⟩
  by_cases h0:0<=i
  . have hj:i.toNat=j:=by
      rw[seqIndex_of h0 h5]at h1;exact Option.some.inj h1
    exact item_listR pl.isList h0 (by omega) (by rw[hj];simpa using ew) fin hs
  . have hj:(i+(its.toArray.size:Int)).toNat=j:=by
      rw[seqIndex_neg (by omega) h4]at h1;rw[size_toArray,<- hl];exact Option.some.inj h1
    exact subscriptTail_builtinR (x:=w) pl.isList.typeIs slot_list_getitem.lookup
      (wpAny_getItem_list_neg (Q:=λ r s'=>r=w/\EP X pins σ Q r s') pl.isList (by omega) (by rw[size_toArray] <;> omega) (by omega) (by rw[hj];simpa using ew) ⟨rfl,fin⟩) hs
theorem Zm:IxR X (Zex X.K):=by
  intro value slice pins s σ H x y v u Q I rx ry h hs;obtain⟨p,xs,i,z,rfl,rfl,hq,he,q⟩:=h;cases rx;obtain⟨t,rfl⟩:=ry;obtain⟨its,r,pl,hz⟩:=I.tuple hq;obtain⟨j,h1,h2,h3,h4,h5⟩:=ZiV he;obtain⟨w,ew,rw'⟩:=r.get h2;have hl:=r.length;have hn:=ZeJ;have fin:EP X pins σ Q w s:=⟨z,H,I,rw',q⟩;exact subscriptTail_builtinR (x:=w) pl.typeIs slot_tuple_getitem.lookup
    (getItem_tuple (j:=j) (Q:=λ r s'=>r=w/\EP X pins σ Q r s') pl (by omega) (by omega) (by rw[size_toArray,<- hl];exact h1) (by simpa using ew) ⟨rfl,fin⟩) hs
theorem ZmV:IxR X rIxS:=by
  intro value slice pins s σ H x y v u Q I rx ry h hs;obtain⟨z,i,c,rfl,rfl,hz,he,q⟩:=h;obtain⟨t,rfl⟩:=rx;obtain⟨t',rfl⟩:=ry;obtain⟨j,h1,h2,h3,h4,h5⟩:=ZiV he;have hl:z.cps.toList.length=z.length:=by simp[Str.length]
  rw[hl]at h1 h4 h5;have hn:=ZeJ;exact tail_any (typeIs_str s z t) slot_str_getitem.lookup (getItem_str (c:=c) (by
    have e1:decide (i < -(2 ^ 63:Int))=false:=decide_eq_false (by omega);have e2:decide (i>=2 ^ 63)=false:=decide_eq_false (by omega);rw[e1,e2,Bool.or_false]) (by rw[h1];simpa using h2) ⟨.str ⟨#[c]⟩,H,I.tok _,⟨_,rfl⟩,q⟩) hs
theorem Zkk (its:List Value)(n j:Nat)(u:Value):Obj.mapSeq (·.setIfInBounds j u) { cls:=.type "list",data:=.seq its.toArray n } = { cls:=.type "list",data:=.seq (its.set j u).toArray n }:=by
 simp[Obj.mapSeq]
theorem Inv.lst {pins:List (Addr×Obj)}{σ:St}{H:Hp}{s:Shared}{p:Addr}{xs:List V}(I:Inv X pins σ H s)(h:H p=some (.lst xs)) :
    ∃(its:List Value)(n:Nat),ZJ xs its/\s.heap.get? p=some { cls:=.type "list",data:=.seq its.toArray n }/\xs.length<=sizeLine:=by
  obtain⟨z,its,n,r,e⟩:=I.hok p _ h;exact⟨its,n,r,e,z⟩
theorem Inv.lstUpd {pins:List (Addr×Obj)}{σ:St}{H:Hp}{s:Shared}{p:Addr}{xs ys:List V}{its its':List Value}{n n':Nat}{f:Obj->Obj}(I:Inv X pins σ H s)(h:H p=some (.lst xs))(ho:s.heap.get? p=some { cls:=.type "list",data:=.seq its.toArray n })(hf:f { cls:=.type "list",data:=.seq its.toArray n } = { cls:=.type "list",data:=.seq its'.toArray n' })(r:ZJ ys its')(hz:ys.length<=sizeLine)(t:Nat) :
    Inv X pins σ (upd H p (.lst ys)) { s with heap:=s.heap.update p f,toks:=t }:=by
  have e:(s.heap.update p f).get? p=some { cls:=.type "list",data:=.seq its'.toArray n' }:=by
    rw[Heap.get?_update_self f ho (by rw[hf] <;> rfl),hf]
  refine I.write (x:=p) (e:=p) (by rw[h];trivial) (.inl rfl) (λ b u hb q=>(Heap.get?_update_other _ _ (Ne.symm hb)).trans q) ⟨_,e⟩ ?_;exact⟨hz,its',n',r,e⟩
noncomputable def rSetL:V->V->V->Hp->(Hp->Prop)->Prop:=λ o i v H Q=>∃ p xs k j,o = .ref p/\i = .int k/\H p=some (.lst xs)/\ixN xs.length k=some j/\Q (upd H p (.lst (xs.set j v)))
theorem Zmi:PSet X rSetL:=by
  refine⟨?_⟩;intro pins s σ H o i v ov iv u Q I ro ri rv h;obtain⟨p,xs,k,j,rfl,rfl,hp,hj,q⟩:=h;cases ro;obtain⟨t,rfl⟩:=ri;obtain⟨its,n,r,ho,hz⟩:=I.lst hp;obtain⟨h1,h2,h3,h4⟩:=ZkX hj;have hl:=r.length;have hn:=ZeJ;have I':Inv X pins σ (upd H p (.lst (xs.set j v))) { s with heap:=s.heap.update p (Obj.mapSeq (·.setIfInBounds j u)) }:=
    I.lstUpd hp ho (Zkk its n j u) (r.set rv j) (by rw[List.length_set];exact hz) s.toks
  by_cases h0:0<=k
  . have hk:k.toNat=j:=by
      rw[seqIndex_of h0 h4]at h1;exact Option.some.inj h1
    exact PySem.W.ki_setAt ho h0 (by omega) (by rw[size_toArray,<- hl];exact h4) (by rw[hk];exact⟨_,I',q⟩)
  . have hk:(k+(its.toArray.size:Int)).toNat=j:=by
      rw[seqIndex_neg (by omega) h3]at h1;rw[size_toArray,<- hl];exact Option.some.inj h1
    exact PySem.W.ki_setBack ho (by omega) (by rw[size_toArray,<- hl];exact h3) (by omega) (by rw[hk];exact⟨_,I',q⟩)
theorem Zh2 (lo hi:Option Int)(n:Nat):(sliceBounds lo hi none n).1=((HT.sIx n 0 lo:Nat):Int)/\(sliceBounds lo hi none n).2.1=((HT.sIx n n hi:Nat):Int)/\(sliceBounds lo hi none n).2.2=1:=by
  refine⟨?_,?_,rfl⟩
  . cases lo with
    |none=>simp[sliceBounds,HT.sIx]
    |some i=>
      simp only[sliceBounds,HT.sIx,Option.getD_none,show(1:Int)>0 by decide,if_true]
      by_cases h:i<0
      . simp only[h,if_true] <;> omega
      . simp only[h,if_false] <;> omega
  . cases hi with
    |none=>simp[sliceBounds,HT.sIx]
    |some i=>
      simp only[sliceBounds,HT.sIx,Option.getD_none,show(1:Int)>0 by decide,if_true]
      by_cases h:i<0
      . simp only[h,if_true] <;> omega
      . simp only[h,if_false] <;> omega
theorem Zhb (its:List Value)(lo hi:Option Int):slicePick its.toArray lo hi none=((its.drop (HT.sIx its.length 0 lo)).take (HT.sIx its.length its.length hi - HT.sIx its.length 0 lo)).toArray:=by
 obtain⟨h1,h2,h3⟩:=Zh2 lo hi its.toArray.size;unfold slicePick;rw[h1,h2,h3];simp only[sliceRange_one,pick_run,size_toArray] <;> rfl
noncomputable def rSlL (K:Frag):V->Option Int->Option Int->Hp->VK->Prop:=λ x lo hi H Q=>∃ a xs,x = .ref a/\SqL K H a xs/\∀ p,H p=none->Q (.ref p) (upd H p (.lst (Zku xs lo hi)))
theorem Zny:SlR X (rSlL X.K):=by
 intro pins s σ H x v vl vu lo hi sl Q I rx hs pl pu h;obtain⟨a,xs,rfl,hx,q⟩:=h;cases rx;obtain⟨its,r,ht,hz⟩:=I.list hx;have hlen:=r.length;refine⟨"list",_,slot_list_getitem.lookup,ht.isList.typeIs,?_⟩;refine wpAny_getItem_list_slice ht.isList hs pl pu .none (by simp) ?_ (by rw[size_toArray] <;> omega);rw[Zhb,<- hlen];refine⟨.ref s.heap.objs.size,_,I.laid (t':=s.toks) (o:=.lst (Zku xs lo hi)) (λ b ob q=>Heap.get?_push_of_some _ q) (le_refl _) ?_,rfl,q _ (I.hok.fresh (le_refl _))⟩;exact⟨le_trans (ZjQ xs lo hi) hz,_,0,(r.drop (HT.sIx xs.length 0 lo)).take (HT.sIx xs.length xs.length hi - HT.sIx xs.length 0 lo),Heap.get?_push_size _ rfl⟩
noncomputable def ZcK:V->Bool
  |.non=>true
  |.bl _=>true
  |.int _=>true
  |.str _=>true
  |_=>false
noncomputable def eqV:V->V->Bool
  |.non, .non=>true
  |.bl a, .bl b=>a == b
  |.bl a, .int b=>(if a then 1 else 0) == b
  |.int a, .bl b=>a == (if b then 1 else 0)
  |.int a, .int b=>a == b
  |.str a, .str b=>a == b
  |_,_=>false
theorem eqAt_V {A:Around}{s:Shared}{y x:V}{u v:Value}(ry:ZI y u)(rx:ZI x v)(fy:ZcK y=true)(fx:ZcK x=true):SeqAt.EqAt A s u v (eqV y x):=by
  cases y with
  |non=>
    cases ry;cases x with
    |non=>cases rx;exact SeqAt.EqAt.same _
    |bl b=>cases rx;exact SeqAt.EqAt.none_bool b
    |int b=>obtain⟨t,rfl⟩:=rx;exact SeqAt.EqAt.none_int b t
    |str b=>obtain⟨t,rfl⟩:=rx;exact SeqAt.EqAt.none_str b t
    |_=>exact absurd (show false=true from fx) Bool.false_ne_true
  |bl a=>
    cases ry;cases x with
    |non=>cases rx;exact SeqAt.EqAt.bool_none a
    |bl b=>cases rx;exact SeqAt.EqAt.bool_bool a b
    |int b=>obtain⟨t,rfl⟩:=rx;exact SeqAt.EqAt.bool_int a b t
    |str b=>obtain⟨t,rfl⟩:=rx;exact SeqAt.EqAt.bool_str a b t
    |_=>exact absurd (show false=true from fx) Bool.false_ne_true
  |int a=>
    obtain⟨t',rfl⟩:=ry;cases x with
    |non=>cases rx;exact SeqAt.EqAt.int_none a t'
    |bl b=>cases rx;exact SeqAt.EqAt.int_bool a t' b
    |int b=>obtain⟨t,rfl⟩:=rx;exact SeqAt.EqAt.int_int a t' b t
    |str b=>obtain⟨t,rfl⟩:=rx;exact SeqAt.EqAt.int_str a t' b t
    |_=>exact absurd (show false=true from fx) Bool.false_ne_true
  |str a=>
    obtain⟨t',rfl⟩:=ry;cases x with
    |non=>cases rx;exact SeqAt.EqAt.str_none a t'
    |bl b=>cases rx;exact SeqAt.EqAt.str_bool a t' b
    |int b=>obtain⟨t,rfl⟩:=rx;exact SeqAt.EqAt.str_int a t' b t
    |str b=>obtain⟨t,rfl⟩:=rx;exact SeqAt.EqAt.str_str a t' b t
    |_=>exact absurd (show false=true from fx) Bool.false_ne_true
  |_=>exact absurd (show false=true from fy) Bool.false_ne_true
noncomputable def eqU (x:V)(u:Value):Bool:=match u with
  |.none=>eqV .non x
  |.bool b=>eqV (.bl b) x
  |.int i _=>eqV (.int i) x
  |.str z _=>eqV (.str z) x
  |_=>false
theorem Znb {x y:V}{u:Value}(r:ZI y u)(f:ZcK y=true):eqU x u=eqV y x:=by
  cases y with
  |non=>cases r;rfl
  |bl b=>cases r;rfl
  |int i=>obtain⟨t,rfl⟩:=r;rfl
  |str z=>obtain⟨t,rfl⟩:=r;rfl
  |_=>exact absurd (show false=true from f) Bool.false_ne_true
theorem Zei {x:V}:∀ {xs:List V} {us:List Value},ZJ xs us->xs.all ZcK=true->us.any (eqU x)=xs.any λ y=>eqV y x
  |_,_, .nil,_=>rfl
  | y::xs,u::us, .cons r t,f=>by
    rw[List.all_cons,and_eq_true]at f;rw[any_cons,any_cons,Znb r f.1,Zei t f.2]
theorem Zb1 {A:Around}{s:Shared}{x:V}{v:Value}(rx:ZI x v)(fx:ZcK x=true):∀ {xs:List V} {us:List Value},ZJ xs us->xs.all ZcK=true->∀ u∈us,SeqAt.EqAt A s u v (eqU x u)
  |_,_, .nil,_=>λ u hu=>by cases hu
  | y::xs,u::us, .cons r t,f=>λ u' hu=>by
    rw[List.all_cons,and_eq_true]at f;rcases List.mem_cons.mp hu with rfl|hu
    . rw[Znb r f.1];exact eqAt_V r rx f.1 fx
    . exact Zb1 rx fx t f.2 u' hu
noncomputable def inV (x:V)(xs:List V):Bool:=xs.any λ y=>eqV y x
noncomputable def rIn (K:Frag)(neg:Bool):R2:=λ x y H Q=>∃ p xs,y = .ref p/\(SqL K H p xs\/SqT K H p xs)/\ZcK x=true/\xs.all ZcK=true/\Q (.bl (if neg then !inV x xs else inV x xs)) H
theorem XN:OpR X (compareOp .In) (rIn X.K false):=by
  intro pins s σ H x y v u Q I rx ry h;obtain⟨p,xs,rfl,hq,fx,fs,q⟩:=h;cases ry;rcases hq with hq|hq
  . obtain⟨its,r,pl,hz⟩:=I.list hq;refine SeqAt.in_listAt (eqU x) pl.isList (λ w hw=>Zb1 rx fx r fs w (by simpa using hw)) ⟨.bl _,H,I,rfl,?_⟩;rw[show its.toArray.any (eqU x)=its.any (eqU x) by simp,Zei r fs];exact q
  . obtain⟨its,r,pl,hz⟩:=I.tuple hq;refine SeqAt.in_tupleAt (eqU x) pl (λ w hw=>Zb1 rx fx r fs w (by simpa using hw)) ⟨.bl _,H,I,rfl,?_⟩;rw[show its.toArray.any (eqU x)=its.any (eqU x) by simp,Zei r fs];exact q
theorem ZaN:OpR X (compareOp .NotIn) (rIn X.K true):=by
  intro pins s σ H x y v u Q I rx ry h;obtain⟨p,xs,rfl,hq,fx,fs,q⟩:=h;cases ry;rcases hq with hq|hq
  . obtain⟨its,r,pl,hz⟩:=I.list hq;refine SeqAt.notIn_listAt (eqU x) pl.isList (λ w hw=>Zb1 rx fx r fs w (by simpa using hw)) ⟨.bl _,H,I,rfl,?_⟩;rw[show its.toArray.any (eqU x)=its.any (eqU x) by simp,Zei r fs];exact q
  . obtain⟨its,r,pl,hz⟩:=I.tuple hq;refine SeqAt.notIn_tupleAt (eqU x) pl (λ w hw=>Zb1 rx fx r fs w (by simpa using hw)) ⟨.bl _,H,I,rfl,?_⟩;rw[show its.toArray.any (eqU x)=its.any (eqU x) by simp,Zei r fs];exact q
theorem ZiU:Xt X (.type "list") (λ xs H Q=>∃ p ys,xs=[.ref p]/\(SqL X.K H p ys\/SqT X.K H p ys)/\∀ l,H l=none->Q (.ref l) (upd H l (.lst ys))):=by
  intro pins s σ H xs us Q I r h;obtain⟨p,ys,rfl,hq,q⟩:=h;obtain⟨u,rfl,rx⟩:=Js r;cases rx;have fin:∀(its:List Value),ZJ ys its->ys.length<=sizeLine->∀(h':Heap)(c':Nat),(∀ b o',s.heap.get? b=some o'->h'.get? b=some o') ->
      h'.get? s.heap.objs.size=some { cls:=.type "list",dict:=none,data:=.seq its.toArray c',slots := #[] }->EP X pins σ Q (.ref s.heap.objs.size) { s with heap:=h' }:=λ its r' hz h' c' kp e=>
    ⟨.ref s.heap.objs.size,_,I.laid (t':=s.toks) kp (le_refl _) (show Yw X.prog X.w _ h' _ (.lst ys) from⟨hz,its,c',r',e⟩),rfl,q _ (I.hok.fresh (le_refl _))⟩
  rcases hq with hq|hq
  . obtain⟨its,r',pl,hz⟩:=I.list hq;have hlen:=r'.length;obtain⟨o,ho,hc,n,hd⟩:=pl.isList;exact call_list_seq p (.inl rfl) ho hc hd (λ h' c' kp e=>fin its r' hz h' c' kp e) (by simp only[size_toArray] <;> omega)
  . obtain⟨its,r',pl,hz⟩:=I.tuple hq;have hlen:=r'.length;obtain⟨o,ho,hc,n,hd⟩:=pl;exact call_list_seq p (.inr rfl) ho hc hd (λ h' c' kp e=>fin its r' hz h' c' kp e) (by simp only[size_toArray] <;> omega)
noncomputable def tyV (K:Frag)(T:String)(x:V)(H:Hp):Prop:=match x with
  |.str _=>T="str"
  |.int _=>T="int"
  | .ref p=>(T="list"/\∃ xs,SqL K H p xs)\/(T="tuple"/\∃ o,K.lookup p=some o/\o.cls = .type "tuple"/\o.dict=none) \/
      (T="dict"/\((∃ kvs,H p=some (.dK kvs))\/∃ kvs,H p=some (.dT kvs)))\/(T="set"/\∃ S n,H p=some (.set S n))
  |_=>False
theorem tyV_is {pins:List (Addr×Obj)}{σ:St}{H:Hp}{s:Shared}{T:String}{x:V}{v:Value}(I:Inv X pins σ H s)(r:ZI x v)(ty:tyV X.K T x H) :
    s.TypeIs v T/\∀ a,v = .ref a->∃ ob,s.heap.get? a=some ob/\ob.dict=none:=by
  cases x with
  |str z=>
    obtain⟨t,rfl⟩:=r;cases (show T="str" from ty);exact⟨typeIs_str s z t,λ _ e=>nomatch e⟩
  |int i=>
    obtain⟨t,rfl⟩:=r;cases (show T="int" from ty);exact⟨typeIs_int s i t,λ _ e=>nomatch e⟩
  |ref p=>
    cases r;rcases ty with ⟨rfl,xs,hq⟩|⟨rfl,o,hk,hc,hd⟩|⟨rfl,hk⟩|⟨rfl,S,n,hk⟩
    . obtain⟨its,_,pl,_⟩:=I.list hq;refine⟨pl.isList.typeIs,λ a e=>?_⟩;cases e;obtain⟨o,n,e,c,hd,_⟩:=pl;exact⟨o,e,hd⟩
    . refine⟨⟨o,I.kIn p o hk,hc⟩,λ a e=>?_⟩;cases e;exact⟨o,I.kIn _ o hk,hd⟩
    . have z:∃ o,s.heap.get? p=some o/\o.ExactDict:=by
        rcases hk with ⟨kvs,hk⟩|⟨kvs,hk⟩
        . obtain⟨_,_,_,_,o,_,_,e,ex,_⟩:=I.hok p _ hk;exact⟨o,e,ex⟩
        . obtain⟨_,_,_,_,o,_,_,e,ex,_⟩:=I.hok p _ hk;exact⟨o,e,ex⟩
      obtain⟨o,e,ex⟩:=z;refine⟨⟨o,e,ex.1⟩,λ a e2=>?_⟩;cases e2;exact⟨o,e,ex.2.1⟩
    . obtain⟨o,_,_,_,e,ex,_⟩:=I.hok p _ hk;refine⟨⟨o,e,ex.1⟩,λ a e2=>?_⟩;cases e2;exact⟨o,e,ex.2.1⟩
  |_=>exact False.elim ty
noncomputable def tBM (K:Frag)(T:String)(r:V->List V->Hp->VK->Prop)(to:TE)(t:TA):TE:=λ σ H Q=>to σ H λ x H1=>tyV K T x H1/\t σ H1 λ xs H2=>r x xs H2 Q
variable {o e:Expr}{es:List Expr}{to:TE}{t:TA}{name:Str}{apos cpos:Pos}{T id:String}{r:V->List V->Hp->VK->Prop}
theorem YJ (pa:PlainAttrs T)(slot:Slot T name id)(hty:typeOf (.builtin id)=pure (.type "method_descriptor"))(hm:MtR X id r)(ho:PE X o to)(ha:PA X (e::es) t)(hbase:attributeBase o name X.env (eval o X.env)=eval o X.env:=by rfl)(hfew:((backTo cpos (starEach (e::es) X.env)).all (λ x => !x.1) && (backToKw cpos (keywordEach [] X.env)).all (λ x=>x.1.isSome)
      && decide ((e::es).length+([]:List Keyword).length+(if ([]:List Keyword).isEmpty then 0 else 1)<30))=true:=by rfl)(hline:(apos.endLine == cpos.line)=true:=by rfl)(hs:starEach (e::es) X.env=(false,eval e X.env)::starEach es X.env:=by rfl)(hplain:(backTo cpos (starEach es X.env)).any (·.1)=false:=by rfl) :
    PE X (.Call (.Attribute o name apos) (e::es) [] cpos) (tBM X.K T r to t):=by
  refine⟨?_⟩;intro pins s σ H Q I h;refine wpAny_Call_method_late hbase hfew hline rfl (thn (ho pins s σ H _ I h) λ v s1 zz9=>?_);obtain⟨x,H1,I1,r1,ty,q1⟩:=zz9;obtain⟨h1,h2⟩:=tyV_is I1 r1 ty;refine⟨T,id,pa,slot,hty,h1,h2,?_⟩;have hA:=ha cpos pins s1 σ H1 _ I1 q1;rw[hs]at hA ⊢;refine Calls.callWith_builtin (by show(false || (backTo cpos (starEach es X.env)).any (·.1))=false;rw[hplain] <;> rfl) (Calls.evalArgs_plain ?_);exact thn hA λ us s2 ⟨vs,H2,I2,r2,q2⟩=>hm pins s2 σ H2 x vs v us Q I2 r1 r2 q2
/- xs.append(e),list.index on a module's tuple .. are MtR facts of 06m -/
end
open PySem PySem.Spec PyProof.Rows
noncomputable def MtM (X:Cx)(id:String)(r:V->List V->Hp->VK->Prop):Prop:=
  ∀(pins:List (Addr×Obj))(s:Shared)(σ:St)(H:Hp)(x:V)(xs:List V)(v:Value)(us:List Value)(Q:VK),Inv X pins σ H s->ZI x v->ZJ xs us->r x xs H Q ->
    wpAny (model X.prog X.w) X.A (call (.builtin id) (v::us)) (EP X pins σ Q) X.xe s
theorem ZJ.one:∀ {x:V} {us:List Value},ZJ [x] us->∃ u,us=[u]/\ZI x u
  |_,_, .cons r .nil=>⟨_,rfl,r⟩
theorem ZJ.rep {xs:List V}{us:List Value}(h:ZJ xs us):∀ k:Nat,ZJ (List.replicate k xs).flatten (List.replicate k us).flatten
  |0 => .nil
  | k+1=>by
    rw[replicate_succ,replicate_succ,flatten_cons,flatten_cons];exact ZJ.append h (ZJ.rep h k)
theorem ZhF (its:List Value):∀(k:Nat)(acc:List Value),
    List.foldl (λ x1 x2=>x1++x2) acc.toArray (List.replicate k its.toArray)=(acc++(List.replicate k its).flatten).toArray
  |0,acc=>by simp
  | k+1,acc=>by
    have e:acc.toArray++its.toArray=(acc++its).toArray:=by simp
    have e2:(acc++its)++(List.replicate k its).flatten=acc++(List.replicate (k+1) its).flatten:=by
      rw[replicate_succ,flatten_cons,append_assoc]
    rw[<- e2,<- ZhF its k (acc++its),<- e,replicate_succ,foldl_cons]
section
variable {X:Cx}{pins:List (Addr×Obj)}{σ:St}{H:Hp}{s:Shared}{l b:Addr}{xs ys zs:List V}
theorem Inv.lset {its its':List Value}{n:Nat}{f:Array Value->Array Value}{t':Nat}(I:Inv X pins σ H s)(hH:H l=some (.lst xs))(e:s.heap.get? l=some { cls:=.type "list",data:=.seq its.toArray n })(hf:f its.toArray=its'.toArray)(hv:ZJ ys its')(hz:ys.length<=sizeLine) :
    Inv X pins σ (upd H l (.lst ys)) { s with heap:=s.heap.update l (Obj.mapSeq f),toks:=t' }:=by
  have q:=PySem.IsL.update e f;rw[hf]at q;refine I.write (x:=l) (e:=l) (by rw[hH];exact trivial) (.inl rfl) (λ b' u hb hu=>(Heap.get?_update_other s.heap (Obj.mapSeq f) (Ne.symm hb)).trans hu) ⟨_,q⟩ ?_;exact⟨hz,its',_,hv,q⟩
theorem Inv.lnew {its:List Value}{t':Nat}(I:Inv X pins σ H s)(hv:ZJ ys its)(hz:ys.length<=sizeLine) :
    Inv X pins σ (upd H s.heap.objs.size (.lst ys)) { s with heap:=s.heap.push { cls:=.type "list",data:=.seq its.toArray },toks:=t' }:=
  I.laid (λ _ _ q=>Heap.get?_push_of_some _ q) (le_refl _) ⟨hz,its,0,hv,Heap.get?_push_size _ rfl⟩
theorem Inv.fresh (I:Inv X pins σ H s):H s.heap.objs.size=none:=I.hok.fresh (le_refl _)
theorem Inv.lstM (I:Inv X pins σ H s)(hH:H l=some (.lst xs)):xs.length<=sizeLine/\∃(its:List Value)(n:Nat),ZJ xs its/\xs.length=its.length/\s.heap.get? l=some { cls:=.type "list",data:=.seq its.toArray n }:=by
 obtain⟨z,its,n,r,e⟩:=I.hok l _ hH;exact⟨z,its,n,r,r.length,e⟩
theorem ZjF {n:Nat}(h:n<=sizeLine):Builtin.List.listTooLong n=false:=by
 unfold Builtin.List.listTooLong;exact decide_eq_false (by omega)
end
section
variable {X:Cx}
noncomputable def ZnD:V->List V->Hp->VK->Prop:=λ x vs H Q=>∃ l xs y,x = .ref l/\vs=[y]/\H l=some (.lst xs)/\xs.length<sizeLine/\Q .non (upd H l (.lst (xs++[y])))
theorem YA:MtM X "list.append" ZnD:=by
 intro pins s σ H x vs v us Q I rx rv h;obtain⟨l,xs,y,rfl,rfl,hH,hz,q⟩:=h;cases rx;obtain⟨u,rfl,ru⟩:=rv.one;obtain⟨z,its,n,r,hl,e⟩:=I.lstM hH;refine call_meets F.slot_list_append ⟨_,e,rfl⟩ F.entry_list_append (F.args_list_append_2 _ _) (PySem.list_append l its.toArray n u (by rw[size_toArray];omega)) ⟨e,?_⟩;refine⟨.non,_,I.lset (its':=its++[u]) hH e (by simp) (r.append (.cons ru .nil)) ?_,rfl,q⟩;rw[length_append,length_singleton];omega
noncomputable def ZnC:V->List V->Hp->VK->Prop:=λ x vs H Q=>∃ l b xs zs,x = .ref l/\vs=[.ref b]/\H l=some (.lst xs)/\H b=some (.lst zs)/\xs.length+zs.length<=sizeLine/\Q .non (upd H l (.lst (xs++zs)))
theorem ZeH:MtM X "list.extend" ZnC:=by
  intro pins s σ H x vs v us Q I rx rv h;obtain⟨l,b,xs,zs,rfl,rfl,hH,hB,hz,q⟩:=h;cases rx;obtain⟨u,rfl,ru⟩:=rv.one;cases ru;obtain⟨z,its,n,r,hl,e⟩:=I.lstM hH;obtain⟨z2,its2,n2,r2,hl2,e2⟩:=I.lstM hB;have hsz:its.toArray.size+its2.toArray.size<=sizeLine:=by rw[size_toArray,size_toArray];omega
  have hlong:¬ (!its.toArray.isEmpty && Builtin.List.listTooLong (its.toArray.size+its2.toArray.size))=true:=by
    rw[ZjF hsz,Bool.and_false];exact Bool.false_ne_true
  refine call_meets F.slot_list_extend ⟨_,e,rfl⟩ F.entry_list_extend (F.args_list_extend_2 _ _)
    (AutoSeq1.list_extend_list_list_0 l its.toArray n b its2.toArray n2 hlong (by rw[size_toArray];omega) (by omega)) ⟨e,e2,?_⟩
  refine⟨.non,_,I.lset (its':=its++its2) hH e (by simp) (r.append r2) ?_,rfl,q⟩;rw[length_append];omega
noncomputable def rCat:R2:=λ x y H Q=>∃ l b xs zs,x = .ref l/\y = .ref b/\H l=some (.lst xs)/\H b=some (.lst zs)/\xs.length+zs.length<=sizeLine/\∀ p,H p=none->Q (.ref p) (upd H p (.lst (xs++zs)))
theorem Zgq:OpR X (binaryOp .Add) rCat:=by
 intro pins s σ H x y v u Q I rx ry h;obtain⟨l,b,xs,zs,rfl,rfl,hH,hB,hz,q⟩:=h;cases rx;cases ry;obtain⟨z,its,n,r,hl,e⟩:=I.lstM hH;obtain⟨z2,its2,n2,r2,hl2,e2⟩:=I.lstM hB;refine PySem.P.add_list e e2 ?_ (by rw[size_toArray,size_toArray];omega);have ea:its.toArray++its2.toArray=(its++its2).toArray:=by simp
 rw[ea];exact⟨.ref _,_,I.lnew (t':=s.toks) (r.append r2) (by rw[length_append];omega),rfl,q _ I.fresh⟩
noncomputable def rRep:R2:=λ x y H Q=>∃ l k xs,x = .ref l/\y = .int k/\H l=some (.lst xs) /\ -(2 ^ 63)<=k/\k<2 ^ 63/\xs.length * k.toNat<=sizeLine /\
 ∀ p,H p=none->Q (.ref p) (upd H p (.lst (List.replicate k.toNat xs).flatten))
theorem ZnR {α:Type}(xs:List α)(k:Nat):(List.replicate k xs).flatten.length=k * xs.length:=by
  induction k with
  |zero=>simp
  |succ k ih=>rw[replicate_succ,flatten_cons,length_append,ih,Nat.succ_mul,Nat.add_comm]
theorem op_rep:OpR X (binaryOp .Mult) rRep:=by
  intro pins s σ H x y v u Q I rx ry h;obtain⟨l,k,xs,rfl,rfl,hH,h1,h2,hz,q⟩:=h;cases rx;obtain⟨t,rfl⟩:=ry;obtain⟨z,its,n,r,hl,e⟩:=I.lstM hH;have hlen:its.toArray.size * k.toNat<=sizeLine:=by rw[size_toArray,<- hl];exact hz
  have hcap:¬ its.toArray.size * k.toNat>(2 ^ 63 - 1) / 8:=by
    have:(sizeLine:Nat)<=(2 ^ 63 - 1) / 8:=by decide
    omega
  have hfit:¬ (!Builtin.List.listFitsIndex k)=true:=by
    rw[fitsIndex_both h1 h2];exact Bool.false_ne_true
  have hlong:¬ Builtin.List.listTooLong (its.toArray.size * k.toNat)=true:=by
    rw[ZjF hlen];exact Bool.false_ne_true
  have hnew:List.foldl (λ x1 x2=>x1++x2) #[] (List.replicate (if its.toArray.isEmpty=true then 0 else k.toNat) its.toArray)=(List.replicate k.toNat its).flatten.toArray:=by
    have f0:∀ m:Nat,List.foldl (λ x1 x2=>x1++x2) #[] (List.replicate m its.toArray)=(List.replicate m its).flatten.toArray:=λ m=>by
      have:=ZhF its m [];rw[List.nil_append]at this;exact this
    rw[f0];cases its with
    |nil=>simp
    |cons a r'=>rw[if_neg (by simp)]
  refine wpAny_binaryOp_repeat_ref (T:="list") (U:="int") (by decide) ⟨_,e,rfl⟩ (λ s'=>typeIs_int s' k t) noFill_list_mul F.fills_int_mul F.slot_int_rmul repeat_list F.slot_int_index.lookup
    (call_meets F.slot_int_rmul (typeIs_int s k t) F.entry_int_rmul (F.args_int_rmul_2 _ _) (int___rmul___int_list k t l its.toArray n)
      ⟨e,rfl,⟨_,e,rfl⟩,call_meets F.slot_list_mul ⟨_,e,rfl⟩ F.entry_list_mul (F.args_list_mul_2 _ _) (AutoListH.list___mul___list_int_3 l its.toArray n k t hfit hcap hlong) ⟨e,?_⟩⟩)
  rw[hnew];exact⟨.ref _,_,I.lnew (t':=s.toks) (r.rep k.toNat) (by rw[ZnR,Nat.mul_comm];exact hz),rfl,q _ I.fresh⟩
end
section
variable {prog:Program}{w:World}{A:Around}{E:Value->Shared->Prop}{s:Shared}
end
section
variable {X:Cx}
end
end L2
namespace Att
open PySem PySem.W PySem.Calls PyProof.Rows
theorem ZfD {P:Params}{h:Heap}:∀(ns:List Int)(vs:List Value),WellAll P h vs (ns.map WData.int)->IntsAre vs ns:=by
  intro ns
  induction ns with
  |nil=>
    intro vs w;rw[map_nil]at w;cases w;exact .nil
  |cons n ns ih=>
    intro vs w;rw[map_cons]at w;cases w with
    |cons a b=>
      cases a;exact .cons _ _ (ih _ b)
theorem Zlm {l:OpenLaw}{n:Nat}(hn:l.most=some n){P:Params}{h:Heap}{args:List WData}{vals:List Value}(hpre:l.row.toRowW.claim.pre args=true)(hwl:WellAll P h vals args) :
    ∃ a vs ns,vals=[Value.ref a]/\args=[WData.list (ns.map WData.int)]/\h.get? a=some { cls:=.type "list",data:=.seq vs.toArray }/\IntsAre vs ns/\ns.length<=n:=by
  have hsh:WShape.hasAll [] args [.list .int]=true:=(pre_splitW hpre).1;have hc:l.pre.holds [] { args:=args }=true:=(pre_splitW hpre).2;obtain⟨d,r,rfl,h1,h2⟩:=hasAllW_cons hsh;obtain rfl:=hasAllW_nil h2;obtain⟨xs,rfl,h3⟩:=hasW_list h1;obtain⟨ns,rfl⟩:=items_int h3;have hlen:ns.length<=n:=by
    unfold OpenLaw.pre at hc;have h4:(WTm.not (.lt (.lit (.int (n:Int))) (.len (.arg 0)))).holds [] { args:=[.list (ns.map .int)] }=true:=by
      have h4:=(holds_andW hc).1;rw[hn]at h4;exact h4
    have h5:=condW_of h4 (w_not (w_lt w_lit (w_len_list (w_arg rfl))));rw[length_map]at h5;refine Nat.le_of_not_lt λ q=>?_;have q':(n:Int)<((ns.length:Nat):Int):=by omega
    first
      | (rw[decide_eq_true q']at h5;exact absurd h5 (by decide))
      | (simp at h5;omega)
  cases hwl with
  |cons w1 w2=>
    cases w2;cases w1 with
    |list ho hall=>exact⟨_,_,ns,rfl,rfl,ho,ZfD ns _ hall,hlen⟩
theorem Zlt (l:OpenLaw)(args:List WData):l.row.toRowW.claim.post args (.bool true) args=true:=
  postW_of (r:=l.row.toRowW) (X:=(true == true))
    (show WShape.has [] (.bool true) .bool=true by first|rfl|decide|simp[WShape.has,WShape.arms,WShape.armsAll])
    (show(WTm.eq .res (.lit (.bool true))).value [] { args:=args,res:=some (.bool true),after:=args }=some (.bool (true == true)) from w_eq_bool (w_res rfl) w_lit) rfl
theorem attach_call {l:OpenLaw}{n:Nat}{q:Program}{loose:List Str}{XP:(Str->Option Value)->Heap->Prop}{YP:World->Heap->Prop}{d:DefRec}(hn:l.most=some n)(hdf:d.params.defaults=[])(call:∀(w:World)(s₀ s₁:Shared)(mg mb:Str->Option Value)(fa:Addr)(o:Obj)(pm cd doc:Value)(a:Addr)(vs:List Value)(ns:List Int),
      Ground q loose [] XP w s₀ mg mb s₁.heap->YP w s₁.heap ->
      s₁.heap.get? fa=some o->o.data = .func (docDef d.name d.params d.body d.scope pm cd doc)->s₁.heap.CodeRec cd d.name->mg d.name=some (.ref fa) ->
      s₁.heap.get? a=some { cls:=.type "list",data:=.seq vs.toArray }->IntsAre vs ns->ns.length<=n->s₁.gens = #[] ->
      codeAny (model l.prog w) callerA (.call (.ref fa) ⟨[.ref a],[]⟩) (λ r s'=>r = .ok (.ret (.bool true))/\OldK s₁.heap s'.heap/\s'.os=s₁.os/\AllBare s'.gens) s₁) :
    WalkO q loose XP YP l.row.toRowW d [] (λ f vs=>PySem.call f vs):=by
  intro w s₀ s₁ mg mb G Y fa o pm cd doc dV kV ho hd hcd hD hmg hg args vals as hpre hlay hrd hwl hlo;obtain rfl:dV = .none:=Dflts.none hD hdf;obtain rfl:kV = .none:=Dflts.noKw hD;obtain⟨a,vs,ns,rfl,rfl,hobj,hints,hlen⟩:=Zlm hn hpre hwl;refine enter_call (codeAny_mono (call w s₀ s₁ mg mb fa o pm cd doc a vs ns G Y ho (fd_plain hd) hcd hmg hobj hints hlen hg) λ r s' hq=>?_);obtain⟨rfl,h2,h3,h4⟩:=hq;exact⟨.inl ⟨.bool true, .bool true,[],rfl,λ _=>rfl, .bool true,Zlt l _,λ _=>⟨List.Pairwise.nil,λ _ hm=>(nomatch hm)⟩⟩,h2,h3,h4⟩
section
variable {prog:Program}{w:World}{A:Around}{E:Value->Shared->Prop}{s:Shared}{K:Frag}
end
end Att
namespace L2
open PySem PySem.Spec PyProof.Rows
theorem Zhq:∀ {vs:List Value} {ns:List Int},IntsAre vs ns->ZJ (ns.map V.int) vs
  |_,_, .nil => .nil
  |_,_, .cons n t h => .cons ⟨t,rfl⟩ (Zhq h)
noncomputable def Only (H:Hp):Prop:=∀ b,H b=none\/∃ o xs,H b=some (.frz o (.lst xs))
theorem ZmO {P:Program}{w:World}{K:Frag}{mg mb:Str->Option Value}{CX:CXT}{k:Nat}{fa a:Addr}{fd:FuncData}{x:Str}{sp:Sp}{s₁:Shared}{vs:List Value}{ns:List Int}(KX:K.In s₁.heap)(hns:s₁.heap.Ns mainGlobals mg)(hb:s₁.heap.Ns builtinsNs mb)(hbb:∀ x:Str,x≠"__name__"->mb x=bootBuiltins x)(hlim:s₁.heap.NoLimit)(hg:s₁.gens = #[])(ha:s₁.heap.get? a=some { cls:=.type "list",data:=.seq vs.toArray })(hi:IntsAre vs ns)(hl:ns.length<=sizeLine)(hr:Room k callerA)(F:∀ base:Heap,K.In base->base.Ns mainGlobals mg->FnOk P w K mg base CX k fa fd [x] sp)(hbind:∀(s:Shared)(u:Value),BindsTo s fd ⟨[u],[]⟩ [(x,u)])(hsp:∀ H:Hp,Only H->SqL K H a (ns.map V.int)->sp [.ref a] H (λ v _=>v = .bl true) λ _ _ _=>False)(hCX:∀ H e s',CX [] H s₁ (λ _ _ _=>False) e s'->False) :
    codeAny (model P w) callerA (.call (.ref fa) ⟨[.ref a],[]⟩) (λ r s'=>r = .ok (.ret (.bool true))/\OldK s₁.heap s'.heap/\s'.os=s₁.os/\AllBare s'.gens) s₁:=by
  have rv:=Zhq hi;have lenV:=hi.length;have core:∀ H:Hp,Only H->SqL K H a (ns.map V.int)->HOk P w H s₁.heap->(∀ b,H b≠none->b=a)->(H a≠none->K.lookup a=none) ->
      codeAny (model P w) callerA (.call (.ref fa) ⟨[.ref a],[]⟩) (λ r s'=>r = .ok (.ret (.bool true))/\OldK s₁.heap s'.heap/\s'.os=s₁.os/\AllBare s'.gens) s₁:=by
    intro H hO hS hok hA hK;have base_of:∀ {b:Addr} {o:Obj},s₁.heap.get? b=some o->H b=none->(ZiJ s₁.heap H).get? b=some o:=λ e n=>Zm1 e n;have noA:∀ {b:Addr} {o:Obj} {es:Array DictEntry} {ep:Nat},s₁.heap.get? b=some o->o.data = .dict es ep->H b=none:=λ {b o es ep} e d=>by
      cases q:H b with
      |none=>rfl
      |some u=>
        have e':b=a:=hA b (by rw[q];simp);subst e';rw[ha]at e;cases e;have d':Data.seq vs.toArray _=Data.dict es ep:=d;cases d'
    have nsK:∀ {b:Addr} {m:Str->Option Value},s₁.heap.Ns b m->(ZiJ s₁.heap H).Ns b m:=λ {b m} ⟨o,es,ep,e,d,r⟩=>⟨o,es,ep,base_of e (noA e d),d,r⟩;have hKb:K.In (ZiJ s₁.heap H):=λ b o e=>base_of (KX b o e) (by
      cases q:H b with
      |none=>rfl
      |some u=>
        have e':b=a:=hA b (by rw[q];simp);subst e';rw[hK (by rw[q];simp)]at e;cases e)
    have hM:Mod K mg (ZiJ s₁.heap H):=⟨hKb,nsK hns,⟨mb,nsK hb,hbb⟩,let ⟨mc,h1,h2⟩:=hlim;⟨mc,nsK h1,h2⟩⟩;have e0:Env0 P w K mg (ZiJ s₁.heap H) callerA [] s₁ H:=⟨rfl,hM,λ b o e=>ZnM e,Nat.le_of_eq (ZlP _ _),trivial,λ b hb=>absurd (show b∈([]:List Addr) from hb) (by simp),hok, .of_eq hg⟩;refine codeAny_mono ((F _ hKb (nsK hns)).run callerA [] s₁ H ⟨[.ref a],[]⟩ [.ref a] [.ref a] _ _ hr e0 (hbind s₁ (.ref a)) (.cons rfl .nil) (hsp H hO hS)) λ r s' h=>?_;cases r with
    |error e=>exact(hCX H e s' h).elim
    |ok fl=>
      cases fl with
      |next=>exact False.elim h
      |brk=>exact False.elim h
      |cont=>exact False.elim h
      |ret u=>
        obtain⟨v,H',os,bare,un,hok',r',q⟩:=h;have q':v = .bl true:=q;subst q';obtain rfl:u=Value.bool true:=r';refine⟨rfl,OldK.of_keep λ b o e=>?_,os,bare⟩;cases q:H b with
        |none=>exact un.keep b o e q (by intro z;exact absurd (show b∈([]:List Addr) from z) (by simp)) (by simp)
        |some u=>
          rcases hO b with z|⟨ob,xs,z⟩
          . rw[q]at z;cases z
          . have z2:=un.frzs b ob _ z;obtain⟨e1,_⟩:=hok b _ z;obtain⟨e2,_⟩:=hok' b _ z2;rw[e]at e1;cases e1;exact e2
  cases hk:K.lookup a with
  |some o=>
    have e:=KX a o hk;rw[ha]at e;cases e;refine core (λ _=>none) (λ _ => .inl rfl) (.inr ⟨_,vs.toArray,_,hk,rfl,rfl,rfl,by rw[size_toArray,lenV];exact hl,by simpa using rv⟩) (λ b u z=>by have z':(none:Option HO)=some u:=z;cases z') (λ b z=>absurd rfl z) λ z=>absurd rfl z
  |none=>
    refine core (λ b=>if b=a then some (.frz { cls:=.type "list",data:=.seq vs.toArray } (.lst (ns.map V.int))) else none) (λ b=>?_) (.inl (.inr ⟨{ cls:=.type "list",data:=.seq vs.toArray },if_pos rfl⟩)) (λ b u z=>?_) (λ b z=>?_) λ _=>hk
    . by_cases hb:b=a
      . exact .inr ⟨_,_,if_pos hb⟩
      . exact .inl (if_neg hb)
    . by_cases hb:b=a
      . have z':=(if_pos hb).symm.trans z;cases z';subst hb;exact⟨ha,by rw[length_map];exact hl,vs,_,rv,ha⟩
      . have z':=(if_neg hb).symm.trans z;cases z'
    . by_cases hb:b=a
      . exact hb
      . exact absurd (if_neg hb) z
open PySem PySem.Spec PyProof.Rows
theorem walk_of {l:PySem.W.OpenLaw}{n k:Nat}{q:Program}{loose:List Str}{XP:(Str->Option Value)->Heap->Prop}{YP:World->Heap->Prop}{d:DefRec}{K:Params->Frag}{CX:World->CXT}{sp:World->Sp}{x:Str}(hn:l.most=some n)(hn2:n<=sizeLine)(hdf:d.params.defaults=[])(hr:Room k callerA)(hY:∀(w:World)(h:Heap),YP w h->(K w.params).In h)(F:∀(w:World)(mg:Str->Option Value)(fa:Addr)(h:Heap),(K w.params).In h->h.Ns mainGlobals mg->mg d.name=some (.ref fa) ->
      ∃ fd:FuncData,(∀(s:Shared)(u:Value),BindsTo s fd ⟨[u],[]⟩ [(x,u)]) /\
        ∀ base:Heap,(K w.params).In base->base.Ns mainGlobals mg->FnOk l.prog w (K w.params) mg base (CX w) k fa fd [x] (sp w))(hsp:∀(w:World)(H:Hp)(a:Addr)(ns:List Int),ns.length<=n->Only H->SqL (K w.params) H a (ns.map V.int)->sp w [.ref a] H (λ v _=>v = .bl true) λ _ _ _=>False)(hCX:∀(w:World)(H:Hp)(s:Shared)(e:Value)(s':Shared),CX w [] H s (λ _ _ _=>False) e s'->False) :
    PySem.W.WalkO q loose XP YP l.row.toRowW d [] (λ f vs=>PySem.call f vs):=by
  refine Att.attach_call hn hdf λ w s₀ s₁ mg mb fa o pm cd doc a vs ns G Y ho hd hcd hmg hobj hints hlen hg=>?_;have KX:=hY w _ Y;obtain⟨fd,hb,hF⟩:=F w mg fa _ KX G.T.g hmg;exact ZmO KX G.T.g G.T.b G.T.builtins G.T.nolimit hg hobj hints (le_trans hlen hn2) hr hF hb (λ H hO hS=>hsp w H a ns hlen hO hS) λ H e s'=>hCX w H s₁ e s'
open PySem PySem.Spec PyProof.Rows
noncomputable def JW (s:Stmt):Arguments:=match s with
  |.FunctionDef _ a _ _ _ _ _ _ _ _=>a
  |_=>{ posonlyargs:=[],args:=[],vararg:=none,kwonlyargs:=[],kw_defaults:=[],kwarg:=none,defaults:=[] }
noncomputable def Yf (s:Stmt):List Stmt:=match s with
  |.FunctionDef _ _ b _ _ _ _ _ _ _=>b
  |_=>[]
noncomputable def Zg (s:Stmt):Scope:=match s with
  |.FunctionDef _ _ _ _ _ _ sc _ _ _=>sc
  |_=>{ kind:=.function,names:=[],isGenerator:=false,isCoroutine:=false }
noncomputable abbrev CX0:CXT:=λ _ _ _ _ _ _=>False
noncomputable abbrev E0:XK:=λ _ _ _=>False
theorem YU {X:Cx}:Xq CX0 X E0:=λ _ _ _ _ _ _ _ h=>h.elim
structure Fun (K:Frag)(x qual:Str)(st:Stmt)(f:Addr)(fd:FuncData):Prop where
  ex:∃(oc:Value)(od:Option Addr)(kV doc pm:Value)(an:Option Addr)(cdv ct:Value)(osl:Array (Option Value)),
    fd=fnOf x qual (JW st) (Yf st) (Zg st) .none kV doc pm an cdv ct/\K.lookup f=some ⟨oc,od, .func fd,osl⟩/\codeIn K cdv qual=true
  kp:keepIn K (.ref f)=true
section
variable {P:Program}{w:World}{K:Frag}{mg:Str->Option Value}{base:Heap}
theorem Fun.ok {x qual:Str}{st:Stmt}{f:Addr}{fd:FuncData}{N ps:List Str}{k:Nat}{sp:Sp}(F:Fun K x qual st f fd)(S:FnScope N ps (Zg st))(len:∀ vs H Q E,sp vs H Q E->vs.length=ps.length)(hbody:∀(cdv:Value)(A:Around)(outer:List Env)(s:Shared)(H:Hp)(vs:List V)(Q:VK)(E:XK),Room k (A.deeper (envOfC qual (Zg st) s.heap.objs.size f cdv))->sp vs H Q E ->
      ∃ t,PSs (Xo CX0 P w K mg base N qual (Zg st) f cdv A outer s H E).nox (Yf st) t/\t { nx:=λ _ H'=>Q .non H',rt:=Q } (Zdz N vs) H):FnOk P w K mg base CX0 (k+1) f fd ps sp:=by
  obtain⟨oc,od,kV,doc,pm,an,cdv,ct,osl,rfl,lk,hcd⟩:=F.ex;refine fn_of lk hcd S len λ A outer s H vs Q E hr hsp=>?_;obtain⟨t,h,q⟩:=hbody cdv A outer s H vs Q E hr hsp;exact⟨t,h.nox,q⟩
theorem Fun.binds {x qual:Str}{st:Stmt}{f:Addr}{fd:FuncData}{ps:List Str}(F:Fun K x qual st f fd)(h:∀(kV doc pm:Value)(an:Option Addr)(cdv ct:Value)(us:List Value),us.length=ps.length->bindArgs (fnOf x qual (JW st) (Yf st) (Zg st) .none kV doc pm an cdv ct) ⟨us,[]⟩=pure (ps.zip us)):JZ K fd ps []:=by
 obtain⟨oc,od,kV,doc,pm,an,cdv,ct,osl,rfl,lk,hcd⟩:=F.ex;exact .all (h kV doc pm an cdv ct)
theorem Zm5 {x qual:Str}{st:Stmt}{f:Addr}{oc:Value}{od an:Option Addr}{osl:Array (Option Value)}{kV doc pm cdv ct:Value}(l:K.lookup f=some ⟨oc,od, .func (fnOf x qual (JW st) (Yf st) (Zg st) .none kV doc pm an cdv ct),osl⟩)(c:codeIn K cdv qual=true)(k:keepIn K (.ref f)=true):Fun K x qual st f (fnOf x qual (JW st) (Yf st) (Zg st) .none kV doc pm an cdv ct):=⟨⟨oc,od,kV,doc,pm,an,cdv,ct,osl,rfl,l,c⟩,k⟩
end
theorem ZP {A:Around}{k:Nat}(hr:Room k A):A.units+1<cLine:=Nat.lt_of_le_of_lt (Nat.add_le_add_left (by decide:1<=64) _) hr.units
theorem Zz {n:Nat}(h:n<=1000):n<sizeLine:=Nat.lt_of_le_of_lt h (by decide)
section
variable {X:Cx}
theorem pv (i:Nat){x:Str}{pos:Pos}(hN:X.N[i]? = some x:=by rfl)(hv:Vis X.env.scope x:=by first|exact Or.inl rfl|exact Or.inr (Or.inl rfl)|exact Or.inr (Or.inr rfl))(hd:(x == ("__debug__":Str))=false:=by decide)(hcd:(x == ("__classdict__":Str))=false:=by decide):PE X (.Name x pos) (Zg9 i):=pe_var hN hv hd hcd
end
section
variable {X:Cx}
end
theorem Z3 {A B:Prop}(h:B):if false=true then A else B:=by
 rw[if_neg Bool.false_ne_true];exact h
theorem Yy {A B:Prop}(h:A):if true=true then A else B:=by
 rw[if_pos rfl];exact h
theorem Yj {c A B:Prop}[Decidable c](h1:c->A)(h2:¬ c->B):if c then A else B:=by
  by_cases h:c
  . rw[if_pos h];exact h1 h
  . rw[if_neg h];exact h2 h
noncomputable def Zj (H H':Hp):Prop:=∀ b o,H b=some o->H' b=some o
theorem Zj.refl (H:Hp):Zj H H:=λ _ _ h=>h
theorem Zj.trans {H H1 H2:Hp}(a:Zj H H1)(b:Zj H1 H2):Zj H H2:=λ c o h=>b c o (a c o h)
theorem Zj.free {H H':Hp}(e:Zj H H'){l:Addr}(h:H' l=Option.none):H l=Option.none:=by
  cases q:H l with
  |none=>rfl
  |some o=>
    rw[e l o q]at h;cases h
theorem Zj.seq {K:Frag}{H H':Hp}{a:Addr}{xs:List V}(e:Zj H H')(h:SqL K H a xs):SqL K H' a xs:=by
  rcases h with (h|⟨o,h⟩)|h
  . exact .inl (.inl (e _ _ h))
  . exact .inl (.inr ⟨o,e _ _ h⟩)
  . exact .inr h
section
variable {κ:Type}[DecidableEq κ]
end
open PySem PySem.Spec PyProof.Rows
structure Dn (P:Program)(w:World)(K:Frag)(mg:Str->Option Value)(base:Heap)(k:Nat)(x:Str)(ps:List Str)(sp:Sp):Prop where
  ex:∃ f fd,FnOk P w K mg base CX0 k f fd ps sp/\mg x=some (.ref f)/\keepIn K (.ref f)=true/\JZ K fd ps []
noncomputable def tFn (sp:Sp)(t:TA):TE:=λ σ H Q=>t σ H λ vs H1=>sp vs H1 Q E0
section
variable {X:Cx}{k:Nat}{ps:List Str}{sp:Sp}{x:Str}{p pos:Pos}{e:Expr}{es:List Expr}{t:TA}
theorem Zs (D:Dn X.prog X.w X.K X.mg X.base k x ps sp)(hr:Room k X.A)(ha:PA X (e::es) t)(hg:Gl X x:=by rfl)(hdb:(x == ("__debug__":Str))=false:=by decide)(he:starEach (e::es) X.env=(false,eval e X.env)::starEach es X.env:=by rfl)(hpl:(backTo pos (starEach es X.env)).any (·.1)=false:=by rfl) :
    PE X (.Call (.Name x p) (e::es) [] pos) (tFn sp t):=by
  obtain⟨f,fd,F,hm,hk,hb⟩:=D.ex;have q:=ZkN (p:=p) (pos:=pos) F hr hg hm hk hb .nil YU ha hdb he hpl;have e:Zmd sp [] E0 t=tFn sp t:=by
    funext σ H Q;show t σ H (λ vs H1=>sp (vs++[]) H1 Q E0)=t σ H λ vs H1=>sp vs H1 Q E0;simp only[append_nil]
  rw[<- e];exact q
theorem Zcg:Xt X (.builtin "isinstance") (λ xs H Q=>∃ x n t b,xs=[x,V.ty n]/\TyOf X.K H x t/\PySem.W.kitOne X.K t (.type n)=some b/\Q (.bl b) H):=by
  intro pins s σ H xs us Q I r h;obtain⟨x,n,t,b,rfl,ty,e,q⟩:=h;cases r with
  |cons r1 r2=>
    cases r2 with
    |cons r3 r4=>
      cases r4;cases (show _=Value.type n from r3);exact ZlN I r1 ty e λ tk=>⟨.bl b,H,I.tok _,rfl,q⟩
end
theorem kit_ii {K:Frag}:PySem.W.kitOne K (.type "int") (.type "int")=some true:=by rfl
theorem kit_ib {K:Frag}:PySem.W.kitOne K (.type "int") (.type "bool")=some false:=by rfl
theorem kit_tt {K:Frag}:PySem.W.kitOne K (.type "tuple") (.type "tuple")=some true:=by rfl
theorem Zi {H:Hp}{p:Addr}(h:H p=none)(o:HO):Zj H (upd H p o):=λ b u q=>by rw[Zh (ZC q h)];exact q
open PySem PySem.Spec PyProof.Rows
noncomputable abbrev Cx.comp (X:Cx)(scope:Scope)(cl:List (Str×Addr))(C:Addr)(N':List Str)(s₀:Shared)(H₀:Hp)(fp:List Addr)(pins:List (Addr×Obj)):Cx:=
  { X with N:=N',s₀:=s₀,H₀:=H₀,env:=compEnvC scope cl C X.env,outer:=X.stack,stack:=X.stack,ex:=fp,fn:=λ _=>false,pn:=X.pn++pins,xe:=λ _ _=>False }
noncomputable abbrev PIfsb (X:Cx)(ifs:List Expr)(t:TT):Prop:=
  ∀(pins:List (Addr×Obj))(s:Shared)(σ:St)(H:Hp)(Q:Bool->Hp->Prop),Inv X pins σ H s->t σ H Q ->
    wpAny (model X.prog X.w) X.A (forIn ifs true λ c r=>if r=true then do let ok <- isTrue c X.env (eval c X.env);pure (ForInStep.yield ok) else pure (ForInStep.yield r)) (TP X pins σ Q) X.xe s
structure PIfs (X:Cx)(ifs:List Expr)(t:TT):Prop where
  go:PIfsb X ifs t
instance {X:Cx}{ifs:List Expr}{t:TT}:CoeFun (PIfs X ifs t) λ _=>PIfsb X ifs t:=⟨PIfs.go⟩
noncomputable def tAll:TT:=λ _ H Q=>Q true H
theorem JC {X:Cx}:PIfs X [] tAll:=⟨λ _ _ _ H _ I h=>wpAny_tests_nil ⟨H,I,h⟩⟩
theorem Yg {X:Cx}{c:Expr}{t:TT}(h:PT X c t):PIfs X [c] t:=⟨λ pins s σ H Q I q=>wpAny_tests_one (h pins s σ H Q I q)⟩
noncomputable def Z9 (caps:List (Str×Nat))(σ:St):St:=caps.map λ p=>(σ[p.2]?).join
noncomputable def tLC (caps:List (Str×Nat))(wi:TI)(tt:TT)(te:TE):TE:=λ σ H Q=>wi σ H λ J H1=>∀ D,H1 D=none ->
  ∃ W:Nat->Nat->Hp->Prop,(∃ m,W 0 m (upd H1 D (.lst [])))/\∀ i m H2,W i m H2 ->
    (J.stop i H2/\Q (.ref D) H2)\/(J.go i H2/\∀ x H',J.yld i H2 x H'->tt (some x::Z9 caps σ) H' λ b H3=>
      if b=true then te (some x::Z9 caps σ) H3 λ v H4=>∃ ys m',H4 D=some (.lst ys)/\ys.length<sizeLine/\m'<m/\W (i+1) m' (upd H4 D (.lst (ys++[v])))
      else ∃ m',m'<m/\W (i+1) m' H3)
section
variable {X:Cx}
theorem Zn2 {scope:Scope}{cl:List (Str×Addr)}{N':List Str}{fp:List Addr}{pins:List (Addr×Obj)}{σ:St}{H:Hp}{s:Shared}(I:Inv X pins σ H s)(hf:∀ b∈fp,Zg8 X pins H b)(hin:∀ b∈fp,b<s.heap.objs.size)(hkind:scope.kind = .function)(hcl:∀ x c,cl.lookup x=some c->X.env.cells.lookup x=some c)(hhas:∀ x,((relabel scope X.env).names.lookup x=some .cell\/(relabel scope X.env).names.lookup x=some .free)->∃ c,cl.lookup x=some c) :
    (X.comp scope cl s.heap.objs.size N' s H fp pins).Ok where
  mod:=I.ok.mod
  kind:=by show(relabel scope X.env).kind=_;exact hkind
  glob:=I.ok.glob
  blt:=I.ok.blt
  above:=le_refl _
  inj:=λ x y c h1 h2=>I.ok.inj x y c (hcl x c h1) (hcl y c h2)
  has:=hhas
  cab:=λ x c h _=>by cases h
  hd:=I.ok.hd
  frames:=I.ok.frames
  stk:=.inl rfl
  exf:=λ b hb=>⟨ne_of_lt (hin b hb),λ x c e=>(hf b hb).2.2.2.2.1 x c (hcl x c e)⟩
  bs:=I.bs
  bsz:=le_trans I.ok.bsz I.sz
  noex:=λ b o e hb=>by
    rcases(hf b hb).2.2.2.1 with z|z
    . exact I.ok.noex b o e z
    . exact absurd (lt_of_lt_of_le (Heap.lt_size (I.ok.bs b o e).1) z) (lt_irrefl _)
  exfs:=λ b hb z=>by
    rcases List.mem_cons.mp (I.stkSub b z) with e|e
    . exact(hf b hb).2.1 e
    . exact(hf b hb).2.2.1 e
  funs:=I.stack
  frf:=I.stkFree
theorem Znj {scope:Scope}{cl:List (Str×Addr)}{x:Str}{caps:List (Str×Nat)}{fp:List Addr}{pins:List (Addr×Obj)}{σ:St}{H:Hp}{s:Shared}{h1:Heap}{t':Nat}{m:Str->Option Value}(I:Inv X pins σ H s)(hf:∀ b∈fp,Zg8 X pins H b)(hin:∀ b∈fp,b<s.heap.objs.size)(hkind:scope.kind = .function)(hcl:∀ x c,cl.lookup x=some c->X.env.cells.lookup x=some c)(hhas:∀ x,((relabel scope X.env).names.lookup x=some .cell\/(relabel scope X.env).names.lookup x=some .free)->∃ c,cl.lookup x=some c)(hcap:∀ p∈caps,X.N[p.2]? = some p.1/\X.env.scope.names.lookup p.1=some .cell/\((relabel scope X.env).names.lookup p.1=some .cell\/(relabel scope X.env).names.lookup p.1=some .free))(hn:h1.Ns s.heap.objs.size m)(hk:∀ b o,s.heap.get? b=some o->h1.get? b=some o) :
    Inv (X.comp scope cl s.heap.objs.size (x::caps.map (·.1)) s H fp pins) [] (none::Z9 caps σ) H { s with heap:=h1,toks:=t' }:=by
  refine⟨Zn2 I hf hin hkind hcl hhas,rfl,I.bare,Un.kept hk,⟨m,hn,λ i y v e1 e2 e3=>?_⟩,λ y c e=>?_,I.hok.fresh (le_refl _),λ y c e=>I.freeC y c (hcl y c e),λ p hp=>?_,I.hok.kept hk,?_⟩
  . cases i with
    |zero=>cases e2
    |succ i=>
      have e1':(caps.map (·.1))[i]? = some y:=e1;have e2':(caps.map λ p=>(σ[p.2]?).join)[i]? = some (some v):=e2;rw[getElem?_map]at e1' e2';cases q:caps[i]? with
      |none=>rw[q]at e1';cases e1'
      |some p=>
        rw[q]at e1' e2';have hy:p.1=y:=Option.some.inj e1';have hv:(σ[p.2]?).join=some v:=Option.some.inj e2';obtain⟨c1,c2,c3⟩:=hcap p (mem_of_getElem? q);have hv':σ[p.2]? = some (some v):=by
          cases z:σ[p.2]? with
          |none=>rw[z]at hv;cases hv
          |some w=>rw[z]at hv;rw[<- hv];rfl
        obtain⟨m0,_,hl0⟩:=I.loc;obtain⟨u,ru,lk⟩:=hl0 p.2 p.1 v c1 hv' (.inr (.inl c2));subst hy;refine⟨u,ru, .inr ⟨c3,?_⟩⟩;obtain⟨c,hc⟩:=hhas p.1 c3;rcases lk with ⟨k,_⟩|⟨_,c',hc',z⟩
        . have k':X.env.scope.names.lookup p.1=some .local:=k;rw[c2]at k';cases k'
        . have:c=c':=Option.some.inj ((hcl p.1 c hc).symm.trans hc');subst this;obtain⟨o,ho,hd⟩:=z;exact⟨c,hc,o,hk _ _ ho,hd⟩
  . obtain⟨v,o,ho,hd⟩:=I.cell y c (hcl y c e);exact⟨v,o,hk _ _ ho,hd⟩
  . have hp':p∈X.pn++pins:=by simpa using hp
    obtain⟨a1,a2,a3,a4,a5⟩:=I.pin p hp';refine⟨hk _ _ a1,a2,ne_of_lt (Heap.lt_size a1),λ z=>?_,a5⟩;rcases List.mem_cons.mp (I.stkSub p.1 z) with e|e
    . exact a3 e
    . exact a4 e
  . show(none::Z9 caps σ).length=(x::caps.map (·.1)).length;simp[Z9]
theorem ZkU {elt iter:Expr}{x:Str}{px:Pos}{ifs:List Expr}{scope:Scope}{cl:List (Str×Addr)}{pos:Pos}{caps:List (Str×Nat)}{wi:TI}{tt:TT}{te:TE}(hc:X.calm=true)(hi:PI X (.Name x px) iter wi)(ht:∀ C s₀ H₀ fp pins,PIfs (X.comp scope cl C (x::caps.map (·.1)) s₀ H₀ fp pins) ifs tt)(he:∀ C s₀ H₀ fp pins,PE (X.comp scope cl C (x::caps.map (·.1)) s₀ H₀ fp pins) elt te)(hclos:closureFor scope X.env=pure cl)(hcell:∀ y∈scope.names,y.2 ≠ .cell)(hkind:scope.kind = .function)(hnames:∀ y∈scope.names,y.2 = .local->scope.names.lookup y.1=some .local)(hx:scope.names.lookup x=some .local)(hcl:∀ x c,cl.lookup x=some c->X.env.cells.lookup x=some c)(hhas:∀ x,((relabel scope X.env).names.lookup x=some .cell\/(relabel scope X.env).names.lookup x=some .free)->∃ c,cl.lookup x=some c)(hcap:∀ p∈caps,X.N[p.2]? = some p.1/\X.env.scope.names.lookup p.1=some .cell/\((relabel scope X.env).names.lookup p.1=some .cell\/(relabel scope X.env).names.lookup p.1=some .free))(hnd:(x::caps.map (·.1)).Nodup)(hs:∀ x,foldedSetIterable iter X.env x=pure x){pins:List (Addr×Obj)}{s:Shared}{σ:St}{H:Hp}{Q:VK}{use:Option (Value->Sem Unit)}{QQ:Value->Shared->Prop}{pos2:Pos}(I:Inv X pins σ H s)(h:tLC caps wi tt te σ H Q)(fin:∀ D C H5 s6 r,Zg8 X pins H5 C->(∃ m,s6.heap.Ns C m)->Inv X pins σ H5 s6->Q (.ref D) H5->compPost (model X.prog X.w) X.A X.xe use QQ (.ref D) C (.ok r) s6) :
    wpAny (model X.prog X.w) X.A (comprehension (.ListComp elt [⟨.Name x px,iter,ifs,0⟩] scope pos) scope X.env pos2 (newList []) false (eval iter X.env) use) QQ X.xe s:=by
  refine wpAny_comprehension_free (use:=use) rfl hs hclos hkind hnames (thn (hi pins s σ H _ I h) λ v s1 h1=>thn h1 λ itv s2 h2=>?_);obtain⟨it,fp,tn,J,H2,e,I2,T,st2,f2,q2⟩:=h2;subst e;refine wpAny_newObj_type ?_ (by show 0<=sizeLine;exact zero_le _);have fD:H2 s2.heap.objs.size=none:=I2.fresh;obtain⟨W,⟨m0,w0⟩,turn⟩:=q2 s2.heap.objs.size fD;have I3:=I2.lnew (its:=[]) (ys:=[]) (t':=s2.toks) .nil (zero_le _);have lt2:∀ b∈fp,b<s2.heap.objs.size:=λ b hb=>by
    obtain⟨o,ho,_⟩:=T.obj 0 _ st2 b hb;exact Heap.lt_size ho
  have neD:∀ b∈fp,b≠s2.heap.objs.size:=λ b hb=>ne_of_lt (lt2 b hb);have st3:tn 0 (s2.heap.push { cls:=.type "list",data:=.seq ([]:List Value).toArray }):=T.keep 0 _ _ st2 λ b _ o e=>Heap.get?_push_of_some _ e;have f3:∀ b∈fp,Zg8 X pins (upd H2 s2.heap.objs.size (.lst [])) b:=λ b hb=>⟨by rw[Zh (neD b hb)];exact(f2 b hb).1,(f2 b hb).2⟩;generalize hs3:({ s2 with heap:=s2.heap.push { cls:=.type "list",data:=.seq ([]:List Value).toArray },toks:=s2.toks }:Shared)=s3 at I3;generalize hD:s2.heap.objs.size=D at *;have hs3h:s3.heap=s2.heap.push { cls:=.type "list",data:=.seq ([]:List Value).toArray }:=by rw[<- hs3]
  have goal3:wpAny (model X.prog X.w) X.A (newFunctionEnv scope X.env.globals cl [] X.env.qual none .none (some X.env)) (λ cenv s₄=>
      codeAny (model X.prog X.w) X.A (.compStart (.ListComp elt [⟨.Name x px,iter,ifs,0⟩] scope pos) 0 (.ref it) (.ref D) { cenv with scope:=relabel scope X.env })
        (compPost (model X.prog X.w) X.A X.xe use QQ (.ref D) cenv.locals) s₄) X.xe s3:=by
    have lt3:∀ b∈fp,b<s3.heap.objs.size:=λ b hb=>by
      rw[hs3h,Heap.size_push,hD];exact lt_succ_of_lt (lt2 b hb)
    refine wpAny_newFunctionEnv hcell (by intro y hy;simp at hy) (λ h₁ hns₁ hsb₁=>?_) hkind;have old:∀ b o,s3.heap.get? b=some o->h₁.get? b=some o:=λ b o e=>hsb₁.extBut b o (ne_of_lt (Heap.lt_size e)) (Heap.get?_push_of_some _ e);have I4:Inv (X.comp scope cl s3.heap.objs.size (x::caps.map (·.1)) s3 (upd H2 D (.lst [])) fp pins) [] (none::Z9 caps σ) (upd H2 D (.lst [])) { s3 with heap:=h₁,toks:=s3.toks+0 }:=
      Znj I3 f3 lt3 hkind hcl hhas hcap hns₁ old
    have st4:tn 0 h₁:=T.keep 0 _ _ (by rw[<- hs3h]at st3;exact st3) λ b hb o e=>old b o e;have stat:∀ {H':Hp},(∀ b∈fp,H' b=none)->∀ b∈fp,Zg8 (X.comp scope cl s3.heap.objs.size (x::caps.map (·.1)) s3 (upd H2 D (.lst [])) fp pins) [] H' b:=λ hn b hb=>
      ⟨hn b hb,ne_of_lt (lt3 b hb),I4.ok.exfs b hb, .inl hb,λ y c e=>(f3 b hb).2.2.2.2.1 y c (hcl y c e),λ p hp=>(f3 b hb).2.2.2.2.2 p (by simpa using hp)⟩
    have loop:codeAny (model X.prog X.w) X.A (.compLoop (.ListComp elt [⟨.Name x px,iter,ifs,0⟩] scope pos) 0 (.ref it) (.ref D) (compEnvC scope cl s3.heap.objs.size X.env))
        (compPost (model X.prog X.w) X.A X.xe use QQ (.ref D) s3.heap.objs.size) { s3 with heap:=h₁,toks:=s3.toks+0 }:=by
      refine codeAny_compLoop_tests (λ n s'=>∃ i v H',Inv (X.comp scope cl s3.heap.objs.size (x::caps.map (·.1)) s3 (upd H2 D (.lst [])) fp pins) [] (v::Z9 caps σ) H' s'/\tn i s'.heap/\(∀ b∈fp,H' b=none)/\W i n H') ?_ m0 ⟨0,none,_,I4,st4,λ b hb=>(f3 b hb).1,w0⟩;rintro n s5 ⟨i,v5,H5,I5,st5,fr5,w5⟩;rcases turn i n H5 w5 with ⟨stop,qn⟩|⟨go,step⟩
      . refine wpAny_noRaise (thn (T.done (X.comp scope cl s3.heap.objs.size (x::caps.map (·.1)) s3 (upd H2 D (.lst [])) fp pins) rfl rfl rfl hc i [] s5 _ H5 (λ _ _=>False) I5 (stat fr5) st5 stop) λ r s6 zz9=>?_);obtain⟨hr,I6⟩:=zz9;subst hr;obtain⟨m6,hn6,_⟩:=I6.loc;have fC:H5 s3.heap.objs.size=none:=I6.free;have u6:Un (frs X.stack) fp (upd H2 D (.lst [])) H5 s3.heap s6.heap:=I6.base;exact fin _ _ _ _ _ (I3.fpOk (le_refl _) fC) ⟨m6,hn6⟩ (I3.call' (ch:=fp) I6.os u6 I6.hok I6.bare λ b hb=>⟨(f3 b hb).2.2.2.1,(f3 b hb).2.1,(f3 b hb).2.2.2.2.1,(f3 b hb).2.2.2.2.2⟩) qn
      . refine wpAny_noRaise (thn (T.item (X.comp scope cl s3.heap.objs.size (x::caps.map (·.1)) s3 (upd H2 D (.lst [])) fp pins) rfl rfl rfl hc i [] s5 _ H5 (λ _ _=>False) I5 (stat fr5) st5 go) λ r s6 zz9=>?_);obtain⟨u,hr,h6⟩:=zz9;subst hr;show wpAny _ _ (letOwnedTupleGo (.Name x px) (.ref it) u >>= λ _=>assign (.Name x px) (compEnvC scope cl s3.heap.objs.size X.env) u) _ _ _;refine wpAny_bind (wpAny_noRaise (thn h6 λ _ s6 zz9=>?_));obtain⟨y,H6,I6,r6,y6,st6,fr6⟩:=zz9;have I6':=I6.pinned (stat fr6) (T.obj _ _ st6);refine wpAny_assign_Name (wpAny_noRaise (Zan (i:=0) I6' hnd rfl (.inl (lookup_relabel_local hx)) r6 (λ s7 I7=>?_) (.inr (lookup_relabel_local hx))));have again:∀ {v8:Option V} {H8:Hp} {s8:Shared} {m':Nat},Inv (X.comp scope cl s3.heap.objs.size (x::caps.map (·.1)) s3 (upd H2 D (.lst [])) fp pins) ([]++Zgn fp s6.heap) (v8::Z9 caps σ) H8 s8->W (i+1) m' H8 ->
            ∃ i v H',Inv (X.comp scope cl s3.heap.objs.size (x::caps.map (·.1)) s3 (upd H2 D (.lst [])) fp pins) [] (v::Z9 caps σ) H' s8/\tn i s8.heap/\(∀ b∈fp,H' b=none)/\W i m' H':=λ {v8 H8 s8 m'} I8 w8=>by
          refine⟨i+1,v8,H8,I8.unpinned,T.keep _ _ _ st6 λ b hb o e=>(I8.pin (b,o) (mem_append_right _ (mem_append_right _ (ZaO hb e)))).1,λ b hb=>?_,w8⟩;obtain⟨o,e,d⟩:=T.obj _ _ st6 b hb;exact(I8.pin (b,o) (mem_append_right _ (mem_append_right _ (ZaO hb e)))).2.1
        refine wpAny_noRaise (thn (ht _ _ _ _ _ _ s7 _ H6 _ I7 (step y H6 y6)) λ ok s8 zz9=>?_);obtain⟨H8,I8,q8⟩:=zz9;cases ok with
        |false=>
          rw[if_neg Bool.false_ne_true]at q8 ⊢;obtain⟨m',hm',w8⟩:=q8;exact⟨m',hm',again I8 w8⟩
        |true=>
          rw[if_pos rfl]at q8 ⊢;refine wpAny_noRaise (thn (he _ _ _ _ _ _ s8 _ H8 _ I8 q8) λ z s9 zz9=>?_);obtain⟨v9,H9,I9,r9,ys,m',hD9,hz9,hm9,w9⟩:=zz9;refine wpAny_noRaise (thn (YA _ s9 _ H9 (.ref D) [v9] (.ref D) [z] (λ v H'=>v = .non/\H'=upd H9 D (.lst (ys++[v9]))) I9 rfl (.cons r9 .nil) ⟨D,ys,v9,rfl,rfl,hD9,hz9,rfl,rfl⟩) λ _ s10 zz9=>?_);obtain⟨v10,H10,I10,_,_,eH⟩:=zz9;subst eH;exact⟨m',hm9,again I10 w9⟩
    exact codeAny_compStart_list loop (T.self _ 0 _ _ _ st4 loop)
  subst hs3;subst hD;exact goal3
theorem Je {elt iter:Expr}{x:Str}{px:Pos}{ifs:List Expr}{scope:Scope}{cl:List (Str×Addr)}{pos:Pos}{caps:List (Str×Nat)}{wi:TI}{tt:TT}{te:TE}(hc:X.calm=true)(hi:PI X (.Name x px) iter wi)(ht:∀ C s₀ H₀ fp pins,PIfs (X.comp scope cl C (x::caps.map (·.1)) s₀ H₀ fp pins) ifs tt)(he:∀ C s₀ H₀ fp pins,PE (X.comp scope cl C (x::caps.map (·.1)) s₀ H₀ fp pins) elt te)(hclos:closureFor scope X.env=pure cl)(hcell:∀ y∈scope.names,y.2 ≠ .cell)(hkind:scope.kind = .function)(hnames:∀ y∈scope.names,y.2 = .local->scope.names.lookup y.1=some .local)(hx:scope.names.lookup x=some .local)(hcl:∀ x c,cl.lookup x=some c->X.env.cells.lookup x=some c)(hhas:∀ x,((relabel scope X.env).names.lookup x=some .cell\/(relabel scope X.env).names.lookup x=some .free)->∃ c,cl.lookup x=some c)(hcap:∀ p∈caps,X.N[p.2]? = some p.1/\X.env.scope.names.lookup p.1=some .cell/\((relabel scope X.env).names.lookup p.1=some .cell\/(relabel scope X.env).names.lookup p.1=some .free))(hnd:(x::caps.map (·.1)).Nodup)(hs:∀ x,foldedSetIterable iter X.env x=pure x:=by intro _;rfl) :
    PE X (.ListComp elt [⟨.Name x px,iter,ifs,0⟩] scope pos) (tLC caps wi tt te):=by
  refine⟨?_⟩;intro pins s σ H Q I h;rw[eval_ListComp];refine ZkU hc hi ht he hclos hcell hkind hnames hx hcl hhas hcap hnd hs I h ?_;intro D C H5 s6 r fC ⟨m6,hn6⟩ I6 q;exact⟨m6,hn6,λ h' hs'=>⟨.ref D,H5,I6.turned (λ b o n e=>(hs'.2 b n).trans e) fC.1 fC.2.1 fC.2.2.2.1 fC.2.2.2.2.1 fC.2.2.2.2.2,rfl,q⟩⟩
theorem XW {i:Nat}{y:Str}{py spos:Pos}{elt iter:Expr}{x:Str}{px:Pos}{ifs:List Expr}{scope:Scope}{cl:List (Str×Addr)}{pos:Pos}{caps:List (Str×Nat)}{wi:TI}{tt:TT}{te:TE}(hN:X.N.Nodup)(hi':X.N[i]? = some y)(hy:Loc X.env.scope y)(hc:X.calm=true)(hi:PI X (.Name x px) iter wi)(ht:∀ C s₀ H₀ fp pins,PIfs (X.comp scope cl C (x::caps.map (·.1)) s₀ H₀ fp pins) ifs tt)(he:∀ C s₀ H₀ fp pins,PE (X.comp scope cl C (x::caps.map (·.1)) s₀ H₀ fp pins) elt te)(hclos:closureFor scope X.env=pure cl)(hcell:∀ y∈scope.names,y.2 ≠ .cell)(hkind:scope.kind = .function)(hnames:∀ y∈scope.names,y.2 = .local->scope.names.lookup y.1=some .local)(hx:scope.names.lookup x=some .local)(hcl:∀ x c,cl.lookup x=some c->X.env.cells.lookup x=some c)(hhas:∀ x,((relabel scope X.env).names.lookup x=some .cell\/(relabel scope X.env).names.lookup x=some .free)->∃ c,cl.lookup x=some c)(hcap:∀ p∈caps,X.N[p.2]? = some p.1/\X.env.scope.names.lookup p.1=some .cell/\((relabel scope X.env).names.lookup p.1=some .cell\/(relabel scope X.env).names.lookup p.1=some .free))(hnd:(x::caps.map (·.1)).Nodup)(hs:∀ x,foldedSetIterable iter X.env x=pure x:=by intro _;rfl)(hsw:swapsWith (.ListComp elt [⟨.Name x px,iter,ifs,0⟩] scope pos) (some (.Name y py)) spos.line X.env=pure true:=by rfl)(hf:X.fn y=true\/X.env.scope.names.lookup y=some .local:=by first|exact .inl rfl|exact .inr rfl|assumption) :
    PS X (.Assign [.Name y py] (.ListComp elt [⟨.Name x px,iter,ifs,0⟩] scope pos) spos) (Zha (tLC caps wi tt te) (Zfh i)):=by
  refine⟨?_⟩;intro pins s σ H D I h;rw[exec_Assign_Name_used _ _ _ _ hsw];refine wpAny_bind (wpAny_standAt (wpAny_bind ?_));refine wpAny_bind (thn (ZkU (use:=some (assign (.Name y py) X.env)) (QQ:=λ _ s'=>SP X pins D .next s') hc hi ht he hclos hcell hkind hnames hx hcl hhas hcap hnd hs I h ?_) λ _ s' hq=>wpAny_pure (wpAny_pure hq));intro D' C H5 s6 r fC ⟨m6,hn6⟩ I6 q;show wpAny _ X.A (assign (.Name y py) X.env (.ref D')) _ _ _;refine wpAny_assign_Name (Zhr I6 hN hi' hy (v:=.ref D') rfl (λ s7 I7 zz9=>?_) hf);obtain⟨a,sb,ha⟩:=zz9;have hne:C≠a:=by
    rcases ha with rfl|ha
    . exact fC.2.1
    . exact λ z=>fC.2.2.2.2.1 _ _ ha z.symm
  refine⟨m6,hn6.sameBut sb hne,λ h' hs'=>?_⟩;exact⟨_,H5,I7.turned (λ b o n e=>(hs'.2 b n).trans e) fC.1 fC.2.1 fC.2.2.2.1 fC.2.2.2.2.1 fC.2.2.2.2.2,q⟩
end
open PySem PySem.Spec PyProof.Rows
noncomputable def Fly (base:Heap)(l:List Env)(a T:Addr)(C:Value)(h:Heap):Prop:=
 base.StaysIn h/\base.get? a=none/\h.FunFrames base l/\∃ a0 oe vs oT ts,h.get? a=some oe/\(oe.cls=C/\vs[0]? = some a0)/\oe.data = .fields vs/\vs[1]? = some (.ref T)/\base.get? T=none/\T≠a/\h.get? T=some oT/\oT.data = .fields ts/\ts[3]? = some .none
noncomputable def CXR (P:Program)(w:World)(base:Heap):CXT:=λ outer H s E e s'=>∃(a T:Addr)(C:Value)(H':Hp),e = .ref a/\s'.os=s.os/\AllBare s'.gens/\Un (frs outer) [] H H' s.heap s'.heap/\HOk P w H' s'.heap /\
 Fly base outer a T C s'.heap/\H' a=none/\H' T=none/\s.heap.get? a=none/\s.heap.get? T=none/\E C none H'
theorem Yw.got {P:Program}{w:World}{H:Hp}{h:Heap}{a:Addr}{o:HO}(x:Yw P w H h a o):∃ ob,h.get? a=some ob:=by
  cases o with
  |lst xs=>obtain⟨_,_,_,_,e⟩:=x;exact⟨_,e⟩
  |tup xs=>obtain⟨_,_,_,o,e,_⟩:=x;exact⟨_,e⟩
  |dK kvs=>obtain⟨_,_,_,_,o,_,_,e,_⟩:=x;exact⟨_,e⟩
  |dT kvs=>obtain⟨_,_,_,_,o,_,_,e,_⟩:=x;exact⟨_,e⟩
  |set S n=>obtain⟨o,_,_,_,e,_⟩:=x;exact⟨_,e⟩
  |ins C dx fs=>obtain⟨_,_,_,e,_⟩:=x;exact⟨_,e⟩
  |own y=>obtain⟨_,e⟩:=x;exact⟨_,e⟩
  |xd fs=>obtain⟨_,⟨_,_,_,e,_⟩,_⟩:=x;exact⟨_,e⟩
  |rng lo hi=>obtain⟨_,_,_,e⟩:=x;exact⟨_,e⟩
  |frz ob u=>obtain⟨e,_⟩:=x;exact⟨_,e⟩
  |tbl ps=>exact⟨_,(show h.get? a=some _ from x)⟩
  |met f y=>exact⟨_,(show h.get? a=some _ from x)⟩
  |ext φ=>obtain⟨_,⟨_,e⟩,_⟩:=x;exact⟨_,e⟩
section
variable {X:Cx}{pins:List (Addr×Obj)}{σ:St}{H:Hp}{s:Shared}
theorem Inv.untr (I:Inv X pins σ H s){b:Addr}(e:s.heap.get? b=none):H b=none:=by
  cases q:H b with
  |none=>rfl
  |some o=>
    obtain⟨ob,z⟩:=(I.hok b o q).got;rw[e]at z;cases z
theorem Inv.stkNo (I:Inv X pins σ H s){b:Addr}(h1:b≠X.env.locals)(h2:b∉X.fs):b∉frs X.stack:=λ z=>(List.mem_cons.mp (I.stkSub b z)).elim h1 h2
end
abbrev bmV:List Value:=[.type "ValueError", .type "Exception", .type "BaseException", .type "object"]
noncomputable def XCls (K:Frag)(C:Addr):Prop:=excIn K C bmV "ValueError.__new__"=true
theorem Zl3 {K:Frag}{h:Heap}{C:Addr}(X:K.In h)(q:XCls K C):∃ bm N nm q bs hdct sn sub ab col dd k0 k1 k2 k3 k5 mN,h.get? C=some (excClassObj nm q C N bs bm hdct sn sub ab col dd k0 k1 k2 k3 k5 "ValueError.__new__")/\h.Ns N mN/\mN "__init__"=none/\OwnTail h bmV bm:=by
  unfold XCls excIn at q;split at q
  . rename_i dd cd sl ho;split at q
    . rename_i C' bm k0 k1 k2 k3 n k5 hm hs;simp only[and_eq_true,beq_iff_eq,Bool.not_eq_true']at q;obtain⟨⟨⟨⟨⟨rfl,rfl⟩,hdel⟩,ht⟩,hok⟩,hni⟩:=q;obtain⟨nm,bs,mro,ns,qn,hd,sn,sub,ab,col,del⟩:=cd;dsimp only at hm hdel hok hni;subst hm hdel;have hsl:sl = #[k0,k1,k2,k3,some (.builtin "ValueError.__new__"),k5]:=by
        obtain⟨l⟩:=sl;simp only at hs;rw[hs]
      subst hsl;exact⟨bm,ns,nm,qn,bs,hd,sn,sub,ab,col,dd,k0,k1,k2,k3,k5,_,X _ _ ho, .of_isNs (PySem.W.isNs_of_in X hok),PySem.W.nsMap_none_of_in X hok hni,PySem.W.tail_of_in X ht⟩
    . cases q
  . cases q
section
variable {P:Program}{w:World}{K:Frag}{mg:Str->Option Value}{base:Heap}{N:List Str}{qual:Str}{scope:Scope}{f:Addr}{cd:Value}{A:Around}{outer:List Env}{s0:Shared}{H0:Hp}{E:XK}
theorem Y8 {x:Str}{C:Addr}{e:Expr}{te:TE}{np cpos pos:Pos}(hE:XCls K C)(hm:mg x=some (.ref C))(he:PE (Xo (CXR P w base) P w K mg base N qual scope f cd A outer s0 H0 E) e te)(hg:Gl (Xo (CXR P w base) P w K mg base N qual scope f cd A outer s0 H0 E) x:=by rfl)(hst:starEach [e] (Xo (CXR P w base) P w K mg base N qual scope f cd A outer s0 H0 E).env=[(false,eval e (Xo (CXR P w base) P w K mg base N qual scope f cd A outer s0 H0 E).env)]:=by rfl)(hd:(x == ("__debug__":Str))=false:=by decide) :
    PS (Xo (CXR P w base) P w K mg base N qual scope f cd A outer s0 H0 E) (.Raise (some (.Call (.Name x np) [e] [] cpos)) none pos) (λ _ σ H=>te σ H λ v H1=>([v]:List V).length=1/\E (.ref C) none H1):=by
  refine⟨?_⟩;intro pins s σ H D I h;obtain⟨bm,Na,nm,q,bs,hdct,sn,sub,ab,col,dd,k0,k1,k2,k3,k5,mN,hC,hN,hni,T⟩:=Zl3 I.ok.mod.kin hE;refine wpAny_Raise_call_subU (C:=C) (nm:=nm) (q:=q) (N:=Na) (bs:=bs) (bm:=bm) (hdct:=hdct) (sn:=sn) (sub:=sub) (ab:=ab) (col:=col) (dd:=dd) (k0:=k0) (k1:=k1) (k2:=k2) (k3:=k3) (k5:=k5)
    PySem.F.excBase_ValueError rfl PySem.F.excBase_ValueError (mN:=mN) (T.hasType rfl) (I.ok.hd rfl) (by rw[hst];rfl) hni (Zea I hg hm ⟨rfl,?_⟩ hd)
  have ha:=Za (X:=Xo (CXR P w base) P w K mg base N qual scope f cd A outer s0 H0 E) he Zb hst cpos pins s σ H (λ vs H1=>vs.length=1/\E (.ref C) none H1) I h;rw[hst]at ha ⊢;refine Calls.evalArgs_plain (wpAny_mono ha (λ us s2 ⟨vs,H2,I2,r2,hl2,q2⟩=>?_) λ _ _ z=>z);have hlu:us.length<=sizeLine:=by
    rw[<- r2.length,hl2]
    decide
  refine⟨rfl,hlu,I2.bk _ _ hC,hN.keeps I2.bk,T.keeps I2.bk,λ h' ex hx=>?_⟩;have hin:∀ env∈(envOfC qual scope s0.heap.objs.size f cd::outer),∀ b,env.frame=some b->b∈(envOfC qual scope s0.heap.objs.size f cd::outer).filterMap (·.frame):=λ env he b hb=>List.mem_filterMap.mpr ⟨env,he,hb⟩;have stk:s2.heap.FunFrames base (envOfC qual scope s0.heap.objs.size f cd::outer):=I2.stack;have notL:∀ b o,s0.heap.get? b=some o->b≠s0.heap.objs.size:=λ b o e=>ne_of_lt (Heap.lt_size e);have inB:∀ b o,s2.heap.get? b=some o->b∉frs (envOfC qual scope s0.heap.objs.size f cd::outer)->(hideAll s2.heap (frs (envOfC qual scope s0.heap.objs.size f cd::outer))).get? b=some o:=λ b o e n=>PySem.W.hideAll_get _ e n;show wpAny (model P w) (A.deeper (envOfC qual scope s0.heap.objs.size f cd)) (leaving (envOfC qual scope s0.heap.objs.size f cd) (.ref ex)) (λ _ s''=>CXR P w base outer H0 s0 E (.ref ex) s'') (λ e' s''=>CXR P w base outer H0 s0 E e' s'') { s2 with heap:=h' };refine wpAny_leaves_madeW (base:=hideAll s2.heap (frs (envOfC qual scope s0.heap.objs.size f cd::outer))) (h:=s2.heap) (L:=s0.heap.objs.size) I2.ok.frames rfl (λ b o z=>PySem.W.of_hideAll _ z) (PySem.W.funFrames_hide stk hin) hx λ h'' t fl tup ht U=>?_;obtain⟨f1,f2,f3,oe,vs,Tr,oT,ts,g1,g2,g3,g4,g5,g6,g7,g8,g9⟩:=fl;have baseB:base.StaysIn (hideAll s2.heap (frs (envOfC qual scope s0.heap.objs.size f cd::outer))):=λ b o z=>inB b o (I2.bk b o z) λ hb=>by rw[(stk.mem hb).1]at z;cases z
  have U2:∀ b o,s2.heap.get? b=some o->(∀ vs,o.data ≠ .fields vs)->∃ sl,h''.get? b=some { o with slots:=sl }:=λ b o z n=>U b o (hx.keeps b o z) n;have noT:s2.heap.get? Tr=none:=by
    cases z:s2.heap.get? Tr with
    |none=>rfl
    |some o=>
      by_cases hb:Tr∈frs (envOfC qual scope s0.heap.objs.size f cd::outer)
      . obtain⟨_,o',ho',d'⟩:=stk.mem hb;obtain⟨sl,z2⟩:=U2 Tr o' ho' d';rw[g7]at z2;have z3:=congrArg (λ q:Option Obj=>q.map (·.data)) z2;simp only[map_some,g8]at z3;exact absurd (Option.some.inj z3).symm (d' ts)
      . rw[inB Tr o z hb]at g5;cases g5
  have up:∀ b o,s0.heap.get? b=some o->s2.heap.get? b≠none:=λ b o z n=>by
    obtain⟨o',z'⟩:=I2.base.there b o z (λ q=>absurd (show b∈([]:List Addr) from q) (by simp));rw[n]at z';cases z'
  have no0:∀ b,s2.heap.get? b=none->s0.heap.get? b=none:=λ b n=>by
    cases z:s0.heap.get? b with
    |none=>rfl
    |some o=>exact absurd n (up b o z)
  have nex:∀ b,b∉(Xo (CXR P w base) P w K mg base N qual scope f cd A outer s0 H0 E).ex:=λ b q=>absurd (show b∈([]:List Addr) from q) (by simp);have notIn:∀ b o,s0.heap.get? b=some o->b∉frs outer->b∉frs (envOfC qual scope s0.heap.objs.size f cd::outer):=λ b o z n=>I2.stkNo (notL b o z) n;refine⟨ex,Tr, .ref C,H2,rfl,I2.os,I2.bare,⟨λ b o z n hb _=>?_,λ b o z n hb _=>?_,λ b o z n _=>I2.base.free b o z n (nex b),λ b o z _=>?_,I2.base.tups,I2.base.frzs,I2.base.tbls⟩,λ b u z=>?_,⟨λ b o z=>f1 b o (baseB b o z),?_,PySem.W.funFrames_base baseB f3, .ref t,oe,vs,oT,ts,g1,g2,g3,g4,?_,g6,g7,g8,g9⟩,I2.untr hx.new,I2.untr noT,no0 _ hx.new,no0 _ noT,q2⟩
  . exact f1 b o (inB b o (I2.base.keep b o z n hb (nex b)) (notIn b o z hb))
  . obtain⟨sl,z1⟩:=I2.base.slot b o z n hb (nex b);obtain⟨_,o',ho',d'⟩:=I2.ok.funs.mem hb;have:o'=o:=by rw[show(Xo (CXR P w base) P w K mg base N qual scope f cd A outer s0 H0 E).s₀.heap.get? b=some o from z]at ho';exact(Option.some.inj ho').symm
    subst this;obtain⟨sl',z2⟩:=U2 b _ z1 (λ vs=>d' vs);exact⟨sl',z2⟩
  . by_cases hb:b∈frs (envOfC qual scope s0.heap.objs.size f cd::outer)
    . obtain⟨_,o',ho',d'⟩:=stk.mem hb;obtain⟨sl,z2⟩:=U2 b o' ho' d';exact⟨_,z2⟩
    . obtain⟨o',z'⟩:=I2.base.there b o z (nex b);exact⟨o',f1 b o' (inB b o' z' hb)⟩
  . refine(I2.hok b u z).stay (λ c v hc q=>?_) (λ _ q=>q) λ _ _ q=>q;have tr:∀ c v,H2 c=some v->c∉frs (envOfC qual scope s0.heap.objs.size f cd::outer):=λ c v q n=>by rw[I2.stkFree c n]at q;cases q
    rcases hc with hc|hc
    . rw[hc]at q ⊢;exact f1 b v (inB b v q (tr b u z))
    . exact f1 c v (inB c v q (tr c _ hc))
  . cases z:base.get? ex with
    |none=>rfl
    |some o=>
      have:=I2.bk ex o z;rw[hx.new]at this;cases this
  . cases z:base.get? Tr with
    |none=>rfl
    |some o=>
      have:=I2.bk Tr o z;rw[noT]at this;cases this
end
open PySem PySem.Spec PyProof.Rows
noncomputable def XP (X:Cx)(pins:List (Addr×Obj))(σ:St)(R:Value->Hp->Prop)(e:Value)(s':Shared):Prop:=∃(a T:Addr)(C:Value)(H':Hp),e = .ref a/\Inv X pins σ H' s'/\Fly X.base X.stack a T C s'.heap/\H' a=none/\H' T=none /\
 X.s₀.heap.get? a=none/\X.s₀.heap.get? T=none/\(∀ p∈X.pn++pins,p.1≠a/\p.1≠T)/\a≠X.env.locals/\R C H'
structure Dx (P:Program)(w:World)(K:Frag)(mg:Str->Option Value)(base:Heap)(k:Nat)(x:Str)(ps:List Str)(sp:Sp):Prop where
  ex:∃ f fd,FnOk P w K mg base (CXR P w base) k f fd ps sp/\mg x=some (.ref f)/\keepIn K (.ref f)=true/\JZ K fd ps []
section
variable {X:Cx}{k:Nat}{ps:List Str}{sp:Sp}{x:Str}{p pos:Pos}{e:Expr}{es:List Expr}{t:TA}
end
section
variable {X:Cx}{pins:List (Addr×Obj)}{σ:St}{H:Hp}{s:Shared}
end
open PySem PySem.Spec PyProof.Rows PySem.W
structure XAt (K:Frag)(C:Addr):Prop where
  x:XCls K C
  ga:findIn K (.ref C) "__getattribute__"=some (some (.builtin "BaseException.__getattribute__"))
  hk:findIn K (.ref C) "__getattr__"=some none
  ca:findIn K (.ref C) "__class__"=some (some (.builtin "object.__class__"))
  mo:subIn K (.ref C) (.type "object")=some true
  sb:subIn K (.ref C) (.type "BaseException")=some true
section
variable {prog:Program}{w:World}{A:Around}{E:Value->Shared->Prop}{h:Heap}{g:Array GenState}{d:Drawn}{t:Nat}{os:OsState}{a C:Addr}{oe:Obj}{K:Frag}{vs:Array Value}
end
open PySem PySem.Spec PyProof.Rows PySem.W
section
variable {X:Cx}{pins:List (Addr×Obj)}{σ:St}{H:Hp}{s:Shared}
end
theorem Fun.okX {P:Program}{w:World}{K:Frag}{mg:Str->Option Value}{base:Heap}{x qual:Str}{st:Stmt}{f:Addr}{fd:FuncData}{N ps:List Str}{k:Nat}{sp:Sp}(F:Fun K x qual st f fd)(S:FnScope N ps (Zg st))(len:∀ vs H Q E,sp vs H Q E->vs.length=ps.length)(hbody:∀(cdv:Value)(A:Around)(outer:List Env)(s:Shared)(H:Hp)(vs:List V)(Q:VK)(E:XK),Room k (A.deeper (envOfC qual (Zg st) s.heap.objs.size f cdv))->sp vs H Q E ->
      ∃ t,PSs (Xo (CXR P w base) P w K mg base N qual (Zg st) f cdv A outer s H E) (Yf st) t/\t { nx:=λ _ H'=>Q .non H',rt:=Q } (Zdz N vs) H):FnOk P w K mg base (CXR P w base) (k+1) f fd ps sp:=by
  obtain⟨oc,od,kV,doc,pm,an,cdv,ct,osl,rfl,lk,hcd⟩:=F.ex;exact fn_of lk hcd S len λ A outer s H vs Q E hr hsp=>hbody cdv A outer s H vs Q E hr hsp
open PySem PySem.Spec PyProof.Rows
mutual
inductive Rds (K:Frag)(H:Hp):V->PyData->Prop
  | non:Rds K H .non .none
  | bl (b:Bool):Rds K H (.bl b) (.bool b)
  | int (i:Int):Rds K H (.int i) (.int i)
  | str (x:Str):Rds K H (.str x) (.str x)
  | list {a:Addr} {xs:List V} {ds:List PyData}:SqL K H a xs->RdsAll K H xs ds->Rds K H (.ref a) (.list ds)
  | tuple {a:Addr} {xs:List V} {ds:List PyData}:SqT K H a xs->RdsAll K H xs ds->Rds K H (.ref a) (.tuple ds)
inductive RdsAll (K:Frag)(H:Hp):List V->List PyData->Prop
  | nil:RdsAll K H [] []
  | cons {x:V} {xs:List V} {d:PyData} {ds:List PyData}:Rds K H x d->RdsAll K H xs ds->RdsAll K H (x::xs) (d::ds)
end
section
variable {X:Cx}{pins:List (Addr×Obj)}{σ:St}{H:Hp}{s:Shared}
mutual
theorem Rds.reads (I:Inv X pins σ H s):∀ {x:V} {d:PyData} {u:Value},Rds X.K H x d->ZI x u->∃ as,Reads s.heap u d as
  | _,_,_, .non,r=>by
    cases r;exact⟨[], .none⟩
  | _,_,_, .bl b,r=>by
    cases r;exact⟨[], .bool b⟩
  | _,_,_, .int i,r=>by
    obtain⟨t,rfl⟩:=r;exact⟨[], .int i t⟩
  | _,_,_, .str i,r=>by
    obtain⟨t,rfl⟩:=r;exact⟨[], .str i t⟩
  | _,_,_, .list (a:=a) h q,r=>by
    cases r;obtain⟨its,r',pl,_⟩:=I.list h;obtain⟨o,ho,hc,n,hd⟩:=pl.isList;obtain⟨as,z⟩:=RdsAll.reads I q r';exact⟨a::as, .list ho hc hd z⟩
  | _,_,_, .tuple (a:=a) h q,r=>by
    cases r;obtain⟨its,r',pl,_⟩:=I.tuple h;obtain⟨o,ho,hc,n,hd⟩:=pl;obtain⟨as,z⟩:=RdsAll.reads I q r';exact⟨as, .tuple ho hc hd z⟩
theorem RdsAll.reads (I:Inv X pins σ H s):∀ {xs:List V} {ds:List PyData} {us:List Value},RdsAll X.K H xs ds->ZJ xs us->∃ as,ReadsAll s.heap us ds as
  |_,_,_, .nil, .nil=>⟨[], .nil⟩
  | _,_,_, .cons h t, .cons r rs=>by
    obtain⟨as,z⟩:=Rds.reads I h r;obtain⟨bs,y⟩:=RdsAll.reads I t rs;exact⟨as++bs, .cons z y⟩
end
noncomputable def rEqD (K:Frag)(ng:Bool):R2:=λ x y H Q=>∃ da db,Rds K H x da/\Rds K H y db/\SeqAt.shaped da=true/\SeqAt.shaped db=true/\Q (.bl (if ng then !PyData.eqv da db else PyData.eqv da db)) H
theorem op_neD {X:Cx}(hu:X.A.units+64<cLine):OpR X (compareOp .NotEq) (rEqD X.K true):=by
 intro pins s σ H x y v u Q I rx ry h;obtain⟨da,db,ha,hb,sa,sb,q⟩:=h;obtain⟨as,z⟩:=ha.reads I rx;obtain⟨bs,z'⟩:=hb.reads I ry;exact SeqAt.compareNe_shaped z z' sa sb hu ⟨.bl _,H,I,rfl,q⟩
theorem Zj2 {ss:List Str}{us:List Value}(h1:us.length=ss.length)(h2:∀(j:Nat)(u:Value),us[j]? = some u->∃ x t,ss[j]? = some x/\u = .str x t):StrsAre us ss:=by
  induction us generalizing ss with
  |nil=>
    cases ss with
    |nil=>exact .nil
    |cons _ _=>simp at h1
  |cons u us ih=>
    cases ss with
    |nil=>simp at h1
    |cons x ss=>
      obtain⟨y,t,e,rfl⟩:=h2 0 u rfl;cases e;exact .cons _ _ (ih (by simpa using h1) λ j u e=>h2 (j+1) u (by simpa using e))
theorem Zlg {us:List Value}{ss:List Str}(h:StrsAre us ss):ZJ (ss.map V.str) us:=by
  induction h with
  |nil=>exact .nil
  |cons y t _ ih=>exact .cons ⟨t,rfl⟩ ih
theorem ZmP:∀ {kvs:List (Key×V)} {vs:List (Key×Value)} {i:Nat} {k:Key} {x:Value},KV kvs vs->vs[i]? = some (k,x)->∃ y,kvs[i]? = some (k,y)
  |_,_,_,_,_, .nil,e=>by simp at e
  | _,_,0,_,_, .cons (a:=p) r _,e=>by
    obtain⟨e1,_⟩:=r;simp only[List.getElem?_cons_zero,Option.some.injEq]at e ⊢;subst e;exact⟨p.2,Prod.ext e1 rfl⟩
  | _,_,i+1,_,_, .cons _ t,e=>by
    simp only[List.getElem?_cons_succ]at e ⊢;exact ZmP t e
end
end L2
namespace L2
open PySem PySem.Spec PyProof.Rows
section
variable {X:Cx}{pins:List (Addr×Obj)}{σ:List (Option V)}{H H':Hp}{s:Shared}{h':Heap}
end
section
variable {X:Cx}
end
end L2
namespace L2
open PySem PySem.Spec PyProof.Rows
section
variable {X:Cx}
end
end L2
namespace L2
open PySem PySem.Spec PyProof.Rows
theorem kit_ll {K:Frag}:PySem.W.kitOne K (.type "list") (.type "list")=some true:=by rfl
theorem ZmQ {K:Frag}:PySem.W.kitOne K (.type "str") (.type "str")=some true:=by rfl
section
variable {X:Cx}
theorem Zmg:SlR X (λ x lo hi H Q=>∃ z,x = .str z/\z.length<=sizeLine/\Q (.str (Txt.slice z lo hi)) H):=by
  intro pins s σ H x v vl vu lo hi sl Q I rx hs pl pu h;obtain⟨z,rfl,hz,q⟩:=h;obtain⟨t,rfl⟩:=rx;refine⟨"str",_,F.slot_str_getitem.lookup,typeIs_str _ _ _,?_⟩;cases pl with
  |none=>
    cases pu with
    |none=>exact wpAny_getItem_str_slice (l:=none) (u:=none) (st:=none) hs rfl (post_val_or_str ⟨le_trans (Txt.slice_le z _ _) hz,λ t' k=>⟨.str _,H,I.tok _,⟨t',rfl⟩,q⟩⟩)
    |int j uj=>exact wpAny_getItem_str_slice (l:=none) (u:=some (j,uj)) (st:=none) hs rfl (post_val_or_str ⟨le_trans (Txt.slice_le z _ _) hz,λ t' k=>⟨.str _,H,I.tok _,⟨t',rfl⟩,q⟩⟩)
  |int i ui=>
    cases pu with
    |none=>exact wpAny_getItem_str_slice (l:=some (i,ui)) (u:=none) (st:=none) hs rfl (post_val_or_str ⟨le_trans (Txt.slice_le z _ _) hz,λ t' k=>⟨.str _,H,I.tok _,⟨t',rfl⟩,q⟩⟩)
    |int j uj=>exact wpAny_getItem_str_slice (l:=some (i,ui)) (u:=some (j,uj)) (st:=none) hs rfl (post_val_or_str ⟨le_trans (Txt.slice_le z _ _) hz,λ t' k=>⟨.str _,H,I.tok _,⟨t',rfl⟩,q⟩⟩)
end
end L2
namespace Sh
noncomputable def G (a b:Int):Int:=(Nat.gcd a.toNat b.toNat:Int)
structure Low (n d q r:Int):Prop where
  q0:0<=q
  r0:0<r
  g:G q r=1
  eq:q * d=n * r
theorem G_pos {a b:Int}(hb:0<b):0<G a b:=by
 unfold G;have:=Nat.gcd_pos_of_pos_right a.toNat (show 0<b.toNat by omega);omega
theorem low {n d:Int}(hn:0<=n)(hd:0<d):Low n d (n / G n d) (d / G n d):=by
  have g0:=G_pos (a:=n) hd;have e1:n / G n d=((n.toNat / Nat.gcd n.toNat d.toNat:Nat):Int):=by
    conv=>lhs;rw[show n=(n.toNat:Int) by omega]
    unfold G;rw[toNat_natCast];rfl
  have e2:d / G n d=((d.toNat / Nat.gcd n.toNat d.toNat:Nat):Int):=by
    conv=>lhs;lhs;rw[show d=(d.toNat:Int) by omega]
    unfold G;rfl
  have p:0<Nat.gcd n.toNat d.toNat:=Nat.gcd_pos_of_pos_right n.toNat (show 0<d.toNat by omega);have dv1:=Nat.gcd_dvd_left n.toNat d.toNat;have dv2:=Nat.gcd_dvd_right n.toNat d.toNat;rw[e1,e2];refine⟨Int.natCast_nonneg _,?_,?_,?_⟩
  . have:=Nat.div_pos (Nat.le_of_dvd (show 0<d.toNat by omega) dv2) p;omega
  . unfold G;rw[toNat_natCast,toNat_natCast,Nat.gcd_div dv1 dv2,Nat.div_self p];rfl
  . have:n.toNat / Nat.gcd n.toNat d.toNat * d.toNat=n.toNat * (d.toNat / Nat.gcd n.toNat d.toNat):=by
      obtain⟨x,hx⟩:=dv1;obtain⟨y,hy⟩:=dv2;have x1:n.toNat / Nat.gcd n.toNat d.toNat=x:=by
        conv=>lhs;lhs;rw[hx]
        exact Nat.mul_div_cancel_left x p
      have y1:d.toNat / Nat.gcd n.toNat d.toNat=y:=by
        conv=>lhs;lhs;rw[hy]
        exact Nat.mul_div_cancel_left y p
      rw[x1,y1]
      conv=>lhs;rw[hy]
      conv=>rhs;rw[hx]
      rw[Nat.mul_left_comm,Nat.mul_assoc]
    have h:=congrArg (λ z:Nat=>(z:Int)) this;have h1:(n.toNat:Int)=n:=by omega
    have h2:(d.toNat:Int)=d:=by omega
    simp only[Int.natCast_mul,h1,h2]at h;exact h
end Sh
namespace Sh
end Sh
namespace L2
open PySem PySem.Spec PyProof.Rows
noncomputable def ltS (a b:Str):Prop:=a.cps.toList<b.cps.toList
instance (a b:Str):Decidable (ltS a b):=inferInstanceAs (Decidable (a.cps.toList<b.cps.toList))
theorem Jg {a b:Str}(h:a.cps.toList=b.cps.toList):a=b:=by
 cases a;cases b;simp at h;rw[h]
noncomputable abbrev En:=Str×Int×Int
noncomputable abbrev Ws:=List (En×Addr)
noncomputable def keys (es:List En):List Str:=es.map (·.1)
noncomputable def LedW (H:Hp)(l:Addr)(ws:Ws):Prop:=H l=some (.lst (ws.map λ w=>V.ref w.2))/\∀ w∈ws,H w.2=some (.tup [.str w.1.1, .int w.1.2.1, .int w.1.2.2])
noncomputable def Led (H:Hp)(l:Addr)(es:List En):Prop:=∃ ws:Ws,ws.map (·.1)=es/\LedW H l ws
noncomputable def DicW (K:Frag)(H:Hp)(d:Addr)(ws:Ws):Prop:=H d=some (.dK (ws.map λ w=>((Sum.inr w.1.1:Key),V.ref w.2)))/\∀ w∈ws,SqT K H w.2 [.int w.1.2.1, .int w.1.2.2]
noncomputable def Dic (K:Frag)(H:Hp)(d:Addr)(es:List En):Prop:=∃ ws:Ws,ws.map (·.1)=es/\DicW K H d ws
noncomputable def fnd (es:List En)(k:Str):Option En:=es.find? λ e=>decide (e.1=k)
noncomputable def look (es:List En)(k:Str):Int×Int:=match fnd es k with|some e=>e.2|none=>(0,1)
noncomputable def putE (es:List En)(k:Str)(n d:Int):List En:=if (es.any λ e=>decide (e.1=k))=true then es.map (λ e=>if e.1=k then (k,n,d) else e) else es++[(k,n,d)]
noncomputable def putW (ws:Ws)(k:Str)(w':En×Addr):Ws:=if (ws.any λ w=>decide (w.1.1=k))=true then ws.map (λ w=>if w.1.1=k then w' else w) else ws++[w']
noncomputable def Can (es es':List En):Prop:=es'.Pairwise (λ a b=>ltS a.1 b.1)/\(∀ e,e∈es'↔e∈es/\e.2.1≠0)/\es'.length<=es.length
end L2
namespace L2
open PySem PySem.Spec PyProof.Rows
theorem Zel {α:Type}{l:List α}{i:Nat}(hi:i<l.length):l.take i++[l[i]]=l.take (i+1):=by
 rw[take_succ,getElem?_eq_getElem hi];rfl
theorem Z0 {G H:Hp}{D:Addr}{u:HO}(sm:Zj G H)(hD:G D=none):Zj G (upd H D u):=λ b x e=>by
 rw[Zh (ZC e hD)];exact sm b x e
end L2
namespace L2
open PySem PySem.Spec PyProof.Rows
section
variable {P:Program}{w:World}{K:Frag}{mg:Str->Option Value}{base:Heap}{N:List Str}{qual:Str}{scope:Scope}{f:Addr}{cd:Value}{A:Around}{outer:List Env}{s0:Shared}{H0:Hp}{E:XK}
theorem Xz:Xq (CXR P w base) (Xo (CXR P w base) P w K mg base N qual scope f cd A outer s0 H0 E) E:=by
  intro pins σ H s e s2 I h;obtain⟨ex,T0,C,H2,rfl,os,bare,un,hok,fly,Ha,HT,ha,hT,q2⟩:=h;have I2:Inv (Xo (CXR P w base) P w K mg base N qual scope f cd A outer s0 H0 E) pins σ H2 s2:=I.call' (ch:=[]) os un hok bare λ b z=>absurd z (by simp);obtain⟨y1,y2,y3,a0,oe0,vs0,oT0,ts0,z1,z2,z3,z4,z5,z6,z7,z8,z9⟩:=fly
  let fr:=frs (envOfC qual scope s0.heap.objs.size f cd::outer)
  let B:=hideAll s2.heap (ex::T0::fr)
  have hin:∀ env∈(envOfC qual scope s0.heap.objs.size f cd::outer),∀ b,env.frame=some b->b∈ex::T0::fr:=λ env he b hb=>mem_cons_of_mem _ (mem_cons_of_mem _ (List.mem_filterMap.mpr ⟨env,he,hb⟩));have stk:s2.heap.FunFrames base (envOfC qual scope s0.heap.objs.size f cd::outer):=I2.stack;have notL:∀ b o,s0.heap.get? b=some o->b≠s0.heap.objs.size:=λ b o e=>ne_of_lt (Heap.lt_size e);have inB:∀ b o,s2.heap.get? b=some o->b∉ex::T0::fr->B.get? b=some o:=λ b o e n=>PySem.W.hideAll_get _ e n;have hid:∀ b,b∈ex::T0::fr->B.get? b=none:=λ b hb=>PySem.W.hideAll_none _ hb;have up:∀ b o,s0.heap.get? b=some o->∃ o',s.heap.get? b=some o':=λ b o z=>I.base.there b o z (λ q=>absurd (show b∈([]:List Addr) from q) (by simp));have no0:∀ b,s.heap.get? b=none->s0.heap.get? b=none:=λ b n=>by
    cases z:s0.heap.get? b with
    |none=>rfl
    |some o=>
      obtain⟨o',z'⟩:=up b o z;rw[n]at z';cases z'
  have no2:∀ b,s2.heap.get? b=none->s0.heap.get? b=none:=λ b n=>by
    cases z:s0.heap.get? b with
    |none=>rfl
    |some o=>
      obtain⟨o',z'⟩:=I2.base.there b o z (λ q=>absurd (show b∈([]:List Addr) from q) (by simp));rw[n]at z';cases z'
  have nex:∀ b,b∉(Xo (CXR P w base) P w K mg base N qual scope f cd A outer s0 H0 E).ex:=λ b q=>absurd (show b∈([]:List Addr) from q) (by simp);have notIn:∀ b o,s0.heap.get? b=some o->b∉frs outer->b∉ex::T0::fr:=λ b o z n hb=>by
    rcases List.mem_cons.mp hb with r|hb
    . rw[r,no0 _ ha]at z;cases z
    . rcases List.mem_cons.mp hb with r|hb
      . rw[r,no0 _ hT]at z;cases z
      . exact I2.stkNo (notL b o z) n hb
  show wpAny (model P w) (A.deeper (envOfC qual scope s0.heap.objs.size f cd)) (leaving (envOfC qual scope s0.heap.objs.size f cd) (.ref ex)) (λ _ s''=>CXR P w base outer H0 s0 E (.ref ex) s'') (λ e' s''=>CXR P w base outer H0 s0 E e' s'') s2;refine wpAny_leaves_onW (base:=B) (L:=s0.heap.objs.size) (cls:=C) (a0:=a0) I2.ok.frames rfl ⟨λ b o z=>PySem.W.of_hideAll _ z,hid ex (mem_cons_self ..),PySem.W.funFrames_hide stk hin,oe0,vs0,T0,oT0,ts0,z1,z2,z3,z4,hid T0 (mem_cons_of_mem _ (mem_cons_self ..)),z6,z7,z8,z9⟩ λ h'' fl U=>?_;obtain⟨f1,f2,f3,oe,vs,Tr,oT,ts,g1,g2,g3,g4,g5,g6,g7,g8,g9⟩:=fl;have U2:∀ b o,s2.heap.get? b=some o->(∀ vs,o.data ≠ .fields vs)->∃ sl,h''.get? b=some { o with slots:=sl }:=λ b o z n=>U b o z n;have baseB:base.StaysIn B:=λ b o z=>inB b o (I2.bk b o z) λ hb=>by
    rcases List.mem_cons.mp hb with r|hb
    . rw[r,y2]at z;cases z
    . rcases List.mem_cons.mp hb with r|hb
      . rw[r,z5]at z;cases z
      . rw[(stk.mem hb).1]at z;cases z
  have trN:H2 Tr=none/\s0.heap.get? Tr=none:=by
    cases z:s2.heap.get? Tr with
    |none=>exact⟨I2.untr z,no2 _ z⟩
    |some o=>
      by_cases hb:Tr∈ex::T0::fr
      . rcases List.mem_cons.mp hb with r|hb
        . exact absurd r g6
        . rcases List.mem_cons.mp hb with r|hb
          . rw[r];exact⟨HT,no0 _ hT⟩
          . obtain⟨_,o',ho',d'⟩:=stk.mem hb;obtain⟨sl,z2'⟩:=U2 Tr o' ho' d';rw[g7]at z2';have z3':=congrArg (λ q:Option Obj=>q.map (·.data)) z2';simp only[map_some,g8]at z3';exact absurd (Option.some.inj z3').symm (d' ts)
      . rw[inB Tr o z hb]at g5;cases g5
  refine⟨ex,Tr,C,H2,rfl,I2.os,I2.bare,⟨λ b o z n hb _=>?_,λ b o z n hb _=>?_,λ b o z n _=>I2.base.free b o z n (nex b),λ b o z _=>?_,I2.base.tups,I2.base.frzs,I2.base.tbls⟩,λ b u z=>?_,⟨λ b o z=>f1 b o (baseB b o z),y2,PySem.W.funFrames_base baseB f3,a0,oe,vs,oT,ts,g1,g2,g3,g4,?_,g6,g7,g8,g9⟩,Ha,trN.1,no0 _ ha,trN.2,q2⟩
  . exact f1 b o (inB b o (I2.base.keep b o z n hb (nex b)) (notIn b o z hb))
  . obtain⟨sl,w1⟩:=I2.base.slot b o z n hb (nex b);obtain⟨_,o',ho',d'⟩:=I2.ok.funs.mem hb;have:o'=o:=by rw[show(Xo (CXR P w base) P w K mg base N qual scope f cd A outer s0 H0 E).s₀.heap.get? b=some o from z]at ho';exact(Option.some.inj ho').symm
    subst this;obtain⟨sl',w2⟩:=U2 b _ w1 (λ vs=>d' vs);exact⟨sl',w2⟩
  . by_cases hb:b∈fr
    . obtain⟨_,o',ho',d'⟩:=stk.mem hb;obtain⟨sl,w2⟩:=U2 b o' ho' d';exact⟨_,w2⟩
    . obtain⟨o',z'⟩:=I2.base.there b o z (nex b);refine⟨o',f1 b o' (inB b o' z' λ hb'=>?_)⟩;rcases List.mem_cons.mp hb' with r|hb'
      . rw[r,no0 _ ha]at z;cases z
      . rcases List.mem_cons.mp hb' with r|hb'
        . rw[r,no0 _ hT]at z;cases z
        . exact hb hb'
  . refine(I2.hok b u z).stay (λ c v hc q=>?_) (λ _ q=>q) λ _ _ q=>q;have tr:∀ c v,H2 c=some v->c∉ex::T0::fr:=λ c v q n=>by
      rcases List.mem_cons.mp n with r|n
      . rw[r,Ha]at q;cases q
      . rcases List.mem_cons.mp n with r|n
        . rw[r,HT]at q;cases q
        . rw[I2.stkFree c n]at q;cases q
    rcases hc with hc|hc
    . rw[hc]at q ⊢;exact f1 b v (inB b v q (tr b u z))
    . exact f1 c v (inB c v q (tr c _ hc))
  . cases z:base.get? Tr with
    |none=>rfl
    |some o=>
      rw[baseB Tr o z]at g5;cases g5
end
noncomputable def tFnX (sp:Sp)(E:XK)(t:TA):TE:=λ σ H Q=>t σ H λ vs H1=>sp vs H1 Q E
theorem X7 {X:Cx}{k:Nat}{x:Str}{ps:List Str}{sp:Sp}{E:XK}{p pos:Pos}{e:Expr}{es:List Expr}{t:TA}(hx:Xq (CXR X.prog X.w X.base) X E)(D:Dx X.prog X.w X.K X.mg X.base k x ps sp)(hr:Room k X.A)(ha:PA X (e::es) t)(hg:Gl X x:=by rfl)(hdb:(x == ("__debug__":Str))=false:=by decide)(he:starEach (e::es) X.env=(false,eval e X.env)::starEach es X.env:=by rfl)(hpl:(backTo pos (starEach es X.env)).any (·.1)=false:=by rfl) :
    PE X (.Call (.Name x p) (e::es) [] pos) (tFnX sp E t):=by
  obtain⟨f,fd,F,hm,hk,hb⟩:=D.ex;have q:=ZkN (p:=p) (pos:=pos) F hr hg hm hk hb .nil hx ha hdb he hpl;have e:Zmd sp [] E t=tFnX sp E t:=by
    funext σ H Q;show t σ H (λ vs H1=>sp (vs++[]) H1 Q E)=t σ H λ vs H1=>sp vs H1 Q E;simp only[append_nil]
  rw[<- e];exact q
end L2
namespace L2
open PySem PySem.Spec PyProof.Rows
theorem relK {k:Key}{u:Value}(h:Zfe k u=true):ZI (kV k) u:=by
  rcases Yi h with ⟨i,t,e,rfl⟩|⟨x,t,e,rfl⟩
  . subst e;exact⟨t,rfl⟩
  . subst e;exact⟨t,rfl⟩
theorem Zm6 {X:Cx}{pins:List (Addr×Obj)}{σ:St}{H:Hp}{s:Shared}{d:Addr}{o:Obj}{kvs:List (Key×V)}{es:Array DictEntry}{ep:Nat}(I:Inv X pins σ H s)(h:H d=some (.frz o (.dK kvs)))(ho:o.data = .dict es ep) :
    ∃ vs,KV kvs vs/\s.heap.DictAt (ZR X.prog X.w) d vs ep:=by
  obtain⟨g,_,_,vs,rel,dd⟩:=(show Yw X.prog X.w H s.heap d (.frz o (.dK kvs)) from I.hok d _ h);obtain⟨ep',hat⟩:=dd.dictAt;obtain⟨o',es',h1,h2,h3,h4⟩:=id hat;rw[g]at h1;cases h1;rw[ho]at h3;cases h3;exact⟨vs,rel,hat⟩
noncomputable def Itd (d:Addr)(o:Obj)(kvs:List (Key×V)):It:=
 ⟨λ i H=>H d=some (.frz o (.dK kvs))/\i<kvs.length,λ i H x H'=>H'=H/\∃ k v,kvs[i]? = some (k,v)/\x=kV k,λ i H=>H d=some (.frz o (.dK kvs))/\kvs.length<=i⟩
theorem Zli {P:Program}{w:World}{K:Frag}{tg:Expr}(d it:Addr)(o:Obj)(kvs:List (Key×V))(es:Array DictEntry)(ep:Nat)(ho:o.data = .dict es ep):Turn P w K tg (Itd d o kvs) [it] it (λ i h=>h.IsKeyIter it d i kvs.length ep) where
  mem:=by simp
  obj:=λ i h st b hb=>by
    have e:b=it:=by simpa using hb
    subst e;obtain⟨o,e,c,d⟩:=st;exact⟨o,e,λ v z=>by rw[d]at z;cases z⟩
  keep:=λ i h h' st k=>st.at λ o e=>k it (by simp) o e
  item:=by
    intro X hP hw hK hc i pins s σ H E I hf st hg;subst hP hw hK;obtain⟨hfr,hi⟩:=hg;obtain⟨vs,rel,hat⟩:=Zm6 I hfr ho;have hl:kvs.length=vs.length:=rel.length;obtain⟨⟨k,x⟩,hx⟩:∃ p,vs[i]? = some p:=⟨vs[i]'(by omega),getElem?_eq_getElem (by omega)⟩;obtain⟨y,hy⟩:=ZmP rel hx;obtain⟨f0,f1,f2,f3,f4,f5⟩:=hf it (by simp);rw[hl]at st;refine wpAny_pyNext_dict_item st hat hx λ key h' hkey st' sb=>?_;have I1:Inv X pins σ H { s with heap:=h' }:=I.turned (t':=s.toks) (λ b o hb e=>(sb.2 b hb).trans e) f0 f1 f3 f4 f5;rw[<- hl]at st';obtain⟨o2,e,c,d2⟩:=id st';exact⟨key,rfl,Zk0 (s:={ s with heap:=h' }) e c d2 (by decide) ⟨kV k,H,I1,relK hkey,⟨rfl,k,y,hy,rfl⟩,st',λ b hb=>(hf b hb).1⟩⟩
  done:=by
    intro X hP hw hK hc i pins s σ H E I hf st hg;subst hP hw hK;obtain⟨hfr,hi⟩:=hg;obtain⟨vs,rel,hat⟩:=Zm6 I hfr ho;have hl:kvs.length=vs.length:=rel.length;obtain⟨f0,f1,f2,f3,f4,f5⟩:=hf it (by simp);rw[hl]at st;exact wpAny_pyNext_dict_end (I.ok.hd hc) st hat (by simp;omega) λ h' eb=>⟨rfl,I.turned (t':=s.toks) (λ b o hb e=>eb b o hb e) f0 f1 f3 f4 f5⟩
  self:=λ _ _ _ _ _ st h=>wpAny_pyIter_keyiter st h
noncomputable def iDict (tl:TE):TI:=λ σ H R=>tl σ H λ x H1=>∃ d kvs,x = .ref d/\H1 d=some (.dK kvs)/\∀ o,R (Itd d o kvs) (upd H1 d (.frz o (.dK kvs)))
theorem Zij {X:Cx}{tg l:Expr}{tl:TE}(hl:PE X l tl):PI X tg l (iDict tl):=by
 refine⟨?_⟩;intro pins s σ H R I h;refine thn (hl pins s σ H _ I h) λ v s1 zz9=>?_;obtain⟨x,H1,I1,r1,q1⟩:=zz9;obtain⟨d,kvs,e,hd,q⟩:=q1;subst e;cases r1;obtain⟨z,lo,vs,rel,dd⟩:=dk_of I1.hok hd;obtain⟨ep,hat⟩:=dd.dictAt;obtain⟨o,es,h1,h2,h3,h4⟩:=id hat;have hl:kvs.length=vs.length:=rel.length;have I2:Inv X pins σ (upd H1 d (.frz o (.dK kvs))) s1:=I1.write (t':=s1.toks) (h':=s1.heap) (x:=d) (e:=d) (by rw[hd];exact True.intro) (.inl rfl) (λ b u _ q=>q) ⟨o,h1⟩ ⟨h1,z,lo,vs,rel,dd⟩;refine wpAny_pyIter_dict lo hat ?_;refine⟨s1.heap.objs.size,[s1.heap.objs.size],_,_,_,rfl,I2.kept (t':=s1.toks) λ b o e=>Heap.get?_push_of_some _ e,Zli d _ o kvs es ep h3,⟨_,Heap.get?_push_size _ rfl,rfl,by rw[hl];rfl⟩,λ b hb=>?_,q o⟩;have e:b=s1.heap.objs.size:=by simpa using hb
 subst e;exact I2.fpOk (le_refl _) (I2.hok.fresh (le_refl _))
end L2
namespace L2
open PySem PySem.Spec PyProof.Rows
end L2
namespace L2
open PySem PySem.Spec PyProof.Rows
noncomputable def vl (n d:Int):Rat:=(n:Rat) / (d:Rat)
end L2
namespace L2
open PySem PySem.Spec PyProof.Rows
theorem ZkD:∀(l:List (Str×Tok)),ZJ ((l.map (·.1)).map V.str) (strValues l)
  |[] => .nil
  |(x,t)::r => .cons ⟨t,rfl⟩ (ZkD r)
section
variable {X:Cx}
theorem Zlx:OpR X (compareOp .Gt) (λ x y H Q=>∃ i j,x = .str i/\y = .str j/\Q (.bl (decide (j.cps.toList<i.cps.toList))) H):=by
 intro pins s σ H x y v u Q I rx ry h;obtain⟨i,j,rfl,rfl,q⟩:=h;obtain⟨t,rfl⟩:=rx;obtain⟨t',rfl⟩:=ry;exact PySem.P.gt_str (ZW I q rfl)
theorem Zhn:Xt X (.type "int") (λ xs H Q=>∃ z n,xs=[.str z]/\PySem.intText? z=some n/\z.length<=640/\Q (.int n) H):=by
 intro pins s σ H xs us Q I r h;obtain⟨z,n,rfl,hn,hl,q⟩:=h;obtain⟨u,rfl,t,rfl⟩:=Js r;exact PySem.W.KIN.call_text hn hl ⟨.int n,H,I.tok _,⟨_,rfl⟩,q⟩
noncomputable def rSplit:V->List V->Hp->VK->Prop:=λ x xs H Q=>∃ z y,x = .str z/\xs=[.str y]/\(y.length == 0)=false/\z.length<=sizeLine/\(Builtin.Str.partsBetween z (Builtin.Str.occurrences z y 0 z.length (z.length+1)) y.length).length<=sizeLine /\
 ∀ l,H l=none->Q (.ref l) (upd H l (.lst ((Txt.split z y).map V.str)))
theorem ZjI:MtR X "str.split" rSplit:=by
  intro pins s σ H x xs v us Q I rx rv h;obtain⟨z,y,rfl,rfl,hy,hz,hz2,q⟩:=h;obtain⟨t,rfl⟩:=rx;obtain⟨u,rfl,t',rfl⟩:=Js rv;have fin:∀(l:List (Str×Tok))(tk:Nat),l.map (·.1)=Txt.split z y->l.length<=sizeLine->EP X pins σ Q (.ref s.heap.objs.size) { s with heap:=s.heap.push { cls:=.type "list",data:=.seq (strValues l).toArray },toks:=tk }:=λ l tk e hl=>
    ⟨.ref s.heap.objs.size,_,I.laid (t':=tk) (o:=.lst ((Txt.split z y).map V.str)) (λ _ _ w=>Heap.get?_push_of_some _ w) (le_refl _) ⟨by rw[length_map,<- e,length_map];exact hl,strValues l,0,by rw[<- e];exact ZkD l,Heap.get?_push_size _ rfl⟩,rfl,q _ I.fresh⟩
  cases h1:(decide (z.length<y.length) || decide (Builtin.Str.strKind z<Builtin.Str.strKind y))
  . cases hf:(Builtin.Str.occurrences z y 0 z.length (z.length+1)).isEmpty
    . refine call_meets F.slot_str_split (typeIs_str _ _ _) F.entry_str_split (F.args_str_split_2 _ _) (meets_str_split_sep z y t t' h1 hy hf hz hz2) ?_;have w:=fin (numbered s.toks (Builtin.Str.partsBetween z (Builtin.Str.occurrences z y 0 z.length (z.length+1)) y.length)) (s.toks+(Builtin.Str.partsBetween z (Builtin.Str.occurrences z y 0 z.length (z.length+1)) y.length).length) ((numbered_texts _ _).trans (by unfold Txt.split;rw[h1,hf];rfl)) (by rw[<- length_map (f:=(·.1)),numbered_texts];exact hz2);rw[<- strsFrom_eq]at w;exact w
    . exact call_meets F.slot_str_split (typeIs_str _ _ _) F.entry_str_split (F.args_str_split_2 _ _) (meets_str_split_not_found z y t t' h1 hy hf) (fin [(z,t)] s.toks (by unfold Txt.split;rw[h1,hf];rfl) (by show 1<=sizeLine;decide))
  . exact call_meets F.slot_str_split (typeIs_str _ _ _) F.entry_str_split (F.args_str_split_2 _ _) (meets_str_split_cannot_occur z y t t' h1) (fin [(z,t)] s.toks (by unfold Txt.split;rw[h1];rfl) (by show 1<=sizeLine;decide))
noncomputable def rRpart:V->List V->Hp->VK->Prop:=λ x xs H Q=>∃ z y,x = .str z/\xs=[.str y]/\(y.length == 0)=false/\z.length<=sizeLine /\
 ∀ l,H l=none->Q (.ref l) (upd H l (.tup (match Builtin.Str.lastOccurrence z y 0 z.length with|some i=>[V.str (Builtin.Str.strSub z 0 i),V.str y,V.str (Builtin.Str.strSub z (i+y.length) z.length)]|none=>[V.str Str.empty,V.str Str.empty,V.str z])))
theorem ZmF:MtR X "str.rpartition" rRpart:=by
  intro pins s σ H x xs v us Q I rx rv h;obtain⟨z,y,rfl,rfl,hy,hz,q⟩:=h;obtain⟨t,rfl⟩:=rx;obtain⟨u,rfl,t',rfl⟩:=Js rv;refine call_meets F.slot_str_rpartition (typeIs_str _ _ _) F.entry_str_rpartition (F.args_str_rpartition_2 _ _) (meets_str_rpartition z y t t' hy hz) ?_;revert q;cases Builtin.Str.lastOccurrence z y 0 z.length with
  |some i=>
    intro q;exact⟨.ref s.heap.objs.size,_,I.laid (t':=s.toks+1+1) (o:=.tup [V.str (Builtin.Str.strSub z 0 i),V.str y,V.str (Builtin.Str.strSub z (i+y.length) z.length)]) (λ _ _ w=>Heap.get?_push_of_some _ w) (le_refl _) ⟨by show 3<=sizeLine;decide,_, .cons ⟨_,rfl⟩ (.cons ⟨_,rfl⟩ (.cons ⟨_,rfl⟩ .nil)),IsTup.new _ _⟩,rfl,q _ I.fresh⟩
  |none=>
    intro q;exact⟨.ref s.heap.objs.size,_,I.laid (t':=s.toks+1) (o:=.tup [V.str Str.empty,V.str Str.empty,V.str z]) (λ _ _ w=>Heap.get?_push_of_some _ w) (le_refl _) ⟨by show 3<=sizeLine;decide,_, .cons ⟨_,rfl⟩ (.cons ⟨_,rfl⟩ (.cons ⟨_,rfl⟩ .nil)),IsTup.new _ _⟩,rfl,q _ I.fresh⟩
noncomputable def rRfind:V->List V->Hp->VK->Prop:=λ x xs H Q=>∃ z y,x = .str z/\xs=[.str y]/\Q (.int (match Builtin.Str.lastOccurrence z y 0 z.length with|some i=>(i:Int)|none => -1)) H
theorem ZmG:MtR X "str.rfind" rRfind:=by
 intro pins s σ H x xs v us Q I rx rv h;obtain⟨z,y,rfl,rfl,q⟩:=h;obtain⟨t,rfl⟩:=rx;obtain⟨u,rfl,t',rfl⟩:=Js rv;refine call_meets F.slot_str_rfind (typeIs_str _ _ _) F.entry_str_rfind (F.args_str_rfind_2 _ _) (gives_str_rfind z y t t').meets ?_;exact⟨.int _,H,I.tok _,⟨_,rfl⟩,q⟩
noncomputable def Its (x:Str):It:=⟨λ i _=>i<x.cps.size,λ i H v H'=>H'=H/\∃ c,x.cps[i]? = some c/\v = .str ⟨#[c]⟩,λ i _=>x.cps.size<=i⟩
theorem Zl7 {prog:Program}{w:World}{A:Around}(hh:A.handled=none)(it:Addr)(x:Str)(t:Tok):Walks prog w A it [it] [it] x.cps.size (SignAt x) (λ i h=>h.IsStrIter it (strIterType x) x t i):=by
  cases ha:x.cps.all (· < 128) with
  |true=>
    have e:strIterType x="str_ascii_iterator":=by unfold strIterType;rw[ha];rfl
    rw[e];exact Walks.strAscii hh it x t
  |false=>
    have e:strIterType x="str_iterator":=by unfold strIterType;rw[ha];rfl
    rw[e];exact Walks.strWide hh it x t
theorem Zma {P:Program}{w:World}{K:Frag}{tg:Expr}(it:Addr)(x:Str)(t:Tok):Turn P w K tg (Its x) [it] it (λ i h=>h.IsStrIter it (strIterType x) x t i) where
  mem:=by simp
  obj:=λ i h st b hb=>by
    have e:b=it:=by simpa using hb
    subst e;obtain⟨o,e,c,d⟩:=st;exact⟨o,e,λ v z=>by rw[d]at z;cases z⟩
  keep:=λ i h h' st k=>by
    obtain⟨o,e,r⟩:=st;exact⟨o,k it (by simp) o e,r⟩
  item:=by
    intro X hP hw hK hc i pins s σ H E I hf st hg;subst hP hw hK;obtain⟨f0,f1,f2,f3,f4,f5⟩:=hf it (by simp);refine(Zl7 (prog:=X.prog) (w:=X.w) (I.ok.hd hc) it x t).item i s _ _ hg st λ v h' tk hv st' kk=>?_;obtain⟨c,u,hc',rfl⟩:=hv;have I1:Inv X pins σ H { s with heap:=h',toks:=tk }:=I.turned (λ b o hb e=>kk b o (by simpa using hb) e) f0 f1 f3 f4 f5;obtain⟨o2,e,cl,d2⟩:=id st';refine⟨_,rfl,Zk0 (s:={ s with heap:=h',toks:=tk }) e cl d2 ?_ ⟨.str ⟨#[c]⟩,H,I1,⟨u,rfl⟩,⟨rfl,c,hc',rfl⟩,st',λ b hb=>(hf b hb).1⟩⟩;unfold strIterType;cases x.cps.all (· < 128) <;> decide
  done:=by
    intro X hP hw hK hc i pins s σ H E I hf st hg;subst hP hw hK;obtain⟨f0,f1,f2,f3,f4,f5⟩:=hf it (by simp);have hn:x.cps[i]? = none:=Array.getElem?_eq_none hg;have fin:∀ h',Heap.ExtBut it s.heap h'->(none:Option Value)=none/\Inv X pins σ H { s with heap:=h' }:=λ h' eb=>⟨rfl,I.turned (t':=s.toks) (λ b o hb e=>eb b o hb e) f0 f1 f3 f4 f5⟩;cases ha:x.cps.all (· < 128) with
    |true=>
      rw[show strIterType x="str_ascii_iterator" by unfold strIterType;rw[ha];rfl]at st;exact wpAny_pyNext_ascii_end (I.ok.hd hc) st hn fin
    |false=>
      rw[show strIterType x="str_iterator" by unfold strIterType;rw[ha];rfl]at st;exact wpAny_pyNext_wide_end (I.ok.hd hc) st hn fin
  self:=λ _ i s _ _ st h=>by
    cases ha:x.cps.all (· < 128) with
    |true=>
      rw[show strIterType x="str_ascii_iterator" by unfold strIterType;rw[ha];rfl]at st;exact wpAny_pyIter_striter_ascii st h
    |false=>
      rw[show strIterType x="str_iterator" by unfold strIterType;rw[ha];rfl]at st;exact wpAny_pyIter_striter_wide st h
noncomputable def iStr (tl:TE):TI:=λ σ H R=>tl σ H λ x H1=>∃ z,x = .str z/\R (Its z) H1
theorem pi_str {tg l:Expr}{tl:TE}(hl:PE X l tl):PI X tg l (iStr tl):=by
 refine⟨?_⟩;intro pins s σ H R I h;refine thn (hl pins s σ H _ I h) λ v s1 zz9=>?_;obtain⟨x,H1,I1,r1,q1⟩:=zz9;obtain⟨z,e,q⟩:=q1;subst e;obtain⟨t,rfl⟩:=r1;refine wpAny_pyIter_strU ?_;refine⟨s1.heap.objs.size,[s1.heap.objs.size],_,_,H1,rfl,I1.kept (t':=s1.toks) λ b o e=>Heap.get?_push_of_some _ e,Zma _ z t,⟨_,Heap.get?_push_size _ rfl,rfl,rfl⟩,λ b hb=>?_,q⟩;have e:b=s1.heap.objs.size:=by simpa using hb
 subst e;exact I1.fpOk (le_refl _) (I1.hok.fresh (le_refl _))
noncomputable def gStar (K:Frag)(t:TGs):TG:=λ v σ H Q=>∃ l x xs,v = .ref l/\SqL K H l (x::xs)/\xs.length<=10000/\∀ D,H D=none->t [x, .ref D] σ (upd H D (.lst xs)) Q
theorem ZnH {a b:Expr}{k:Nat}{sp pos:Pos}{t:TGs}(hc:X.calm=true)(h:PGs X [a,b] t)(hn:(assignEach [a, .Starred b sp] X.env).length=2:=by rfl)(hst:(assignEach [a, .Starred b sp] X.env).findIdx? (·.1)=some 1:=by rfl)(hm:(assignEach [a, .Starred b sp] X.env).map (·.2)=(assignEach [a,b] X.env).map (·.2):=by rfl):PG X (.Tuple [a, .Starred b sp] k pos) (gStar X.K t):=by
  refine⟨?_⟩;intro pins s σ H v u Q I r hw;obtain⟨l,x,xs,e1,hq,hl,hw⟩:=hw;subst e1;cases r;obtain⟨its,rv,pl,hz⟩:=I.list hq;have hL:=pl.isList;obtain⟨vx,its',rfl,rx,rr⟩:∃ vx its',its=vx::its'/\ZI x vx/\ZJ xs its':=by
    cases rv with
    |cons p q=>exact⟨_,_,rfl,p,q⟩
  have hll:l<s.heap.objs.size:=by obtain⟨_,z,_⟩:=hL;exact Heap.lt_size z
  have hne:l≠s.heap.objs.size:=ne_of_lt hll;have hsz:(vx::its').toArray.size=its'.length+1:=by simp
  have hil:its'.length=xs.length:=rr.length.symm;rw[assign_Tuple];refine wpAny_bind (wpAny_standAt ?_);unfold unpack;rw[hn,hst,hm];refine wpAny_bind (wpAny_holding ?_);unfold unpackItems notIterableAtAll;refine wpAny_bind (wpAny_bind (wpAny_specialOf hL.typeIs slot_list_iter.lookup (wpAny_pure ?_)));simp only[false_eq_true,if_false];refine wpAny_bind (wpAny_holding (wpAny_pyIter_list hL ?_));refine wpAny_bind (wpAny_holding (PySem.W.kun_draw hne 1 0 _ _ ⟨_,Heap.get?_push_size _ rfl,rfl,rfl⟩ (hL.push _) (by rw[hsz];omega) λ g1 hit1 sb1=>?_));have hL1:g1.IsList l (vx::its').toArray:=(hL.push _).extBut sb1.extBut hne;obtain⟨oi,hoi,_⟩:=id hit1;obtain⟨ol,hol,_⟩:=id hL1;have tk1:(((vx::its').toArray.toList.drop 0).take 1)=[vx]:=rfl;rw[tk1];rw[if_neg (show ¬ ([vx].length<1) by simp)];refine wpAny_bind (wpAny_holding (PySem.W.kun_collect (s:={ s with heap:=g1 }) (T:="list_iterator") (.inr (.inr (.inl rfl))) (Walks.list (A:=X.A.in1) (I.ok.hd hc) s.heap.objs.size l hne (vx::its').toArray) (λ j w st=>st.1.typeIs) (k:=1) (by rw[hsz];omega) ⟨hit1,hL1⟩ (Heap.lt_size hoi) (Heap.lt_size hol) (λ g2 tk kp=>?_) (by rw[hsz,sizeLine_eq];omega)));have dr:(vx::its').toArray.toList.drop 1=its':=rfl;rw[dr];show wpAny _ _ (if its'.length<2 - 1 - 1 then _ else _) _ _ _;rw[if_neg (by omega)];show wpAny _ _ (newList (its'.take (its'.length - (2 - 1 - 1))) >>= λ d=>pure ([vx]++[d]++its'.drop (its'.length - (2 - 1 - 1)))) _ _ _;rw[show its'.length - (2 - 1 - 1)=its'.length by omega,take_length,List.drop_length];have keep:∀ b o,s.heap.get? b=some o->g2.get? b=some o:=λ b o e=>kp b o (ne_of_lt (Heap.lt_size e)) (sb1.extBut b o (ne_of_lt (Heap.lt_size e)) (Heap.get?_push_of_some _ e));have I1:Inv X pins σ H { s with heap:=g2,toks:=tk }:=I.kept keep;refine wpAny_bind (wpAny_newList ?_ (by rw[sizeLine_eq];omega));refine wpAny_pure ?_;have I2:=Inv.laid (s:={ s with heap:=g2,toks:=tk }) (h':=g2.push { cls:=.type "list",data:=.seq its'.toArray }) (t':=tk) (o:=.lst xs) I1 (λ _ _ w=>Heap.get?_push_of_some _ w) (le_refl _) ⟨by rw[sizeLine_eq];omega,its',0,rr,Heap.get?_push_size _ rfl⟩;exact h pins _ σ _ [x, .ref g2.objs.size] [vx, .ref g2.objs.size] Q I2 (.cons rx (.cons rfl .nil)) (hw _ I1.fresh)
end
end L2
namespace L2
open PySem PySem.Spec PyProof.Rows PySem.StrLaws
noncomputable def dot:Str:="."
noncomputable def inR (a b c:Nat):Bool:=decide (a<=c) && decide (c<=b)
noncomputable def gw (x:Str):Bool:=decide (1<=x.length) && decide (x.length<=8) && x.cps.toList.all (inR 97 122) && !(decide (x="crown") || decide (x="kids"))
noncomputable def gn (x:Str):Bool:=decide (1<=x.length) && decide (x.length<=2) && x.cps.toList.all (inR 48 57) && !decide (x.cps.toList.head? = some 48)
noncomputable def iv (x:Str):Int:=(PySem.intText? x).getD 0
theorem ZmX:(∀ c∈List.range 9,PySem.intText? ⟨#[49+c]⟩=some (iv ⟨#[49+c]⟩)/\1<=iv ⟨#[49+c]⟩)/\∀ c∈List.range 9,∀ d∈List.range 10,PySem.intText? ⟨#[49+c,48+d]⟩=some (iv ⟨#[49+c,48+d]⟩)/\1<=iv ⟨#[49+c,48+d]⟩:=by decide +kernel
theorem iv_gn {x:Str}(h:gn x=true):PySem.intText? x=some (iv x)/\1<=iv x:=by
  unfold gn at h;simp only[and_eq_true,decide_eq_true_eq,Bool.not_eq_true',decide_eq_false_iff_not]at h;obtain⟨⟨⟨h1,h2⟩,h3⟩,h4⟩:=h;obtain⟨⟨l⟩⟩:=x;have h1':1<=l.length:=h1;have h2':l.length<=2:=h2
  match l,h1',h2',h3,h4 with
  |[c],_,_,h3,h4=>
    simp[inR]at h3 h4;have e:c=49+(c - 49):=by omega
    rw[e];exact ZmX.1 (c - 49) (List.mem_range.mpr (by omega))
  |[c,d],_,_,h3,h4=>
    simp[inR]at h3 h4;have e:c=49+(c - 49):=by omega
    have e':d=48+(d - 48):=by omega
    rw[e,e'];exact ZmX.2 (c - 49) (List.mem_range.mpr (by omega)) (d - 48) (List.mem_range.mpr (by omega))
noncomputable def pcs (x:Str):List Str:=Txt.split x dot
noncomputable def wd (x:Str):Str:=(pcs x).headD ""
noncomputable def nms (x:Str):List Str:=(pcs x).tail
theorem Xy (x:Str):pcs x=wd x::nms x:=by
  have h:1<=(pcs x).length:=split_pos x dot;unfold wd nms;cases e:pcs x with
  |nil=>rw[e]at h;simp at h
  |cons a r=>rfl
theorem ZnO (x:Str):(nms x).length<=x.length+1:=by
 have h:(pcs x).length<=x.length+2:=split_le x dot;rw[Xy,length_cons]at h;omega
theorem Zmu {x p:Str}(h:p∈pcs x):p.length<=x.length:=by
  unfold pcs Txt.split at h;split at h
  . rw[List.mem_singleton.mp h];exact le_refl _
  . split at h
    . rw[List.mem_singleton.mp h];exact le_refl _
    . unfold Builtin.Str.partsBetween at h;obtain⟨q,_,rfl⟩:=List.mem_map.mp h;exact le_strSub x q.1 q.2
noncomputable def pok (x:Str):Bool:=gw (wd x) && decide ((nms x).length<=5) && (nms x).all gn
noncomputable def pvl (x:Str):List V:=.str (wd x)::(nms x).map λ p=>V.int (iv p)
noncomputable def dat (x:Str):PyData:=.list (.str (wd x)::(nms x).map λ p=>PyData.int (iv p))
theorem gw_ok {x:Str}(h:gw x=true):PyData.strOk x=true:=by
 unfold gw at h;simp only[and_eq_true]at h;unfold PyData.strOk;rw[Array.all_eq_true_iff_forall_mem];intro c hc;have z:=List.all_eq_true.mp h.1.2 c (by simpa using hc);simp[inR]at z;simp;omega
noncomputable def up (x:Str):Str:=match Builtin.Str.lastOccurrence x dot 0 x.length with|some i=>Builtin.Str.strSub x 0 i|none=>Str.empty
theorem Zdm:dot=⟨#[46]⟩:=by decide +kernel
theorem at_iff (x:Str)(i:Nat):At x dot x.length i↔x.cps.toList[i]? = some 46:=by
 rw[Zdm];exact subAt_one x 46 i
theorem ZlR (l:List Str):∀(a:Array Nat),46∈a.toList->46∈(l.foldl (λ acc p=>acc++dot.cps++p.cps) a).toList:=by
  induction l with
  |nil=>intro a h;exact h
  |cons p r ih=>
    intro a h;rw[foldl_cons];exact ih _ (by simp only[Array.toList_append,mem_append];exact .inl (.inl h))
theorem dot_in {x:Str}(h:nms x≠[]):46∈x.cps.toList:=by
  have e:pcs x=wd x::nms x:=Xy x;unfold pcs Txt.split at e;split at e
  . injection e with _ e;exact absurd e.symm h
  . split at e
    . injection e with _ e;exact absurd e.symm h
    . have g:=glued_between_self x dot (x.length+1);rw[e]at g;rw[<- g];unfold Builtin.Str.glued;show 46∈((nms x).foldl (λ acc p=>acc++dot.cps++p.cps) (wd x).cps).toList;cases hn:nms x with
      |nil=>exact absurd hn h
      |cons p r=>
        rw[foldl_cons];refine ZlR r _ ?_;rw[Zdm];simp
theorem Znt {x:Str}(h:nms x≠[]):∃ i:Nat,Builtin.Str.lastOccurrence x dot 0 x.length=some i/\Txt.slice x none (some (i:Int))=up x:=by
  obtain⟨j,hj⟩:=List.mem_iff_getElem?.mp (dot_in h);rcases last_spec x dot with ⟨_,z⟩|⟨i,e,z,_⟩
  . exact absurd ((at_iff x j).mpr hj) (z j)
  . refine⟨i,e,?_⟩;have hi:i<x.cps.toList.length:=(List.getElem?_eq_some_iff.mp ((at_iff x i).mp z)).1;have s:Txt.slice x none (some (i:Int))=⟨((x.cps.toList.drop 0).take ((i:Int) - 0).toNat).toArray⟩:=by
      have q:=sliceText_to (x:=x) (j:=(i:Int)) ⟨by omega,by omega⟩;unfold sliceText at q;unfold Txt.slice;exact q
    have u:up x=Builtin.Str.strSub x 0 i:=by unfold up;rw[e]
    rw[u];refine s.trans ?_;refine Jg ?_;rw[strSub_toList];simp
theorem ZiH (c a:Nat):((⟨#[c]⟩:Str).cps.toList<(⟨#[a]⟩:Str).cps.toList)↔c<a:=by
 show [c]<[a]↔c<a;have:=StrLaws.lt_cons_cons c a [] [];rw[StrLaws.lt_nil_nil,Bool.and_false,Bool.or_false]at this;simpa using this
theorem ZnZ {x:Str}{g:TG}{tb:TS}{D:Ends}{σ:St}{H:Hp}(Pv:Nat->St->Hp->Prop)(h0:Pv 0 σ H)(hs:∀ i c σ H,x.cps.toList[i]? = some c->Pv i σ H->g (.str ⟨#[c]⟩) σ H λ σ2 H2=>tb { D with nx:=Pv (i+1),ct:=Pv (i+1),bk:=D.nx } σ2 H2)(hd:∀ σ H,Pv x.cps.toList.length σ H->D.nx σ H) :
    ∃ W:Nat->Nat->St->Hp->Prop,(∃ m,W 0 m σ H)/\∀ i m σ H,W i m σ H ->
      ((Its x).stop i H/\D.nx σ H)\/((Its x).go i H/\∃ N:St->Hp->Prop,(∀ σ' H',N σ' H'->∃ m',m'<m/\W (i+1) m' σ' H')/\∀ v H',(Its x).yld i H v H'->g v σ H' λ σ2 H2=>tb { D with nx:=N,ct:=N,bk:=D.nx } σ2 H2):=by
  have hl:x.cps.toList.length=x.cps.size:=length_toList;refine⟨λ i m σ H=>m=x.cps.size - i/\i<=x.cps.size/\Pv i σ H,⟨x.cps.size,by simp,zero_le _,h0⟩,?_⟩;rintro i m σ H ⟨rfl,hi,p⟩
  by_cases hlt:i<x.cps.size
  . refine .inr ⟨hlt,Pv (i+1),λ σ' H' p'=>⟨x.cps.size - (i+1),by omega,rfl,hlt,p'⟩,λ v H' y=>?_⟩;obtain⟨rfl,c,hc,rfl⟩:=y;exact hs i c σ _ (by rw[getElem?_toList];exact hc) p
  . have e:i=x.cps.toList.length:=by omega
    subst e;exact .inl ⟨by show x.cps.size<=_;omega,hd σ H p⟩
theorem Zno {l:List Nat}{f:Nat->Bool}{i c:Nat}(h:(l.take i).all f=true)(hc:l[i]? = some c)(hf:f c=true):(l.take (i+1)).all f=true:=by
 rw[take_succ,hc,all_append,h];simp[hf]
theorem Zld {l:List Nat}{f:Nat->Bool}{i c:Nat}(hc:l[i]? = some c)(hf:f c=false):l.all f=false:=by
  cases e:l.all f with
  |false=>rfl
  |true=>
    have:=List.all_eq_true.mp e c (mem_of_getElem? hc);rw[hf]at this;cases this
end L2
namespace L2
open PySem PySem.Spec PyProof.Rows
section
variable {X:Cx}
noncomputable def Zmn:V->List V->Hp->VK->Prop:=λ x xs H Q=>∃ z y,x = .str z/\xs=[.str y]/\Q (.int (Builtin.Str.occurrences z y 0 z.length (z.length+1)).length) H
theorem XX:MtR X "str.count" Zmn:=by
 intro pins s σ H x xs v us Q I rx rv h;obtain⟨z,y,rfl,rfl,q⟩:=h;obtain⟨t,rfl⟩:=rx;obtain⟨u,rfl,t',rfl⟩:=Js rv;refine call_meets F.slot_str_count (typeIs_str _ _ _) F.entry_str_count (F.args_str_count_2 _ _) (gives_str_count z y t t').meets ?_;exact⟨.int _,H,I.tok _,⟨_,rfl⟩,q⟩
theorem ZkE:∀ {xs:List V} {us:List Value},xs.length=us.length->(∀(j:Nat)(x:V)(u:Value),xs[j]? = some x->us[j]? = some u->ZI x u)->ZJ xs us
  |[],[],_,_ => .nil
  |x::xs,u::us,h,k => .cons (k 0 x u rfl rfl) (ZkE (Nat.succ.inj h) λ j y w e1 e2=>k (j+1) y w e1 e2)
noncomputable def rListD:List V->Hp->VK->Prop:=λ xs H Q=>∃(d:Addr)(kvs:List (Key×V)),xs=[.ref d]/\Rd H d (.dK kvs)/\∀ l,H l=none->Q (.ref l) (upd H l (.lst (kvs.map λ p=>kV p.1)))
theorem Zg5 {X:Cx}(hc:X.calm=true):Xt X (.type "list") rListD:=by
  intro pins s σ H xs us Q I r h;obtain⟨d,kvs,rfl,hd,q⟩:=h;obtain⟨u,rfl,rx⟩:=Js r;cases rx;obtain⟨z,lo,vs,rel,dd⟩:=Zee I.hok hd;obtain⟨ep,hat⟩:=dd.dictAt;have hln:kvs.length=vs.length:=rel.length;refine PySem.W.kdl_call (PySem.W.kdl_dict (knd:=ZR X.prog X.w) (kvs:=vs) (ep:=ep) lo) (I.ok.hd hc) hat (by omega) λ h' tk acc c' hk hS hacc=>?_;have hl:acc.toList.length=vs.length:=by rw[length_toList];exact hacc.1
  have hV:ZJ (kvs.map λ p=>kV p.1) acc.toList:=by
    refine ZkE (by rw[length_map,hln,hl]) λ j x u e1 e2=>?_;obtain⟨k,w,e3,e4⟩:=hacc.2 j u (by rw[<- getElem?_toList];exact e2);obtain⟨y,e5⟩:=ZmP rel e3;rw[getElem?_map,e5]at e1;cases e1;exact relK e4
  refine⟨.ref s.heap.objs.size,_,I.laid (t':=tk) hk (le_refl _) (show Yw X.prog X.w _ h' _ (.lst _) from⟨by rw[length_map];exact z,acc.toList,c',hV,by rw[Array.toArray_toList];exact hS⟩),rfl,q _ (I.hok.fresh (le_refl _))⟩
theorem Zk3 (z:Str):Str.empty++z=z:=by
 refine Jg ?_;show(Str.empty.cps++z.cps).toList=z.cps.toList;simp[Str.empty]
noncomputable def tFs (ta tb:TE)(sep:Str):TE:=λ σ H Q=>ta σ H λ x H1=>∃ z:Str,x = .str z/\z.length<=sizeLine/\(z++sep).length<=sizeLine/\tb σ H1 λ y H2=>∃ n:Int,y = .int n/\n.natAbs.log2<1920/\(z++sep++toString n:Str).length<=sizeLine/\Q (.str (z++sep++toString n)) H2
theorem pe_fs {X:Cx}{a b:Expr}{ta tb:TE}{sep:Str}{j}{p1 p2 p3 p4:Pos}(ha:PE X a ta)(hb:PE X b tb):PE X (.JoinedStr [.FormattedValue a (-1) none p1, .Constant (.str sep) j p2, .FormattedValue b (-1) none p3] p4) (tFs ta tb sep):=by
 refine⟨?_⟩;intro pins s σ H Q I h;refine JoinedStr_many (joinParts_cons (FormattedValue_plain (thn (ha pins s σ H _ I h) λ u s1 zz9=>?_)));obtain⟨x,H1,I1,rx,z,ex,h1,h2,q1⟩:=zz9;subst ex;obtain⟨t,rfl⟩:=rx;refine formatField_str (λ t' tk=>?_) h1;refine⟨by rw[Zk3];exact h1,?_⟩;rw[Zk3];refine joinParts_cons (Calls.Constant_str ⟨h2,?_⟩);have I2:Inv X pins σ H1 { s1 with toks:=tk+1 }:=I1.tok _;refine joinParts_cons (FormattedValue_plain (thn (hb pins _ σ H1 _ I2 q1) λ u s2 zz9=>?_));obtain⟨y,H2,I3,ry,n,ey,h3,h4,q2⟩:=zz9;subst ey;obtain⟨t2,rfl⟩:=ry;refine formatField_int_small h3 ⟨h4,joinParts_nil ?_ h4⟩;exact⟨.str _,H2,I3.tok _,⟨_,rfl⟩,q2⟩
structure Dm (P:Program)(w:World)(K:Frag)(mg:Str->Option Value)(base:Heap)(CX:CXT)(C:Addr)(k:Nat)(m:Str)(ps:List Str)(sp:Sp):Prop where
  cls:Cls K C
  ex:∃ f fd,FnOk P w K mg base CX k f fd ps sp/\Meth K C m f/\JZ K fd ps []
noncomputable def tMt (C:Addr)(m:Str)(sp:Sp)(E:XK)(ta:TE)(t:TA):TE:=λ σ H Q=>ta σ H λ x H1=>∃ a dx fs,x = .ref a/\H1 a=some (.ins C dx fs)/\fs.lookup m=none/\t σ H1 λ vs H2=>sp (x::vs) H2 Q E
theorem Zmb {C:Addr}{m:Str}{sp:Sp}{E:XK}{ta:TE}{t:TA}:ZkI C m sp [] E ta t=tMt C m sp E ta t:=by
 funext σ H Q;unfold ZkI tMt;simp only[append_nil]
theorem ZT {X:Cx}{CX:CXT}{k:Nat}{C:Addr}{m:Str}{ps:List Str}{sp:Sp}{E:XK}{o e:Expr}{es:List Expr}{apos pos:Pos}{ta:TE}{t:TA}{pl:Sem Bool}(hx:Xq CX X E)(D:Dm X.prog X.w X.K X.mg X.base CX C k m ps sp)(hr:Room k X.A)(he:PE X o ta)(ha:PA X (e::es) t)(hst:starEach (e::es) X.env=(false,eval e X.env)::starEach es X.env:=by rfl)(hpl:(backTo pos (starEach es X.env)).any (·.1)=false:=by rfl)(ht:eval (.Call (.Attribute o m apos) (e::es) [] pos) X.env=(do
      let ov <- eval o X.env
      standAt apos.atName
      let (f,first) <- holding [ov] (getMethod ov m pl)
      callWith pos f first (backTo pos (starEach (e::es) X.env)) (backToKw pos (keywordEach [] X.env))):=by rfl) :
    PE X (.Call (.Attribute o m apos) (e::es) [] pos) (tMt C m sp E ta t):=by
  obtain⟨f,fd,F,hm,hb⟩:=D.ex;rw[<- Zmb];exact ZnI (pl:=pl) he D.cls hm F hr hb .nil hx ha hst hpl ht
theorem Zmq {X:Cx}{CX:CXT}{k:Nat}{C:Addr}{m:Str}{ps:List Str}{sp:Sp}{E:XK}{o:Expr}{apos pos:Pos}{ta:TE}{pl:Sem Bool}(hx:Xq CX X E)(D:Dm X.prog X.w X.K X.mg X.base CX C k m ps sp)(hr:Room k X.A)(he:PE X o ta)(ht:eval (.Call (.Attribute o m apos) [] [] pos) X.env=(do
      let ov <- eval o X.env
      standAt apos.atName
      let (f,first) <- holding [ov] (getMethod ov m pl)
      callWith pos f first (backTo pos (starEach [] X.env)) (backToKw pos (keywordEach [] X.env))):=by rfl) :
    PE X (.Call (.Attribute o m apos) [] [] pos) (tMt C m sp E ta tNil):=by
  obtain⟨f,fd,F,hm,hb⟩:=D.ex;rw[<- Zmb];exact Zmr (pl:=pl) he D.cls hm F hr hb .nil hx ht
end
end L2
namespace L2
open PySem PySem.Spec
noncomputable def yrs (bs:List (Str×Int)):List (Key×V):=bs.map λ p=>((Sum.inr p.1:Key),V.int p.2)
noncomputable def yr (bs:List (Str×Int))(n:Str):Option Int:=(bs.find? λ p=>decide (p.1=n)).map (·.2)
noncomputable def has (bs:List (Str×Int))(n:Str):Bool:=(yr bs n).isSome
noncomputable def kid (n:Str)(i:Nat):Str:=n++dot++(toString ((i:Int)+1):Str)
noncomputable def YF (n:Str)(c:Nat):List V:=(List.range c).map λ i=>V.str (kid n i)
noncomputable def brs (ws:List (Str×Addr×Nat)):List (Key×V):=ws.map λ p=>((Sum.inr p.1:Key),V.ref p.2.1)
structure Book (C:Addr)(H:Hp)(b d1 d2 d3:Addr)(bs ds:List (Str×Int))(ws:List (Str×Addr×Nat)):Prop where
  obj:∃ dx,H b=some (.ins C dx [("births", .ref d1),("deaths", .ref d2),("broods", .ref d3)])
  h1:H d1=some (.dK (yrs bs))
  h2:H d2=some (.dK (yrs ds))
  h3:H d3=some (.dK (brs ws))
  n12:d1≠d2
  n13:d1≠d3
  n23:d2≠d3
  kids:∀ p∈ws,H p.2.1=some (.lst (YF p.1 p.2.2))
  nod:(ws.map λ p=>p.2.1).Nodup
theorem YN (bs:List (Str×Int))(n:Str):Y2 (yrs bs) (Sum.inr n:Key)=(yr bs n).map V.int:=by
  induction bs with
  |nil=>rfl
  |cons p r ih=>
    by_cases h:p.1=n
    . rw[show yrs (p::r)=((Sum.inr p.1:Key),V.int p.2)::yrs r from rfl,Zbf (by rw[h])];unfold yr;simp[find?_cons,h]
    . rw[show yrs (p::r)=((Sum.inr p.1:Key),V.int p.2)::yrs r from rfl,Zbg (by simpa using h),ih];unfold yr;simp[find?_cons,h]
theorem Zy (bs:List (Str×Int))(n:Str):(Y2 (yrs bs) (Sum.inr n:Key)).isSome=has bs n:=by
 rw[YN];unfold has;cases yr bs n <;> rfl
theorem Book.births {C:Addr}{H:Hp}{b d1 d2 d3:Addr}{bs ds:List (Str×Int)}{ws:List (Str×Addr×Nat)}(B:Book C H b d1 d2 d3 bs ds ws)(n:Str):ZY H d1 (.str n) (Y2 (yrs bs) (Sum.inr n:Key)):=ZY.k (k:=Sum.inr n) B.h1
theorem Book.deaths {C:Addr}{H:Hp}{b d1 d2 d3:Addr}{bs ds:List (Str×Int)}{ws:List (Str×Addr×Nat)}(B:Book C H b d1 d2 d3 bs ds ws)(n:Str):ZY H d2 (.str n) (Y2 (yrs ds) (Sum.inr n:Key)):=ZY.k (k:=Sum.inr n) B.h2
noncomputable def Yz (xs:List Addr)(H H':Hp):Prop:=(∀ a o,a∉xs->H a=some o->H' a=some o)/\∀ a,H' a=none->H a=none
theorem ZN {H:Hp}{a b:Addr}{o u:HO}(h:H a=some o)(h':H b=some u)(n:o≠u):a≠b:=λ e=>by
 subst e;rw[h]at h';exact n (Option.some.inj h')
theorem Book.bne {C:Addr}{H:Hp}{b d1 d2 d3:Addr}{bs ds:List (Str×Int)}{ws:List (Str×Addr×Nat)}(B:Book C H b d1 d2 d3 bs ds ws):b≠d1/\b≠d2/\b≠d3:=by
 obtain⟨dx,hb⟩:=B.obj;exact⟨ZN hb B.h1 (λ z=>by cases z),ZN hb B.h2 (λ z=>by cases z),ZN hb B.h3 (λ z=>by cases z)⟩
theorem Book.entered {C:Addr}{H:Hp}{b d1 d2 d3 l:Addr}{bs ds:List (Str×Int)}{ws:List (Str×Addr×Nat)}{n:Str}{y:Int}{o1 o3:HO}(B:Book C H b d1 d2 d3 bs ds ws)(hl:upd H d1 o1 l=none)(e1:o1 = .dK (yrs (bs++[(n,y)])))(e3:o3 = .dK (brs (ws++[(n,l,0)]))) :
    Book C (upd (upd (upd H d1 o1) l (.lst [])) d3 o3) b d1 d2 d3 (bs++[(n,y)]) ds (ws++[(n,l,0)])/\Yz [d1,d3] H (upd (upd (upd H d1 o1) l (.lst [])) d3 o3):=by
  obtain⟨nb1,nb2,nb3⟩:=B.bne;have l1:d1≠l:=λ e=>by rw[<- e,Ze]at hl;cases hl
  have hl0:H l=none:=by rw[<- hl,Zh (Ne.symm l1)]
  have l3:d3≠l:=λ e=>by rw[<- e,B.h3]at hl0;cases hl0
  have kp:∀ a o,a≠d1->a≠d3->H a=some o->upd (upd (upd H d1 o1) l (.lst [])) d3 o3 a=some o:=λ a o n1 n3 e=>by
    have nl:a≠l:=λ z=>by rw[z,hl0]at e;cases e
    rw[Zh n3,Zh nl,Zh n1];exact e
  obtain⟨dx,hb⟩:=B.obj;refine⟨⟨⟨dx,kp _ _ nb1 nb3 hb⟩,?_,kp _ _ (Ne.symm B.n12) B.n23 B.h2,?_,B.n12,B.n13,B.n23,?_,?_⟩,λ a o hn e=>kp a o (λ z=>hn (by simp[z])) (λ z=>hn (by simp[z])) e,λ a e=>?_⟩
  . rw[Zh B.n13,Zh l1,Ze,e1]
  . rw[Ze,e3]
  . intro p hp;rcases List.mem_append.mp hp with hp|hp
    . have hk:=B.kids p hp;exact kp _ _ (ZN hk B.h1 (λ z=>by cases z)) (ZN hk B.h3 (λ z=>by cases z)) hk
    . rw[List.mem_singleton.mp hp];show upd (upd (upd H d1 o1) l (.lst [])) d3 o3 l=some (.lst (YF n 0));rw[Zh (Ne.symm l3),Ze];rfl
  . rw[map_append,nodup_append];refine⟨B.nod,by simp,λ a ha c hc e=>?_⟩;rw[map_cons,map_nil,mem_singleton]at hc;obtain⟨p,hp,rfl⟩:=List.mem_map.mp ha;have hk:=B.kids p hp;rw[show p.2.1=l from e.trans hc]at hk;rw[hl0]at hk;cases hk
  . by_cases h3:a=d3
    . rw[h3,Ze]at e;cases e
    . rw[Zh h3]at e
      by_cases hL:a=l
      . rw[hL,Ze]at e;cases e
      . rw[Zh hL]at e
        by_cases h1:a=d1
        . rw[h1,Ze]at e;cases e
        . rw[Zh h1]at e;exact e
theorem Book.died {C:Addr}{H:Hp}{b d1 d2 d3:Addr}{bs ds ds':List (Str×Int)}{ws:List (Str×Addr×Nat)}(B:Book C H b d1 d2 d3 bs ds ws):Book C (upd H d2 (.dK (yrs ds'))) b d1 d2 d3 bs ds' ws/\Yz [d2] H (upd H d2 (.dK (yrs ds'))):=by
  obtain⟨nb1,nb2,nb3⟩:=B.bne;obtain⟨dx,hb⟩:=B.obj;refine⟨⟨⟨dx,by rw[Zh nb2];exact hb⟩,by rw[Zh B.n12];exact B.h1,Ze,by rw[Zh (Ne.symm B.n23)];exact B.h3,B.n12,B.n13,B.n23,λ p hp=>?_,B.nod⟩,λ a o hn e=>?_,λ a e=>?_⟩
  . have hk:=B.kids p hp;rw[Zh (ZN hk B.h2 (λ z=>by cases z))];exact hk
  . rw[Zh (λ z=>hn (by simp[z]))];exact e
  . by_cases h2:a=d2
    . rw[h2,Ze]at e;cases e
    . rw[Zh h2]at e;exact e
theorem Zcn {bs:List (Str×Int)}{n:Str}(h:has bs n=false):Y2 (yrs bs) (Sum.inr n:Key)=none:=by
  have z:=Zy bs n;rw[h]at z;cases e:Y2 (yrs bs) (Sum.inr n:Key) with
  |none=>rfl
  |some v=>rw[e]at z;cases z
theorem Zci (bs:List (Str×Int))(n:Str)(y:Int):yrs bs++[((Sum.inr n:Key),V.int y)]=yrs (bs++[(n,y)]):=by unfold yrs;rw[map_append];rfl
noncomputable def bro (ws:List (Str×Addr×Nat))(n:Str):Option (Addr×Nat):=(ws.find? λ p=>decide (p.1=n)).map (·.2)
theorem ZfP (ws:List (Str×Addr×Nat))(n:Str):Y2 (brs ws) (Sum.inr n:Key)=(bro ws n).map λ p=>V.ref p.1:=by
  induction ws with
  |nil=>rfl
  |cons p r ih=>
    by_cases h:p.1=n
    . rw[show brs (p::r)=((Sum.inr p.1:Key),V.ref p.2.1)::brs r from rfl,Zbf (by rw[h])];unfold bro;simp[find?_cons,h]
    . rw[show brs (p::r)=((Sum.inr p.1:Key),V.ref p.2.1)::brs r from rfl,Zbg (by simpa using h),ih];unfold bro;simp[find?_cons,h]
theorem ZfN {ws:List (Str×Addr×Nat)}{n:Str}{a:Addr}{c:Nat}(h:bro ws n=some (a,c)):(n,a,c)∈ws:=by
 unfold bro at h;obtain⟨p,hp,e⟩:=Option.map_eq_some_iff.mp h;have h1:=List.mem_of_find?_eq_some hp;have h2:=List.find?_some hp;rw[<- of_decide_eq_true h2,<- e];exact h1
noncomputable def bump (ws:List (Str×Addr×Nat))(n:Str):List (Str×Addr×Nat):=ws.map λ p=>if p.1=n then (p.1,p.2.1,p.2.2+1) else p
theorem ZhB (n:Str)(c:Nat):YF n c++[V.str (kid n c)]=YF n (c+1):=by
 unfold YF;rw[List.range_succ,map_append];rfl
theorem ZjV (ws:List (Str×Addr×Nat))(n:Str):brs (bump ws n)=brs ws:=by
 unfold brs bump;rw[map_map];refine map_congr_left λ p _=>?_;show((Sum.inr (if p.1=n then (p.1,p.2.1,p.2.2+1) else p).1:Key),V.ref (if p.1=n then (p.1,p.2.1,p.2.2+1) else p).2.1)=_;split <;> rfl
theorem ZjX (ws:List (Str×Addr×Nat))(n:Str):(bump ws n).map (λ p=>p.2.1)=ws.map λ p=>p.2.1:=by
 unfold bump;rw[map_map];refine map_congr_left λ p _=>?_;show(if p.1=n then (p.1,p.2.1,p.2.2+1) else p).2.1=_;split <;> rfl
theorem ZhH {ws:List (Str×Addr×Nat)}{α:Type}{f:Str×Addr×Nat->α}(h:(ws.map f).Nodup){p q:Str×Addr×Nat}(hp:p∈ws)(hq:q∈ws)(e:f p=f q):p=q:=by
  induction ws with
  |nil=>cases hp
  |cons x r ih=>
    rw[map_cons,List.nodup_cons]at h;rcases List.mem_cons.mp hp with rfl|hp' <;> rcases List.mem_cons.mp hq with rfl|hq'
    . rfl
    . exact absurd (List.mem_map.mpr ⟨q,hq',e.symm⟩) h.1
    . exact absurd (List.mem_map.mpr ⟨p,hp',e⟩) h.1
    . exact ih h.2 hp' hq'
theorem Book.grown {C:Addr}{H:Hp}{b d1 d2 d3 a:Addr}{bs ds:List (Str×Int)}{ws:List (Str×Addr×Nat)}{n:Str}{c:Nat}(B:Book C H b d1 d2 d3 bs ds ws)(hk:(ws.map λ p=>p.1).Nodup)(hw:(n,a,c)∈ws) :
    Book C (upd H a (.lst (YF n (c+1)))) b d1 d2 d3 bs ds (bump ws n):=by
  obtain⟨dx,hb⟩:=B.obj;have ha:H a=some (.lst (YF n c)):=B.kids _ hw;refine⟨⟨dx,by rw[Zh (ZN hb ha (λ z=>by cases z))];exact hb⟩,by rw[Zh (ZN B.h1 ha (λ z=>by cases z))];exact B.h1,by rw[Zh (ZN B.h2 ha (λ z=>by cases z))];exact B.h2,by rw[Zh (ZN B.h3 ha (λ z=>by cases z)),ZjV];exact B.h3,B.n12,B.n13,B.n23,λ p hp=>?_,by rw[ZjX];exact B.nod⟩;obtain⟨q,hq,rfl⟩:=List.mem_map.mp hp
  by_cases e:q.1=n
  . have z:q=(n,a,c):=ZhH hk hq hw e;subst z;rw[if_pos rfl];exact Ze
  . rw[if_neg e];have na:q.2.1≠a:=λ z=>e (by rw[ZhH B.nod hq hw z]);rw[Zh na];exact B.kids q hq
end L2
namespace L2
open PySem PySem.Spec
theorem Inv.thaw {X:Cx}{pins:List (Addr×Obj)}{σ:St}{H:Hp}{s:Shared}{d:Addr}{o:Obj}{u:HO}(I:Inv X pins σ H s)(h:H d=some (.frz o u))(hn:∀ o' u',X.H₀ d≠some (.frz o' u')):Inv X pins σ (upd H d u) s:=by
  have nn:∀ b,H b=none->b≠d:=λ b e z=>by rw[z,h]at e;cases e
  have kp:∀ b,b≠d->upd H d u b=H b:=λ b z=>Zh z;have nt:∀ b xs,H b=some (.tup xs)->b≠d:=λ b xs e z=>by rw[z,h]at e;cases e
  have no:∀ b a,H b=some (.own a)->b≠d:=λ b a e z=>by rw[z,h]at e;cases e
  refine⟨I.ok,I.os,I.bare,⟨I.base.keep,I.base.slot,λ b ob q n hx=>?_,I.base.there,λ b xs q=>?_,λ b ob v q=>?_,λ b ps q=>?_⟩,I.loc,I.cell,?_,λ x c e=>?_,λ p hp=>?_,λ a ob e=>?_,I.len⟩
  . have z:=I.base.free b ob q n hx;rw[kp b (nn b z)];exact z
  . have z:=I.base.tups b xs q;rw[kp b (nt b xs z)];exact z
  . have z:=I.base.frzs b ob v q;rw[kp b (λ e=>hn ob v (by rw[<- e];exact q))];exact z
  . obtain⟨more,z⟩:=I.base.tbls b ps q;exact⟨more,by rw[kp b (λ e=>by rw[e,h]at z;cases z)];exact z⟩
  . rw[kp _ (nn _ I.free)];exact I.free
  . have z:=I.freeC x c e;rw[kp _ (nn _ z)];exact z
  . obtain⟨z1,z2,z3⟩:=I.pin p hp;exact⟨z1,by rw[kp _ (nn _ z2)];exact z2,z3⟩
  . by_cases ha:a=d
    . subst ha;rw[Ze]at e;cases e;obtain⟨_,q⟩:=(show Yw X.prog X.w H s.heap a (.frz o u) from I.hok a _ h);exact q.stay (λ _ _ _ q=>q) (λ b e=>by rw[kp b (no b _ e)];exact e) λ b xs e=>by rw[kp b (nt b xs e)];exact e
    . rw[kp a ha]at e;exact(I.hok a ob e).stay (λ _ _ _ q=>q) (λ b e=>by rw[kp b (no b _ e)];exact e) λ b xs e=>by rw[kp b (nt b xs e)];exact e
noncomputable def tThaw (d:Addr)(kvs:List (Key×V))(t:TE):TE:=λ σ H Q=>H d=some (.dK kvs)/\t σ H λ v H2=>∃ o,H2 d=some (.frz o (.dK kvs))/\Q v (upd H2 d (.dK kvs))
theorem ZkM {X:Cx}{e:Expr}{t:TE}{d:Addr}{kvs:List (Key×V)}(he:PE X e t):PE X e (tThaw d kvs t):=by
  refine⟨?_⟩;rintro pins s σ H Q I ⟨hd,h⟩;have hn:∀ o' u',X.H₀ d≠some (.frz o' u'):=λ o' u' z=>by
    have q:=I.base.frzs d o' u' z;rw[hd]at q;cases q
  exact thn (he pins s σ H _ I h) λ u s' ⟨v,H2,I2,r,o,h2,q⟩=>⟨v,_,I2.thaw h2 hn,r,q⟩
end L2
namespace L2
open PySem PySem.Spec
structure Mdl (H:Hp)(m c e1 e2 e3:Addr)(y:Int)(bs ds cs:List (Str×Int)):Prop where
  tup:H m=some (.tup [.ref c, .ref e1, .ref e2, .ref e3])
  clk:H c=some (.lst [.int y])
  h1:H e1=some (.dK (yrs bs))
  h2:H e2=some (.dK (yrs ds))
  h3:H e3=some (.dK (yrs cs))
  n12:e1≠e2
  n13:e1≠e3
  n23:e2≠e3
theorem Mdl.keep {H H':Hp}{m c e1 e2 e3:Addr}{y:Int}{bs ds cs:List (Str×Int)}(M:Mdl H m c e1 e2 e3 y bs ds cs)(s:Zj H H'):Mdl H' m c e1 e2 e3 y bs ds cs:=
 ⟨s _ _ M.tup,s _ _ M.clk,s _ _ M.h1,s _ _ M.h2,s _ _ M.h3,M.n12,M.n13,M.n23⟩
end L2
namespace L2
open PySem PySem.Spec PyProof.Rows PySem.StrLaws
theorem Znh {a b s t:List Nat}(h:a++46::s=b++46::t)(hs:46∉s)(ht:46∉t):a=b/\s=t:=by
  rcases List.append_eq_append_iff.mp h with ⟨c,e1,e2⟩|⟨c,e1,e2⟩
  . cases c with
    |nil=>simp at e1 e2;exact⟨e1.symm,e2⟩
    |cons x r=>
      simp at e2;exact absurd (show 46∈s by rw[e2.2];simp) hs
  . cases c with
    |nil=>simp at e1 e2;exact⟨e1,e2.symm⟩
    |cons x r=>
      simp at e2;exact absurd (show 46∈t by rw[e2.2];simp) ht
theorem ZhJ:dot.cps.toList=[46]:=by rw[Zdm]
theorem Xi (a b:Str):(a++b).cps.toList=a.cps.toList++b.cps.toList:=cps_toList_append a b
theorem YO (a b:Str):(a++b).length=a.length+b.length:=by
 show(a.cps++b.cps).size=_;rw[Array.size_append];rfl
theorem ZiS {a b s t:Str}(h:a++dot++s=b++dot++t)(hs:46∉s.cps.toList)(ht:46∉t.cps.toList):a=b/\s=t:=by
 have z:=congrArg (λ x:Str=>x.cps.toList) h;simp only[Xi,ZhJ]at z;rw[append_assoc,append_assoc]at z;obtain⟨e1,e2⟩:=Znh z hs ht;exact⟨Jg e1,Jg e2⟩
noncomputable abbrev ts (i:Nat):Str:=(toString ((i:Nat):Int):Str)
theorem Zck (i:Int):46∉(toString i:Str).cps.toList:=int_text_free' 46 ⟨by decide,by decide⟩ i
theorem ts_inj {i j:Int}(h0:0<=i)(h1:i<10 ^ 10)(g0:0<=j)(g1:j<10 ^ 10)(h:(toString i:Str)=(toString j:Str)):i=j:=by
 have a:=PySem.W.KIN.num_reads h0 h1;have b:=PySem.W.KIN.num_reads g0 g1;rw[show PySem.Str.ofString (toString i)=PySem.Str.ofString (toString j) from h,b]at a;exact(Option.some.inj a).symm
theorem ZkV {n m:Str}{i j:Nat}(hi:i<10 ^ 9)(hj:j<10 ^ 9)(h:kid n i=kid m j):n=m/\i=j:=by
 obtain⟨e1,e2⟩:=ZiS h (Zck _) (Zck _);exact⟨e1,by have:=ts_inj (by omega) (by omega) (by omega) (by omega) e2;omega⟩
theorem Zkp {n m:Str}{i j:Nat}(h:kid n i=kid m j):n=m:=(ZiS h (Zck _) (Zck _)).1
theorem Jp (s:Str):∀(l:List Str)(_:l≠[]),Str.join dot (l++[s])=Str.join dot l++dot++s
  |[a],_=>rfl
  | a::b::r,_=>by
    show a++dot++Str.join dot ((b::r)++[s])=(a++dot++Str.join dot (b::r))++dot++s;rw[Jp s (b::r) (by simp)];refine Jg ?_;simp only[Xi,append_assoc]
theorem ZgO:∀(l m:List Str),l≠[]->m≠[]->(∀ p∈l,46∉p.cps.toList)->(∀ p∈m,46∉p.cps.toList)->Str.join dot l=Str.join dot m->l=m:=by
  have key:∀(n:Nat)(l m:List Str),l.length=n->l≠[]->m≠[]->(∀ p∈l,46∉p.cps.toList)->(∀ p∈m,46∉p.cps.toList)->Str.join dot l=Str.join dot m->l=m:=by
    intro n
    induction n with
    |zero=>intro l m h hl;exact absurd (List.length_eq_zero_iff.mp h) hl
    |succ n ih=>
      intro l m h hl hm fl fm e;rcases eq_nil_or_concat l with rfl|⟨l',a,rfl⟩
      . exact absurd rfl hl
      rcases eq_nil_or_concat m with rfl|⟨m',b,rfl⟩
      . exact absurd rfl hm
      simp only[List.concat_eq_append]at h hl hm fl fm e ⊢;have noDot:∀ x:Str,46∉x.cps.toList->∀(k:List Str)(y:Str),k≠[]->x≠Str.join dot (k++[y]):=λ x hx k y hk z=>by
        apply hx;rw[z,Jp y k hk,Xi,Xi,ZhJ];simp
      by_cases h1:l'=[]
      . subst h1
        by_cases h2:m'=[]
        . subst h2;have:a=b:=e;rw[this]
        . exact absurd e (noDot a (fl a (by simp)) m' b h2)
      . by_cases h2:m'=[]
        . subst h2;exact absurd e.symm (noDot b (fm b (by simp)) l' a h1)
        . rw[Jp a l' h1,Jp b m' h2]at e;obtain⟨e1,e2⟩:=ZiS e (fl a (by simp)) (fm b (by simp));rw[e2,ih l' m' (by simp at h;omega) h1 h2 (λ p hp=>fl p (by simp[hp])) (λ p hp=>fm p (by simp[hp])) e1]
  exact λ l m=>key l.length l m rfl
theorem JE {x p:Str}(h:p∈pcs x):46∉p.cps.toList:=split_free x 46 p (by have z:p∈Txt.split x dot:=h;rw[Zdm]at z;exact z)
theorem YX (x:Str):Str.join dot (pcs x)=x:=join_split x dot
theorem Zdg (x:Str):pcs x≠[]:=by rw[Xy];simp
theorem Zik (n:Str)(i:Nat):pcs (kid n i)=pcs n++[(toString ((i:Int)+1):Str)]:=by
  refine ZgO _ _ (Zdg _) (by simp) (λ p hp=>JE hp) (λ p hp=>?_) ?_
  . rcases List.mem_append.mp hp with h|h
    . exact JE h
    . rw[List.mem_singleton.mp h];exact Zck _
  . rw[YX,Jp _ _ (Zdg n),YX];rfl
theorem ZkO {x:Str}(h:46∉x.cps.toList):pcs x=[x]:=by
  refine ZgO _ _ (Zdg _) (by simp) (λ p hp=>JE hp) (λ p hp=>?_) ?_
  . rw[List.mem_singleton.mp hp];exact h
  . rw[YX];rfl
theorem ZfK {x:Str}(h:gw x=true):46∉x.cps.toList:=λ hm=>by
 unfold gw at h;simp only[and_eq_true]at h;have z:=List.all_eq_true.mp h.1.2 46 hm;revert z
 decide
theorem ZiL {x:Str}(h:gw x=true):1<=x.length/\x.length<=8:=by
 unfold gw at h;simp only[and_eq_true,decide_eq_true_eq]at h;exact⟨h.1.1.1,h.1.1.2⟩
theorem ZkW (n:Str)(i:Nat):46∈(kid n i).cps.toList:=by
 unfold kid;rw[Xi,Xi,ZhJ];simp
theorem ZiM {x n:Str}{i:Nat}(h:gw x=true):x≠kid n i:=λ e=>ZfK h (e▸ZkW n i)
theorem Zl5 (n:Str)(i:Nat):wd (kid n i)=wd n:=by
  unfold wd;rw[Zik];cases e:pcs n with
  |nil=>exact absurd e (Zdg n)
  |cons a r=>rfl
theorem Zco (n:Str)(i:Nat):nms (kid n i)=nms n++[(toString ((i:Int)+1):Str)]:=by
  unfold nms;rw[Zik];cases e:pcs n with
  |nil=>exact absurd e (Zdg n)
  |cons a r=>rfl
theorem wd_gw {x:Str}(h:gw x=true):wd x=x:=by unfold wd;rw[ZkO (ZfK h)];rfl
theorem Zkj {x:Str}(h:gw x=true):nms x=[]:=by unfold nms;rw[ZkO (ZfK h)];rfl
theorem Zif {x:Str}(h:gw x=true):pok x=true:=by
 unfold pok;rw[wd_gw h,Zkj h,h];rfl
theorem gn_tab:∀ k∈List.range 99,gn (ts (k+1))=true/\(ts (k+1)).length<=2:=by decide +kernel
theorem gn_ts {i:Nat}(h:i<99):gn (toString ((i:Int)+1):Str)=true/\(toString ((i:Int)+1):Str).length<=2:=gn_tab i (List.mem_range.mpr h)
noncomputable def Yl (x:Str):Nat:=(Builtin.Str.occurrences x dot 0 x.length (x.length+1)).length
theorem Znc (x:Str):(Yl x:Int)=cnt 46 x.cps.toList:=by
 have h:=count_is x 46;unfold Yl;rw[Zdm];exact h
theorem Y5 (x:Str):Yl x=(nms x).length:=by
 have h:=cnt_join dot 46 (by rw[ZhJ];rfl) (pcs x) (λ t ht=>JE ht);rw[YX,<- Znc,Xy]at h;simp at h;omega
theorem Zed (n:Str)(i:Nat):Yl (kid n i)=Yl n+1:=by rw[Y5,Y5,Zco];simp
theorem Zn0 {x:Str}(h:gw x=true):Yl x=0:=by rw[Y5,Zkj h];rfl
theorem ZfG {n:Str}{i:Nat}(h:pok n=true)(hd:Yl n<5)(hi:i<99):pok (kid n i)=true:=by
 unfold pok at h ⊢;simp only[and_eq_true,decide_eq_true_eq]at h ⊢;rw[Zl5,Zco];rw[Y5]at hd;refine⟨⟨h.1.1,by simp;omega⟩,?_⟩;rw[all_append,h.2];have z:=(gn_ts hi).1;simp only[List.all_cons,List.all_nil,Bool.and_true,Bool.true_and];exact z
theorem ZmU (B:Nat)(n:Nat):∀(l:List Str),l.length=n->l≠[]->(∀ p∈l.tail,p.length<=B)->(Str.join dot l).length+B+1<=(l.headD Str.empty).length+l.length * (B+1):=by
  induction n with
  |zero=>intro l h hl;exact absurd (List.length_eq_zero_iff.mp h) hl
  |succ n ih=>
    intro l hn hl hB;rcases eq_nil_or_concat l with rfl|⟨l,s,rfl⟩
    . exact absurd rfl hl
    simp only[List.concat_eq_append]at hn hl hB ⊢
    by_cases h:l=[]
    . subst h;show s.length+B+1<=s.length+1 * (B+1);omega
    . have z:=ih l (by simp at hn;omega) h (λ p hp=>hB p (by cases l with|nil=>exact absurd rfl h|cons a r=>simp at hp ⊢;exact .inl hp));have zs:s.length<=B:=hB s (by cases l with|nil=>exact absurd rfl h|cons a r=>simp);rw[Jp s l h,YO,YO];have hd:(l++[s]).headD Str.empty=l.headD Str.empty:=by cases l with|nil=>exact absurd rfl h|cons a r=>rfl
      have d1:dot.length=1:=by rw[Zdm];rfl
      rw[hd,d1,length_append,length_singleton,Nat.add_mul];omega
theorem Yx {x:Str}(h:pok x=true):x.length<=23:=by
  unfold pok at h;simp only[and_eq_true,decide_eq_true_eq]at h;have hl:=ZmU 2 _ (pcs x) rfl (Zdg x) (λ p hp=>by
    have z:=List.all_eq_true.mp h.2 p hp;unfold gn at z;simp only[and_eq_true,decide_eq_true_eq]at z;exact z.1.1.2)
  rw[YX]at hl;have hw:=(ZiL h.1.1).2;have e:(pcs x).headD Str.empty=wd x:=by rw[Xy];rfl
  have e2:(pcs x).length=(nms x).length+1:=by rw[Xy];simp
  rw[e,e2]at hl;omega
end L2
namespace L2
open PySem PySem.Spec PyProof.Rows
theorem Zek (bs:List (Str×Int))(m:Str)(y:Int)(n:Str):yr (bs++[(m,y)]) n=(yr bs n).or (if m=n then some y else none):=by
  unfold yr;rw[List.find?_append];cases e:bs.find? (λ p=>decide (p.1=n)) with
  |some p=>rfl
  |none=>
    by_cases h:m=n
    . simp[h,find?_cons]
    . simp[h,find?_cons]
theorem ZV (bs:List (Str×Int))(m:Str)(y:Int)(n:Str):has (bs++[(m,y)]) n=(has bs n || decide (m=n)):=by
  unfold has;rw[Zek];cases yr bs n with
  |some v=>rfl
  |none=>by_cases h:m=n <;> simp[h]
theorem ZaQ (bs:List (Str×Int))(n:Str):has bs n=true↔n∈bs.map (·.1):=by
  unfold has yr;rw[isSome_map,List.find?_isSome,mem_map];constructor
  . rintro⟨p,hp,e⟩;exact⟨p,hp,of_decide_eq_true e⟩
  . rintro⟨p,hp,e⟩;exact⟨p,hp,decide_eq_true e⟩
theorem ZiK (bs:List (Str×Int))(n:Str):has bs n=false↔n∉bs.map (·.1):=by
 rw[<- ZaQ];cases has bs n <;> simp
theorem ZnW (n:Str):has [] n=false:=rfl
noncomputable def nk (bs:List (Str×Int))(n:Str):Nat:=(List.range 1000).findIdx λ i => !has bs (kid n i)
theorem ZmD {bs:List (Str×Int)}{n:Str}{k:Nat}(hk:k<1000)(h1:∀ i,i<k->has bs (kid n i)=true)(h2:has bs (kid n k)=false):nk bs n=k:=by
  unfold nk;refine(List.findIdx_eq (by rw[length_range];exact hk)).mpr ⟨?_,λ j hj=>?_⟩
  . rw[List.getElem_range,h2];rfl
  . rw[List.getElem_range,h1 j hj];rfl
theorem ZjH {bs bs':List (Str×Int)}{n:Str}(h:∀ i,has bs (kid n i)=has bs' (kid n i)):nk bs n=nk bs' n:=by
 unfold nk;congr 1;funext i;rw[h i]
structure Wf (bs ds:List (Str×Int)):Prop where
  nod:(bs.map (·.1)).Nodup
  sub:∀ n,has ds n=true->has bs n=true
  wrt:∀ n,has bs n=true->pok n=true
  par:∀ n i,has bs (kid n i)=true->has bs n=true
  cnt:∀ n i,i<1000->(has bs (kid n i)=true↔i<nk bs n)
  lim:bs.length<1000
  few:∀ n,nk bs n<=bs.length
theorem Wf.nil:Wf [] [] where
 nod:=by simp
 sub:=λ n h=>by cases h
 wrt:=λ n h=>by cases h
 par:=λ n i h=>by cases h
 cnt:=λ n i _=>by rw[ZmD (k:=0) (by decide) (λ i h=>by omega) rfl];simp[ZnW]
 lim:=by decide
 few:=λ n=>by rw[ZmD (k:=0) (by decide) (λ i h=>by omega) rfl];exact zero_le _
theorem Wf.no_kid {bs ds:List (Str×Int)}(W:Wf bs ds)(n:Str):has bs (kid n (nk bs n))=false:=by
  cases e:has bs (kid n (nk bs n)) with
  |false=>rfl
  |true=>exact absurd ((W.cnt n _ (by have:=W.few n;have:=W.lim;omega)).mp e) (lt_irrefl _)
theorem Wf.nk_none {bs ds:List (Str×Int)}(W:Wf bs ds){n:Str}(h:has bs n=false):nk bs n=0:=by
  cases e:nk bs n with
  |zero=>rfl
  |succ k=>
    have z:=W.par n 0 ((W.cnt n 0 (by omega)).mpr (by omega));rw[h]at z;cases z
theorem Zd9 {bs:List (Str×Int)}{w:Str}{y:Int}(hw:gw w=true)(n:Str):nk (bs++[(w,y)]) n=nk bs n:=ZjH λ i=>by
 rw[ZV,decide_eq_false (ZiM hw),Bool.or_false]
theorem ZiA {bs:List (Str×Int)}{m:Str}{y:Int}(h:(bs.map (·.1)).Nodup)(hm:has bs m=false):((bs++[(m,y)]).map (·.1)).Nodup:=by
 rw[map_append,nodup_append];refine⟨h,by simp,λ a ha b hb e=>?_⟩;rw[map_cons,map_nil,mem_singleton]at hb;have hb':b=m:=hb;exact(ZiK bs m).mp hm (by rw[<- hb',<- e];exact ha)
theorem Wf.arrive {bs ds:List (Str×Int)}{w:Str}{y:Int}(W:Wf bs ds)(hw:gw w=true)(h:has bs w=false)(hl:bs.length<900):Wf (bs++[(w,y)]) ds where
  nod:=ZiA W.nod h
  sub:=λ n hn=>by rw[ZV,W.sub n hn];rfl
  wrt:=λ n hn=>by
    rw[ZV,or_eq_true]at hn;rcases hn with e|e
    . exact W.wrt n e
    . rw[<- of_decide_eq_true e];exact Zif hw
  par:=λ n i hn=>by
    rw[ZV,decide_eq_false (ZiM hw),Bool.or_false]at hn;rw[ZV,W.par n i hn];rfl
  cnt:=λ n i hi=>by rw[Zd9 hw,ZV,decide_eq_false (ZiM hw),Bool.or_false];exact W.cnt n i hi
  lim:=by rw[length_append,length_singleton];omega
  few:=λ n=>by rw[Zd9 hw,length_append];have:=W.few n;omega
theorem ZmR {n m:Str}{i j:Nat}(h:n≠m):kid n i≠kid m j:=λ e=>h (Zkp e)
theorem Zcp {bs ds:List (Str×Int)}(W:Wf bs ds){n:Str}{y:Int}(hl:bs.length<900)(m:Str):nk (bs++[(kid n (nk bs n),y)]) m=if m=n then nk bs n+1 else nk bs m:=by
  have hf:=W.few n
  by_cases h:m=n
  . subst h;rw[if_pos rfl];refine ZmD (by omega) (λ i hi=>?_) ?_
    . rw[ZV]
      by_cases e:i<nk bs m
      . rw[(W.cnt m i (by omega)).mpr e];rfl
      . rw[show i=nk bs m by omega];simp
    . rw[ZV];have z:has bs (kid m (nk bs m+1))=false:=by
        cases e:has bs (kid m (nk bs m+1)) with
        |false=>rfl
        |true=>have:=(W.cnt m _ (by omega)).mp e;omega
      rw[z,decide_eq_false (λ e=>by have:=(ZkV (by omega) (by omega) e).2;omega)];rfl
  . rw[if_neg h];exact ZjH λ i=>by rw[ZV,decide_eq_false (ZmR (Ne.symm h)),Bool.or_false]
theorem Wf.birth {bs ds:List (Str×Int)}{n:Str}{y:Int}(W:Wf bs ds)(hn:has bs n=true)(hd:Yl n<5)(hl:bs.length<900)(h99:nk bs n<99):Wf (bs++[(kid n (nk bs n),y)]) ds where
  nod:=ZiA W.nod (W.no_kid n)
  sub:=λ m h=>by rw[ZV,W.sub m h];rfl
  wrt:=λ m h=>by
    rw[ZV,or_eq_true]at h;rcases h with e|e
    . exact W.wrt m e
    . rw[<- of_decide_eq_true e];exact ZfG (W.wrt n hn) hd h99
  par:=λ m i h=>by
    rw[ZV,or_eq_true]at h;rcases h with e|e
    . rw[ZV,W.par m i e];rfl
    . rw[<- Zkp (of_decide_eq_true e),ZV,hn];rfl
  cnt:=λ m i hi=>by
    rw[Zcp W hl,ZV]
    by_cases h:m=n
    . subst h;rw[if_pos rfl]
      by_cases e:i=nk bs m
      . subst e;simp
      . have hf:=W.few m;rw[decide_eq_false (λ z=>e (ZkV (by omega) (by omega) z).2.symm),Bool.or_false,W.cnt m i hi];omega
    . rw[if_neg h,decide_eq_false (ZmR (Ne.symm h)),Bool.or_false];exact W.cnt m i hi
  lim:=by rw[length_append,length_singleton];omega
  few:=λ m=>by
    rw[Zcp W hl,length_append,length_singleton];have a:=W.few m;have b:=W.few n;split <;> omega
theorem Wf.death {bs ds:List (Str×Int)}{n:Str}{y:Int}(W:Wf bs ds)(hn:has bs n=true):Wf bs (ds++[(n,y)]) where
  nod:=W.nod
  sub:=λ m h=>by
    rw[ZV,or_eq_true]at h;rcases h with e|e
    . exact W.sub m e
    . rw[<- of_decide_eq_true e];exact hn
  wrt:=W.wrt
  par:=W.par
  cnt:=W.cnt
  lim:=W.lim
  few:=W.few
theorem Zj.kp {H H':Hp}(s:Zj H H'):Yz [] H H':=⟨λ a o _ e=>s a o e,λ a e=>s.free e⟩
theorem Yz.tr {X Y:List Addr}{H1 H2 H3:Hp}(k:Yz X H1 H2)(q:Yz Y H2 H3)(h:∀ a∈Y,a∈X\/H1 a=none):Yz X H1 H3:=
 ⟨λ a o hn e=>q.1 a o (λ hy=>(h a hy).elim hn λ z=>by rw[z]at e;cases e) (k.1 a o hn e),λ a e=>k.2 a (q.2 a e)⟩
theorem Zj.keep {Y:List Addr}{H1 H2 H3:Hp}(k:Zj H1 H2)(q:Yz Y H2 H3)(h:∀ a∈Y,H1 a=none):Zj H1 H3:=λ b o e=>(k.kp.tr q (λ a ha => .inr (h a ha))).1 b o (λ h=>nomatch h) e
noncomputable def Zdv (H:Hp)(R R':List Addr):Prop:=∀ a∈R',a∈R\/H a=none
theorem Zdv.refl (H:Hp)(R:List Addr):Zdv H R R:=λ _ h => .inl h
noncomputable def ZjY (H:Hp)(R:List Addr):Prop:=∀ a∈R,∃ o,H a=some o
noncomputable def Dj (R S:List Addr):Prop:=∀ a∈R,a∉S
theorem Dj.symm {R S:List Addr}(h:Dj R S):Dj S R:=λ a ha hb=>h a hb ha
theorem Dj.grow {H:Hp}{R S S':List Addr}(h:Dj R S)(l:ZjY H R)(g:Zdv H S S'):Dj R S':=λ a ha hb=>(g a hb).elim (h a ha) λ z=>by
 obtain⟨o,e⟩:=l a ha;rw[z]at e;cases e
theorem ZjY.dj {H:Hp}{R S:List Addr}(l:ZjY H R)(h:∀ a∈S,H a=none):Dj R S:=λ a ha hb=>by
 obtain⟨o,e⟩:=l a ha;rw[h a hb]at e;cases e
noncomputable def Zb3 (b d1 d2 d3:Addr)(ws:List (Str×Addr×Nat)):List Addr:=b::d1::d2::d3::ws.map (·.2.1)
structure LivesAt (C:Addr)(H:Hp)(b:Addr)(bs ds:List (Str×Int))(R:List Addr):Prop where
  ex:∃ d1 d2 d3 ws,Book C H b d1 d2 d3 bs ds ws/\ws.map (·.1)=bs.map (·.1)/\(∀ p∈ws,p.2.2=nk bs p.1)/\R=Zb3 b d1 d2 d3 ws
  wf:Wf bs ds
theorem LivesAt.live {C:Addr}{H:Hp}{b:Addr}{bs ds:List (Str×Int)}{R:List Addr}(L:LivesAt C H b bs ds R):ZjY H R:=by
  obtain⟨d1,d2,d3,ws,B,_,_,rfl⟩:=L.ex;obtain⟨dx,hb⟩:=B.obj;intro a ha;rcases List.mem_cons.mp ha with rfl|ha
  . exact⟨_,hb⟩
  rcases List.mem_cons.mp ha with rfl|ha
  . exact⟨_,B.h1⟩
  rcases List.mem_cons.mp ha with rfl|ha
  . exact⟨_,B.h2⟩
  rcases List.mem_cons.mp ha with rfl|ha
  . exact⟨_,B.h3⟩
  obtain⟨p,hp,rfl⟩:=List.mem_map.mp ha;exact⟨_,B.kids p hp⟩
theorem LivesAt.mv {C:Addr}{H H':Hp}{b:Addr}{bs ds:List (Str×Int)}{R:List Addr}(L:LivesAt C H b bs ds R)(h:∀ a∈R,∀ o,H a=some o->H' a=some o):LivesAt C H' b bs ds R:=by
  obtain⟨d1,d2,d3,ws,B,k1,k2,rfl⟩:=L.ex;obtain⟨dx,hb⟩:=B.obj;refine⟨⟨d1,d2,d3,ws,⟨⟨dx,h _ ?_ _ hb⟩,h _ ?_ _ B.h1,h _ ?_ _ B.h2,h _ ?_ _ B.h3,B.n12,B.n13,B.n23,λ p hp=>h _ ?_ _ (B.kids p hp),B.nod⟩,k1,k2,rfl⟩,L.wf⟩
  all_goals unfold Zb3
  . simp
  . simp
  . simp
  . simp
  . exact mem_cons_of_mem _ (mem_cons_of_mem _ (mem_cons_of_mem _ (mem_cons_of_mem _ (List.mem_map.mpr ⟨p,hp,rfl⟩))))
theorem LivesAt.same {C:Addr}{H H':Hp}{b:Addr}{bs ds:List (Str×Int)}{R:List Addr}(L:LivesAt C H b bs ds R)(s:Zj H H'):LivesAt C H' b bs ds R:=L.mv λ a _ o e=>s a o e
noncomputable def Jf (m c e1 e2 e3:Addr):List Addr:=[m,c,e1,e2,e3]
structure MdlAt (H:Hp)(m:Addr)(y:Int)(bs ds cs:List (Str×Int))(R:List Addr):Prop where
  ex:∃ c e1 e2 e3,Mdl H m c e1 e2 e3 y bs ds cs/\R=Jf m c e1 e2 e3
theorem MdlAt.live {H:Hp}{m:Addr}{y:Int}{bs ds cs:List (Str×Int)}{R:List Addr}(L:MdlAt H m y bs ds cs R):ZjY H R:=by
  obtain⟨c,e1,e2,e3,B,rfl⟩:=L.ex;intro a ha;rcases List.mem_cons.mp ha with rfl|ha
  . exact⟨_,B.tup⟩
  rcases List.mem_cons.mp ha with rfl|ha
  . exact⟨_,B.clk⟩
  rcases List.mem_cons.mp ha with rfl|ha
  . exact⟨_,B.h1⟩
  rcases List.mem_cons.mp ha with rfl|ha
  . exact⟨_,B.h2⟩
  rw[List.mem_singleton.mp ha];exact⟨_,B.h3⟩
theorem MdlAt.mv {H H':Hp}{m:Addr}{y:Int}{bs ds cs:List (Str×Int)}{R:List Addr}(L:MdlAt H m y bs ds cs R)(h:∀ a∈R,∀ o,H a=some o->H' a=some o):MdlAt H' m y bs ds cs R:=by
 obtain⟨c,e1,e2,e3,B,rfl⟩:=L.ex;exact⟨c,e1,e2,e3,⟨h _ (by simp[Jf]) _ B.tup,h _ (by simp[Jf]) _ B.clk,h _ (by simp[Jf]) _ B.h1,h _ (by simp[Jf]) _ B.h2,h _ (by simp[Jf]) _ B.h3,B.n12,B.n13,B.n23⟩,rfl⟩
theorem MdlAt.same {H H':Hp}{m:Addr}{y:Int}{bs ds cs:List (Str×Int)}{R:List Addr}(L:MdlAt H m y bs ds cs R)(s:Zj H H'):MdlAt H' m y bs ds cs R:=L.mv λ a _ o e=>s a o e
theorem MdlAt.keep {H H':Hp}{m:Addr}{y:Int}{bs ds cs:List (Str×Int)}{R X:List Addr}(L:MdlAt H m y bs ds cs R)(k:Yz X H H')(d:Dj R X):MdlAt H' m y bs ds cs R:=L.mv λ a ha o e=>k.1 a o (d a ha) e
end L2
namespace L2
open PySem PySem.Spec
set_option genInjectivity false in
set_option genSizeOfSpec false in
structure Ga where
  LandError:Addr:=0
  NoText:Addr:=0
  OutOfBound:Addr:=0
  Taken:Addr:=0
  NoPerson:Addr:=0
  Gone:Addr:=0
  TooDeep:Addr:=0
  Lives:Addr:=0
  World:Addr:=0
  BARRED:Addr:=0
  ABOUT_PEOPLE:Addr:=0
  LONGEST_WORD:Tok:=0
  LONGEST_NUMBER:Tok:=0
  MOST_NUMBERS:Tok:=0
  LAST_FIRST_YEAR:Tok:=0
  MOST_YEARS:Tok:=0
  OLDEST:Tok:=0
  MET:Tok:=0
  FAILED:Tok:=0
  HANGS:Tok:=0
  LATE:Tok:=0
  SURE:Tok:=0
theorem Xa {X:Cx}:Xq (CXR X.prog X.w X.base) X (λ _ _ _=>False):=λ _ _ _ _ _ _ _ h=>by
 obtain⟨_,_,_,_,_,_,_,_,_,_,_,_,_,_,q⟩:=h;exact q.elim
structure Dk (P:Program)(w:World)(K:Frag)(mg:Str->Option Value)(base:Heap)(CX:CXT)(C:Addr)(k:Nat)(x:Str)(ps:List Str)(sp:Sp):Prop where
  mgx:mg x=some (.ref C)
  ex:∃ f fd,FnOk P w K mg base CX k f fd ps sp/\Mk K C f/\JZ K fd ps []
noncomputable def tMk (C:Addr)(sp:Sp)(E:XK)(t:TA):TE:=λ σ H Q=>t σ H λ vs H1=>∀ x dx,H1 x=none->H1 dx=none->dx≠x ->
 sp (.ref x::vs) (upd (upd H1 dx (.own x)) x (.ins C dx [])) (λ v H2=>v = .non/\Q (.ref x) H2) E
theorem Zmc {C:Addr}{sp:Sp}{E:XK}{t:TA}:ZkJ C sp [] E t=tMk C sp E t:=by
 funext σ H Q;unfold ZkJ tMk;simp only[append_nil]
theorem pe_mk {X:Cx}{CX:CXT}{k:Nat}{C:Addr}{x:Str}{ps:List Str}{sp:Sp}{E:XK}{e:Expr}{es:List Expr}{p pos:Pos}{t:TA}(hx:Xq CX X E)(D:Dk X.prog X.w X.K X.mg X.base CX C k x ps sp)(hr:Room (k+1) X.A)(hg:Gl X x)(ha:PA X (e::es) t)(hdb:(x == ("__debug__":Str))=false:=by decide)(he:starEach (e::es) X.env=(false,eval e X.env)::starEach es X.env:=by rfl)(hpl:(backTo pos (starEach es X.env)).any (·.1)=false:=by rfl) :
    PE X (.Call (.Name x p) (e::es) [] pos) (tMk C sp E t):=by
  obtain⟨f,fd,F,M,hb⟩:=D.ex;rw[<- Zmc];exact ZnJ M F hr hg D.mgx hb .nil hx ha hdb he hpl
theorem pe_mk0 {X:Cx}{CX:CXT}{k:Nat}{C:Addr}{x:Str}{ps:List Str}{sp:Sp}{E:XK}{p pos:Pos}(hx:Xq CX X E)(D:Dk X.prog X.w X.K X.mg X.base CX C k x ps sp)(hr:Room (k+1) X.A)(hg:Gl X x)(hdb:(x == ("__debug__":Str))=false:=by decide):PE X (.Call (.Name x p) [] [] pos) (tMk C sp E tNil):=by
 obtain⟨f,fd,F,M,hb⟩:=D.ex;rw[<- Zmc];exact Zms M F hr hg D.mgx hb .nil hx hdb
end L2
namespace L2
open PySem PySem.Spec PyProof.Rows
section
variable {X:Cx}
noncomputable def Zgk (K:Frag):List V->Hp->VK->Prop:=λ xs H Q=>∃ p ys,xs=[.ref p]/\(SqL K H p ys\/SqT K H p ys)/\∀ l,H l=none->Q (.ref l) (upd H l (.lst ys))
theorem ZaW:Xt X (.type "list") (Zgk X.K):=ZiU
end
end L2
namespace L2
open PySem PySem.Spec PyProof.Rows
theorem ZmJ (ws:List (Str×Addr×Nat))(n:Str):(bump ws n).map (·.1)=ws.map (·.1):=by
 unfold bump;rw[map_map];refine map_congr_left λ p _=>?_;show(if p.1=n then (p.1,p.2.1,p.2.2+1) else p).1=p.1;split <;> rfl
theorem Znl {ws:List (Str×Addr×Nat)}{bs:List (Str×Int)}{n:Str}(k1:ws.map (·.1)=bs.map (·.1))(k2:∀ p∈ws,p.2.2=nk bs p.1)(h:has bs n=true):∃ a,bro ws n=some (a,nk bs n):=by
  have hm:n∈ws.map (·.1):=by rw[k1];exact(ZaQ bs n).mp h
  unfold bro;obtain⟨p,hp,e⟩:=List.mem_map.mp hm;have z:(ws.find? λ p=>decide (p.1=n)).isSome=true:=List.find?_isSome.mpr ⟨p,hp,decide_eq_true e⟩;cases q:ws.find? (λ p=>decide (p.1=n)) with
  |none=>rw[q]at z;cases z
  |some r=>
    have r0:decide (r.1=n)=true:=List.find?_some (p:=λ p:Str×Addr×Nat=>decide (p.1=n)) q;have r1:=of_decide_eq_true r0;have r2:=k2 r (List.mem_of_find?_eq_some q);refine⟨r.2.1,?_⟩;rw[<- r1,<- r2];rfl
theorem ZmC {ws:List (Str×Addr×Nat)}{bs:List (Str×Int)}{n:Str}(k1:ws.map (·.1)=bs.map (·.1))(h:has bs n=false):Y2 (brs ws) (Sum.inr n:Key)=none:=by
  rw[ZfP];unfold bro;have z:ws.find? (λ p=>decide (p.1=n))=none:=by
    rw[List.find?_eq_none];intro p hp e;exact(ZiK bs n).mp h (by rw[<- k1];exact List.mem_map.mpr ⟨p,hp,of_decide_eq_true e⟩)
  rw[z];rfl
theorem ZjR {ws:List (Str×Addr×Nat)}{bs ds:List (Str×Int)}{w:Str}{y:Int}{l:Addr}(W:Wf bs ds)(k1:ws.map (·.1)=bs.map (·.1))(k2:∀ p∈ws,p.2.2=nk bs p.1)(hw:gw w=true)(h:has bs w=false) :
    (ws++[(w,l,0)]:List (Str×Addr×Nat)).map (λ p=>p.1)=(bs++[(w,y)]).map (λ p=>p.1)/\∀ p∈ws++[(w,l,0)],p.2.2=nk (bs++[(w,y)]) p.1:=by
  refine⟨by rw[map_append,map_append,k1];rfl,λ p hp=>?_⟩;rw[Zd9 hw];rcases List.mem_append.mp hp with hp|hp
  . exact k2 p hp
  . rw[List.mem_singleton.mp hp];exact(W.nk_none h).symm
theorem ZjS {ws:List (Str×Addr×Nat)}{bs ds:List (Str×Int)}{n:Str}{y:Int}{l:Addr}(W:Wf bs ds)(k1:ws.map (·.1)=bs.map (·.1))(k2:∀ p∈ws,p.2.2=nk bs p.1)(hn:has bs n=true)(hl:bs.length<900) :
    (bump ws n++[(kid n (nk bs n),l,0)]:List (Str×Addr×Nat)).map (λ p=>p.1)=(bs++[(kid n (nk bs n),y)]).map (λ p=>p.1)/\∀ p∈bump ws n++[(kid n (nk bs n),l,0)],p.2.2=nk (bs++[(kid n (nk bs n),y)]) p.1:=by
  refine⟨by rw[map_append,map_append,ZmJ,k1];rfl,λ p hp=>?_⟩;rw[Zcp W hl];rcases List.mem_append.mp hp with hp|hp
  . unfold bump at hp;obtain⟨q,hq,rfl⟩:=List.mem_map.mp hp;have z:=k2 q hq
    by_cases e:q.1=n
    . rw[if_pos e,if_pos e];show q.2.2+1=_;rw[z,e]
    . rw[if_neg e,if_neg e];exact z
  . rw[List.mem_singleton.mp hp];have ne:¬ kid n (nk bs n)=n:=λ e=>by
      have z:=W.no_kid n;rw[e,hn]at z;cases z
    rw[if_neg ne];exact(W.nk_none (W.no_kid n)).symm
theorem Zcr {b d1 d2 d3:Addr}{ws:List (Str×Addr×Nat)}:b∈Zb3 b d1 d2 d3 ws/\d1∈Zb3 b d1 d2 d3 ws/\d2∈Zb3 b d1 d2 d3 ws/\d3∈Zb3 b d1 d2 d3 ws/\∀ p∈ws,p.2.1∈Zb3 b d1 d2 d3 ws:=
 ⟨by simp[Zb3],by simp[Zb3],by simp[Zb3],by simp[Zb3],λ p hp=>mem_cons_of_mem _ (mem_cons_of_mem _ (mem_cons_of_mem _ (mem_cons_of_mem _ (List.mem_map.mpr ⟨p,hp,rfl⟩))))⟩
theorem ZhE {H:Hp}{b d1 d2 d3 l:Addr}{ws ws':List (Str×Addr×Nat)}{x:Str}(h:ws'.map (·.2.1)=ws.map (·.2.1))(hl:H l=none):Zdv H (Zb3 b d1 d2 d3 ws) (Zb3 b d1 d2 d3 (ws'++[(x,l,0)])):=by
  intro a ha;unfold Zb3 at ha ⊢;rw[map_append,h]at ha;simp only[mem_cons,mem_append,map_cons,map_nil,not_mem_nil,or_false]at ha ⊢;rcases ha with rfl|rfl|rfl|rfl|ha|rfl
  . exact .inl (.inl rfl)
  . exact .inl (.inr (.inl rfl))
  . exact .inl (.inr (.inr (.inl rfl)))
  . exact .inl (.inr (.inr (.inr (.inl rfl))))
  . exact .inl (.inr (.inr (.inr (.inr ha))))
  . exact .inr hl
theorem Yz.wide {X Y:List Addr}{H H':Hp}(k:Yz X H H')(h:∀ a∈X,a∈Y):Yz Y H H':=⟨λ a o hn e=>k.1 a o (λ z=>hn (h a z)) e,k.2⟩
theorem Xd {H:Hp}{a:Addr}{o:HO}:Yz [a] H (upd H a o):=⟨λ b u hn e=>by rw[Zh (λ z=>hn (by simp[z]))];exact e,λ b e=>by
  by_cases z:b=a
  . rw[z,Ze]at e;cases e
  . rw[Zh z]at e;exact e⟩
noncomputable def al (bs ds:List (Str×Int))(n:Str):Bool:=has bs n && !has ds n
end L2
set_option maxHeartbeats 0
namespace L2
open PySem PySem.Spec
theorem Yr {names:List (Str×NameKind)}{cl:List (Str×Addr)}(h:names.all (λ p => !(p.2 == .cell || p.2 == .free) || (cl.map (·.1)).contains p.1)=true):∀ x,(names.lookup x=some .cell\/names.lookup x=some .free)->∃ c,cl.lookup x=some c:=by
  intro x hx;have key:∀ k,names.lookup x=some k->(k == NameKind.cell || k == NameKind.free)=true->∃ c,cl.lookup x=some c:=λ k e hk=>by
    have m:=PySem.mem_of_lookup e;have q:=List.all_eq_true.mp h _ m;simp only[hk,Bool.not_true,Bool.false_or]at q;have q':x∈cl.map (·.1):=by simpa using q
    clear q h m e
    induction cl with
    |nil=>simp at q'
    |cons p r ih=>
      obtain⟨y,c⟩:=p;rw[List.lookup_cons];cases z:x == y with
      |true=>exact⟨c,rfl⟩
      |false=>
        refine ih ?_;rcases List.mem_cons.mp (show x∈y::r.map (·.1) from q') with e|e
        . rw[e]at z;simp at z
        . exact e
  rcases hx with e|e
  . exact key _ e rfl
  . exact key _ e rfl
theorem tAll_T {σ:St}{H:Hp}{A B:Hp->Prop}(h:A H):tAll σ H (λ b H3=>if b=true then A H3 else B H3):=by
 show if true=true then A H else B H
 exact Yy h
noncomputable def abc:Str:="abcdefghijklmnopqrstuvwxyz"
theorem Zmz {a b:Str}(ha:PyData.strOk a=true)(hb:PyData.strOk b=true):PyData.strOk (a++b)=true:=by
 unfold PyData.strOk at *;show(a.cps++b.cps).all _=true;rw[Array.all_append,ha,hb];rfl
theorem ZnS (a b:Str):(a++b).length=a.length+b.length:=by
 show(a.cps++b.cps).size=_;rw[Array.size_append];rfl
theorem XC {X:Cx}{st:List Stmt}{t t':TS}(h:PSs X st t)(i:∀ D σ H,t' D σ H->t D σ H):PSs X st t':=⟨λ pins s σ H D I q=>h pins s σ H D I (i D σ H q)⟩
theorem Zlb (a x:Str):(a == x)=decide (x=a):=by
  by_cases h:x=a
  . subst h;rw[decide_eq_true rfl];exact beq_self_eq_true x
  . rw[decide_eq_false h];exact beq_eq_false_iff_ne.mpr λ z=>h z.symm
theorem ZB {n:Nat}(h:n<=500):n<=sizeLine:=le_of_lt (Zz (by omega))
theorem ts_tab:∀ k∈List.range 131,(Str.ofString (toString ((k:Nat):Int))).length<=4:=by decide +kernel
theorem ZfQ {i:Int}(h0:0<=i)(h1:i<131):(Str.ofString (toString i)).length<=4:=by
 have:=ts_tab i.toNat (List.mem_range.mpr (by omega));rw[show((i.toNat:Nat):Int)=i by omega]at this;exact this
theorem Jo {i:Int}(h0:0<=i)(h1:i<131):i.natAbs.log2<1920:=by
 have:i.natAbs.log2<=i.natAbs:=Nat.log2_le_self _;omega
open PySem PySem.Spec
theorem abc_in {i:Int}(h0:0<=i)(h1:i<26):∃ c:Nat,atI abc.cps.toList i=some c/\inR 97 122 c=true:=by
 have hl:abc.cps.toList.length=26:=by decide +kernel
 have hi:i.toNat<abc.cps.toList.length:=by omega
 have e:atI abc.cps.toList ((i.toNat:Nat):Int)=some (abc.cps.toList[i.toNat]):=JY (getElem?_eq_getElem hi);rw[show((i.toNat:Nat):Int)=i by omega]at e;refine⟨_,e,?_⟩;have a:abc.cps.toList.all (inR 97 122)=true:=by decide +kernel
 exact List.all_eq_true.mp a _ (getElem_mem hi)
end L2
namespace L2
open PySem PySem.Spec
inductive Deed where
  | arrive (w:Str) (a:Int)
  | birth (n:Str)
  | death (n:Str)
  | comes (w:Str)
  | years (k:Int)
noncomputable def Deed.vals:Deed->List V
  |.arrive w a=>[.str "arrive", .str w, .int a]
  |.birth n=>[.str "birth", .str n]
  |.death n=>[.str "death", .str n]
  |.comes w=>[.str "comes", .str w]
  |.years k=>[.str "years", .int k]
structure Mo where
  y:Int
  bs:List (Str×Int)
  ds:List (Str×Int)
  cs:List (Str×Int)
noncomputable def Mo.step (S:Mo):Deed->Mo
  |.arrive w a=>{ S with bs:=S.bs++[(w,S.y - a)] }
  |.birth n=>{ S with bs:=S.bs++[(kid n (nk S.bs n),S.y)] }
  |.death n=>{ S with ds:=S.ds++[(n,S.y)] }
  |.comes w=>{ S with cs:=S.cs++[(w,S.y)] }
  |.years k=>{ S with y:=S.y+k }
noncomputable def Mo.good (S:Mo)(far:Int):Deed->Prop
  |.arrive w a=>gw w=true/\has S.bs w=false/\0<=a/\a<=120
  |.birth n=>has S.bs n=true/\has S.ds n=false/\Yl n<5
  |.death n=>has S.bs n=true/\has S.ds n=false
  |.comes w=>gw w=true/\has S.cs w=false
  |.years k=>1<=k/\k<=far
structure Mo.Ok (S:Mo)(k:Nat):Prop where
  wf:Wf S.bs S.ds
  cw:∀ w,has S.cs w=true->gw w=true
  lb:S.bs.length<=k
  ld:S.ds.length<=k
  lc:S.cs.length<=k
noncomputable def Ys (H:Hp)(m:Addr)(S:Mo)(R:List Addr):Prop:=MdlAt H m S.y S.bs S.ds S.cs R
theorem Ys.live {H:Hp}{m:Addr}{S:Mo}{R:List Addr}(L:Ys H m S R):ZjY H R:=MdlAt.live L
theorem Ys.same {H H':Hp}{m:Addr}{S:Mo}{R:List Addr}(L:Ys H m S R)(s:Zj H H'):Ys H' m S R:=MdlAt.same L s
theorem Ys.keep {H H':Hp}{m:Addr}{S:Mo}{R X:List Addr}(L:Ys H m S R)(k:Yz X H H')(d:Dj R X):Ys H' m S R:=MdlAt.keep L k d
noncomputable def mo0 (y:Int):Mo:=⟨y,[],[],[]⟩
theorem Mo.Ok.zero (y:Int):(mo0 y).Ok 0:=⟨Wf.nil,(λ _ h=>Bool.noConfusion h),le_refl _,le_refl _,le_refl _⟩
theorem Mo.Ok.step {S:Mo}{k:Nat}{far:Int}{d:Deed}(O:S.Ok k)(h:S.good far d)(hk:k<98):(S.step d).Ok (k+1):=by
  have a:=O.lb;have b:=O.ld;have c:=O.lc;cases d with
  |arrive w a0=>exact⟨O.wf.arrive h.1 h.2.1 (by omega),O.cw,by show(S.bs++[_]).length<=_;rw[length_append,length_singleton];omega,by show S.ds.length<=_;omega,by show S.cs.length<=_;omega⟩
  |birth n=>exact⟨O.wf.birth h.1 h.2.2 (by omega) (by have:=O.wf.few n;omega),O.cw,by show(S.bs++[_]).length<=_;rw[length_append,length_singleton];omega,by show S.ds.length<=_;omega,by show S.cs.length<=_;omega⟩
  |death n=>exact⟨O.wf.death h.1,O.cw,by show S.bs.length<=_;omega,by show(S.ds++[_]).length<=_;rw[length_append,length_singleton];omega,by show S.cs.length<=_;omega⟩
  | comes w=>exact⟨O.wf,λ x hx=>by
      rw[show(S.step (.comes w)).cs=S.cs++[(w,S.y)] from rfl,ZV,or_eq_true]at hx;rcases hx with e|e
      . exact O.cw x e
      . rw[<- of_decide_eq_true e];exact h.1,by show S.bs.length<=_;omega,by show S.ds.length<=_;omega,by show(S.cs++[_]).length<=_;rw[length_append,length_singleton];omega⟩
  |years k0=>exact⟨O.wf,O.cw,by show S.bs.length<=_;omega,by show S.ds.length<=_;omega,by show S.cs.length<=_;omega⟩
theorem Zbc {a:V}{A B:Prop}(k:A):if decide (a=a)=true then A else B:=by rw[if_pos (decide_eq_true rfl)];exact k
theorem Yo {a b:Str}{A B:Prop}(h:(a == b)=false)(k:B):if decide (V.str a=V.str b)=true then A else B:=by
  rw[if_neg]
  . exact k
  . intro e;have e':a=b:=by injection (of_decide_eq_true e)
    rw[e']at h;simp at h
theorem ZmZ {a:V}{A B:Prop}(k:B):if (!decide (a=a))=true then A else B:=by rw[decide_eq_true rfl];exact k
theorem ZkY {a b:Str}{A B:Prop}(h:(a == b)=false)(k:A):if (!decide (V.str a=V.str b))=true then A else B:=by
  have:decide (V.str a=V.str b)=false:=by
    rw[decide_eq_false_iff_not];intro e;have e':a=b:=by injection e
    rw[e']at h;simp at h
  rw[this];exact k
noncomputable def Zb2 (bs ds:List (Str×Int)):List V:=(bs.filter λ p => !has ds p.1).map λ p=>V.str p.1
theorem ZmL (bs ds:List (Str×Int)):(Zb2 bs ds).length<=bs.length:=by unfold Zb2;rw[length_map];exact length_filter_le _ _
theorem ZkR {bs ds:List (Str×Int)}{i:Int}{v:V}(h:atI (Zb2 bs ds) i=some v):∃ n,v = .str n/\has bs n=true/\has ds n=false:=by
  have hm:v∈Zb2 bs ds:=by
    unfold atI at h;obtain⟨j,_,e⟩:=Option.bind_eq_some_iff.mp h;exact mem_of_getElem? e
  unfold Zb2 at hm;obtain⟨p,hp,rfl⟩:=List.mem_map.mp hm;obtain⟨h1,h2⟩:=List.mem_filter.mp hp;exact⟨p.1,rfl,(ZaQ bs p.1).mpr (List.mem_map.mpr ⟨p,h1,rfl⟩),by simpa using h2⟩
structure DeedsAt (H:Hp)(l:Addr)(ds:List Deed)(ps:List Addr):Prop where
  lst:H l=some (.lst (ps.map V.ref))
  len:ps.length=ds.length
  at_:∀(i:Nat)(p:Addr)(d:Deed),ps[i]? = some p->ds[i]? = some d->H p=some (.tup d.vals)
theorem DeedsAt.mv {H H':Hp}{l:Addr}{ds:List Deed}{ps:List Addr}(D:DeedsAt H l ds ps)(h:∀ a∈l::ps,∀ o,H a=some o->H' a=some o):DeedsAt H' l ds ps:=
 ⟨h _ (by simp) _ D.lst,D.len,λ i p d e1 e2=>h _ (mem_cons_of_mem _ (mem_of_getElem? e1)) _ (D.at_ i p d e1 e2)⟩
theorem DeedsAt.same {H H':Hp}{l:Addr}{ds:List Deed}{ps:List Addr}(D:DeedsAt H l ds ps)(s:Zj H H'):DeedsAt H' l ds ps:=D.mv λ a _ o e=>s a o e
theorem DeedsAt.live {H:Hp}{l:Addr}{ds:List Deed}{ps:List Addr}(D:DeedsAt H l ds ps):ZjY H (l::ps):=λ a ha=>by
  rcases List.mem_cons.mp ha with rfl|ha
  . exact⟨_,D.lst⟩
  . obtain⟨i,hi⟩:=List.mem_iff_getElem?.mp ha;have:i<ds.length:=by rw[<- D.len];exact(List.getElem?_eq_some_iff.mp hi).1
    exact⟨_,D.at_ i a _ hi (getElem?_eq_getElem this)⟩
open PySem PySem.Spec
section
variable {H:Hp}{m c e1 e2 e3 p:Addr}{y:Int}{bs ds cs:List (Str×Int)}{R:List Addr}{xs:List V}
theorem Mdl.put1 {bs':List (Str×Int)}(B:Mdl H m c e1 e2 e3 y bs ds cs)(eR:R=Jf m c e1 e2 e3)(hp:H p=some (.tup xs)) :
    upd H e1 (.dK (yrs bs')) p=some (.tup xs)/\Yz R H (upd H e1 (.dK (yrs bs')))/\MdlAt (upd H e1 (.dK (yrs bs'))) m y bs' ds cs R:=
  ⟨by rw[Zh (ZN hp B.h1 (λ z=>by cases z))];exact hp,Xd.wide (λ a ha=>by rw[List.mem_singleton.mp ha,eR];simp[Jf]),⟨c,e1,e2,e3,⟨by rw[Zh (ZN B.tup B.h1 (λ z=>by cases z))];exact B.tup,by rw[Zh (ZN B.clk B.h1 (λ z=>by cases z))];exact B.clk,Ze,by rw[Zh (Ne.symm B.n12)];exact B.h2,by rw[Zh (Ne.symm B.n13)];exact B.h3,B.n12,B.n13,B.n23⟩,eR⟩⟩
theorem Mdl.put2 {ds':List (Str×Int)}(B:Mdl H m c e1 e2 e3 y bs ds cs)(eR:R=Jf m c e1 e2 e3)(hp:H p=some (.tup xs)) :
    upd H e2 (.dK (yrs ds')) p=some (.tup xs)/\Yz R H (upd H e2 (.dK (yrs ds')))/\MdlAt (upd H e2 (.dK (yrs ds'))) m y bs ds' cs R:=
  ⟨by rw[Zh (ZN hp B.h2 (λ z=>by cases z))];exact hp,Xd.wide (λ a ha=>by rw[List.mem_singleton.mp ha,eR];simp[Jf]),⟨c,e1,e2,e3,⟨by rw[Zh (ZN B.tup B.h2 (λ z=>by cases z))];exact B.tup,by rw[Zh (ZN B.clk B.h2 (λ z=>by cases z))];exact B.clk,by rw[Zh B.n12];exact B.h1,Ze,by rw[Zh (Ne.symm B.n23)];exact B.h3,B.n12,B.n13,B.n23⟩,eR⟩⟩
theorem Mdl.put3 {cs':List (Str×Int)}(B:Mdl H m c e1 e2 e3 y bs ds cs)(eR:R=Jf m c e1 e2 e3)(hp:H p=some (.tup xs)) :
    upd H e3 (.dK (yrs cs')) p=some (.tup xs)/\Yz R H (upd H e3 (.dK (yrs cs')))/\MdlAt (upd H e3 (.dK (yrs cs'))) m y bs ds cs' R:=
  ⟨by rw[Zh (ZN hp B.h3 (λ z=>by cases z))];exact hp,Xd.wide (λ a ha=>by rw[List.mem_singleton.mp ha,eR];simp[Jf]),⟨c,e1,e2,e3,⟨by rw[Zh (ZN B.tup B.h3 (λ z=>by cases z))];exact B.tup,by rw[Zh (ZN B.clk B.h3 (λ z=>by cases z))];exact B.clk,by rw[Zh B.n13];exact B.h1,by rw[Zh B.n23];exact B.h2,Ze,B.n12,B.n13,B.n23⟩,eR⟩⟩
end
end L2
namespace L2
open PySem PySem.Spec
noncomputable def strD (l:List Str):PyData:=.list (l.map PyData.str)
theorem Zml {K:Frag}{H:Hp}(l:List Str):RdsAll K H (l.map V.str) (l.map PyData.str):=by
  induction l with
  |nil=>exact .nil
  |cons p r ih=>exact .cons (.str _) ih
theorem Zjj {K:Frag}{H:Hp}{a:Addr}{l:List Str}(h:SqL K H a (l.map V.str)):Rds K H (.ref a) (strD l):=.list h (Zml l)
theorem Zme {l:List Str}(h:∀ p∈l,PyData.strOk p=true):PyData.canLayAll0 (l.map PyData.str)=true/\PyData.depthAll (l.map PyData.str)=0:=by
  induction l with
  |nil=>exact⟨rfl,rfl⟩
  |cons p r ih=>
    have ih:=ih (λ q hq=>h q (mem_cons_of_mem _ hq));refine⟨?_,?_⟩
    . simp only[map_cons,PyData.canLayAll0,PyData.canLay0];rw[h p (by simp),ih.1];rfl
    . simp only[map_cons,PyData.depthAll,PyData.depth];rw[ih.2];rfl
theorem ZbC {l:List Str}(h:∀ p∈l,PyData.strOk p=true):SeqAt.shaped (strD l)=true:=by
 obtain⟨h1,h2⟩:=Zme h;unfold SeqAt.shaped;rw[and_eq_true];refine⟨h1,decide_eq_true ?_⟩;show PyData.depthAll (l.map PyData.str)+1<=64;rw[h2]
 decide
theorem Zna {l:List Str}(h:∀ p∈l,PyData.strOk p=true):PyData.eqv (strD l) (strD l)=true:=SeqAt.eqv_refl _ (SeqAt.canLay_of_shaped (ZbC h))
theorem ZnP {K:Frag}{H:Hp}{a b:Addr}{l:List Str}{Q:VK}(ha:SqL K H a (l.map V.str))(hb:SqL K H b (l.map V.str))(h:∀ p∈l,PyData.strOk p=true)(q:Q (.bl false) H):rEqD K true (.ref a) (.ref b) H Q:=
 ⟨_,_,Zjj ha,Zjj hb,ZbC h,ZbC h,by rw[Zna h];exact q⟩
theorem pok_ok {x:Str}(h:pok x=true):PyData.strOk x=true:=by
  have hp:∀ p∈pcs x,PyData.strOk p=true:=λ p hp=>by
    unfold pok at h;simp only[and_eq_true]at h;rw[Xy]at hp;rcases List.mem_cons.mp hp with rfl|hp
    . exact gw_ok h.1.1
    . have z:=List.all_eq_true.mp h.2 p hp;unfold gn at z;simp only[and_eq_true]at z;unfold PyData.strOk;rw[Array.all_eq_true_iff_forall_mem];intro c hc;have z2:=List.all_eq_true.mp z.1.2 c (by simpa using hc);simp[inR]at z2;simp;omega
  have key:∀ l:List Str,(∀ p∈l,PyData.strOk p=true)->PyData.strOk (Str.join dot l)=true:=by
    intro l
    induction l with
    |nil=>intro _;decide +kernel
    |cons a r ih=>
      intro hl;cases r with
      |nil=>exact hl a (by simp)
      |cons b r'=>
        show PyData.strOk (a++dot++Str.join dot (b::r'))=true;exact Zmz (Zmz (hl a (by simp)) (by decide +kernel)) (ih (λ p hp=>hl p (mem_cons_of_mem _ hp)))
  rw[<- YX x];exact key _ hp
theorem Wf.ok {bs ds:List (Str×Int)}(W:Wf bs ds){n:Str}(h:has bs n=true):PyData.strOk n=true:=pok_ok (W.wrt n h)
noncomputable def Xc (bs:List (Str×Int)):List Str:=bs.map (·.1)
noncomputable def ZgL (bs ds:List (Str×Int)):List Str:=(bs.filter λ p => !has ds p.1).map (·.1)
noncomputable def kidL (n:Str)(c:Nat):List Str:=(List.range c).map λ i=>kid n i
theorem ZkS (bs ds:List (Str×Int)):Zb2 bs ds=(ZgL bs ds).map V.str:=by unfold Zb2 ZgL;rw[map_map];rfl
theorem ZmS (n:Str)(c:Nat):YF n c=(kidL n c).map V.str:=by unfold YF kidL;rw[map_map];rfl
theorem Wf.liv_ok {bs ds:List (Str×Int)}(W:Wf bs ds):∀ p∈ZgL bs ds,PyData.strOk p=true:=λ p hp=>by
 obtain⟨q,hq,rfl⟩:=List.mem_map.mp hp;exact W.ok ((ZaQ bs q.1).mpr (List.mem_map.mpr ⟨q,(List.mem_filter.mp hq).1,rfl⟩))
theorem Zl9 {κ:Type}[DecidableEq κ](kvs:List (κ×V))(k:κ):(Y2 kvs k).isSome=true↔k∈kvs.map (·.1):=by
  unfold Y2;rw[isSome_map,List.find?_isSome,mem_map];constructor
  . rintro⟨p,hp,e⟩;exact⟨p,hp,of_decide_eq_true e⟩
  . rintro⟨p,hp,e⟩;exact⟨p,hp,decide_eq_true e⟩
theorem pick4 {z:Str}(hz:gw z=true){i:Int}(h0:0<=i)(h1:i<4):∃ y:Str,atI [V.str "war",V.str "flood",V.str "a",V.str z] i=some (.str y)/\gw y=true:=by
  rcases(show i=0\/i=1\/i=2\/i=3 by omega) with rfl|rfl|rfl|rfl
  . exact⟨_,rfl,by decide +kernel⟩
  . exact⟨_,rfl,by decide +kernel⟩
  . exact⟨_,rfl,by decide +kernel⟩
  . exact⟨_,rfl,hz⟩
theorem Zky {xs:List V}{i:Int}(h0:0<=i)(h1:i<xs.length):∃ v,atI xs i=some v:=by
 have gi:i.toNat<xs.length:=by omega
 have e:atI xs ((i.toNat:Nat):Int)=some (xs[i.toNat]):=JY (getElem?_eq_getElem gi);rw[show((i.toNat:Nat):Int)=i by omega]at e;exact⟨_,e⟩
theorem LivesAt.no_tup {C:Addr}{H:Hp}{b p:Addr}{bs ds:List (Str×Int)}{R:List Addr}{xs:List V}(L:LivesAt C H b bs ds R)(hp:H p=some (.tup xs)):p∉R:=by
  obtain⟨d1,d2,d3,ws,B,_,_,rfl⟩:=L.ex;obtain⟨dx,hb⟩:=B.obj;intro ha;rcases List.mem_cons.mp ha with rfl|ha
  . rw[hb]at hp;cases hp
  rcases List.mem_cons.mp ha with rfl|ha
  . rw[B.h1]at hp;cases hp
  rcases List.mem_cons.mp ha with rfl|ha
  . rw[B.h2]at hp;cases hp
  rcases List.mem_cons.mp ha with rfl|ha
  . rw[B.h3]at hp;cases hp
  obtain⟨q,hq,rfl⟩:=List.mem_map.mp ha;rw[B.kids q hq]at hp;cases hp
theorem Ys.tup_of {H:Hp}{m:Addr}{S:Mo}{R:List Addr}(M:Ys H m S R):∃ c e1 e2 e3,Mdl H m c e1 e2 e3 S.y S.bs S.ds S.cs:=by
 obtain⟨c,e1,e2,e3,B,_⟩:=MdlAt.ex M;exact⟨c,e1,e2,e3,B⟩
theorem DeedsAt.push {H H':Hp}{l p:Addr}{ds:List Deed}{ps:List Addr}{d:Deed}(D:DeedsAt H l ds ps)(s:Zj H H')(hp:H' p=some (.tup d.vals)):DeedsAt (upd H' l (.lst (ps.map V.ref++[V.ref p]))) l (ds++[d]) (ps++[p]):=by
  have hl:=s _ _ D.lst;refine⟨by rw[Ze,map_append];rfl,by simp[D.len],λ i q e h1 h2=>?_⟩;have key:H' q=some (.tup e.vals):=by
    by_cases hi:i<ps.length
    . rw[getElem?_append_left hi]at h1;rw[getElem?_append_left (by rw[<- D.len];exact hi)]at h2;exact s _ _ (D.at_ i q e h1 h2)
    . rw[getElem?_append_right (by omega)]at h1;rw[getElem?_append_right (by rw[<- D.len];omega),<- D.len]at h2;have h3:=(List.getElem?_eq_some_iff.mp h1).1;simp at h3;rw[show i - ps.length=0 by omega]at h1 h2;simp at h1 h2;rw[<- h1,<- h2];exact hp
  rw[Zh (ZN key hl (λ z=>by cases z))];exact key
structure First (was:List (Str×Int)):Prop where
  nod:(was.map (·.1)).Nodup
  len:was.length<=3
  ok:∀ p∈was,gw p.1=true/\0<=p.2/\p.2<=120
noncomputable def arr (p:Str×Int):Deed:=.arrive p.1 p.2
noncomputable def Zi2 (was:List (Str×Int)):List (Key×V):=was.map λ p=>((Sum.inr p.1:Key),V.bl true)
theorem Zi1 (was:List (Str×Int))(w:Str):(Y2 (Zi2 was) (Sum.inr w:Key)).isSome=decide (w∈was.map (·.1)):=by
  rw[Bool.eq_iff_iff,Zl9,decide_eq_true_iff];unfold Zi2;rw[map_map,mem_map,mem_map];constructor
  . rintro⟨p,hp,e⟩;exact⟨p,hp,by simpa using e⟩
  . rintro⟨p,hp,e⟩;exact⟨p,hp,by simpa using e⟩
open PySem PySem.Spec
theorem XD {bs:List (Str×Int)}{n:Str}(h:has bs n=true):∃ y,yr bs n=some y:=by
  unfold has at h;cases e:yr bs n with
  |none=>rw[e]at h;cases h
  |some y=>exact⟨y,rfl⟩
theorem ZnT {bs:List (Str×Int)}{i:Nat}{v:V}(h:((Xc bs).map V.str)[i]? = some v):∃ n,v = .str n/\has bs n=true:=by
 have hm:=mem_of_getElem? h;obtain⟨n,hn,rfl⟩:=List.mem_map.mp hm;exact⟨n,rfl,(ZaQ bs n).mpr hn⟩
theorem keysK (bs:List (Str×Int)):(yrs bs).map (λ p=>kV p.1)=(Xc bs).map V.str:=by
 unfold yrs Xc;rw[map_map,map_map];rfl
open PySem PySem.Spec
section
variable {H H2:Hp}{x dx C:Addr}
theorem ZhA {a:Addr}(h:upd (upd H dx (.own x)) x (.ins C dx []) a=none):H a=none:=by
 have n1:a≠x:=λ e=>by rw[e,Ze]at h;cases h
 rw[Zh n1]at h;have n2:a≠dx:=λ e=>by rw[e,Ze]at h;cases h
 rw[Zh n2]at h;exact h
theorem made (nx:H x=none)(ndx:H dx=none)(kp:Yz [x] (upd (upd H dx (.own x)) x (.ins C dx [])) H2):Zj H H2:=λ b o e=>by
 have n1:b≠x:=ZC e nx;refine kp.1 b o (by simpa using n1) ?_;rw[Zh n1,Zh (ZC e ndx)];exact e
end
theorem Mo.Ok.mono {S:Mo}{k j:Nat}(O:S.Ok k)(h:k<=j):S.Ok j:=⟨O.wf,O.cw,le_trans O.lb h,le_trans O.ld h,le_trans O.lc h⟩
theorem First.good {was:List (Str×Int)}(F:First was){S:Mo}{i:Nat}(hi:i<was.length)(hS:S.bs.map (·.1)=(was.take i).map (·.1)){far:Int}:S.good far (arr was[i])/\(S.step (arr was[i])).bs.map (·.1)=(was.take (i+1)).map (·.1):=by
  have hm:=getElem_mem hi;obtain⟨h1,h2,h3⟩:=F.ok _ hm;refine⟨⟨h1,?_,h2,h3⟩,?_⟩
  . rw[ZiK,hS];intro z;obtain⟨p,hp,e⟩:=List.mem_map.mp z;have hnd:=F.nod;obtain⟨j,hj,e2⟩:=List.mem_iff_getElem.mp hp;have hj1:j<i:=by rw[length_take]at hj;omega
    rw[List.getElem_take]at e2;have key:(was.map (·.1))[j]'(by rw[length_map];omega)=(was.map (·.1))[i]'(by rw[length_map];omega):=by
      rw[List.getElem_map,List.getElem_map,e2];exact e
    exact(List.pairwise_iff_getElem.mp hnd) j i (by rw[length_map];omega) (by rw[length_map];omega) hj1 key
  . show(S.bs++[_]).map _=_;rw[map_append,hS,take_succ,getElem?_eq_getElem hi,map_append];rfl
theorem no_one {bs ds:List (Str×Int)}(W:Wf bs ds){n:Str}(h:pok n=false):has bs n=false:=by
  cases e:has bs n with
  |false=>rfl
  |true=>rw[W.wrt n e]at h;cases h
open PySem PySem.Spec
theorem LivesAt.obj {C:Addr}{H:Hp}{b:Addr}{bs ds:List (Str×Int)}{R:List Addr}(L:LivesAt C H b bs ds R):∃ dx d1 d2 d3,H b=some (.ins C dx [("births", .ref d1),("deaths", .ref d2),("broods", .ref d3)]):=by
 obtain⟨d1,d2,d3,ws,B,_⟩:=L.ex;obtain⟨dx,hb⟩:=B.obj;exact⟨dx,d1,d2,d3,hb⟩
theorem Mo.Ok.few {S:Mo}{k:Nat}(O:S.Ok k)(n:Str):nk S.bs n<=k:=le_trans (O.wf.few n) O.lb
end L2
namespace L2
open PySem PySem.Spec PyProof.Rows PySem.W
structure RoomU (k:Nat)(A:Around):Prop where
  dp:A.depth+3 * k+5<recursionLimit
  un:A.units+16 * k+200<cLine
structure FnOkU (P:Program)(w:World)(K:Frag)(mg:Str->Option Value)(base:Heap)(CX:CXT)(k:Nat)(f:Addr)(fd:FuncData)(ps:List Str)(sp:Sp):Prop where
  len:∀ vs H Q E,sp vs H Q E->vs.length=ps.length
  run:∀(A:Around)(outer:List Env)(s:Shared)(H:Hp)(args:Args)(us:List Value)(vs:List V)(Q:VK)(E:XK),RoomU k A->Env0 P w K mg base A outer s H->BindsTo s fd args (ps.zip us)->ZJ vs us->sp vs H Q E ->
    codeAny (model P w) A (.call (.ref f) args) (CR CX outer P w H s Q E) s
noncomputable abbrev cxU (CX:CXT)(P:Program)(w:World)(K:Frag)(mg:Str->Option Value)(base:Heap)(N:List Str)(qual:Str)(scope:Scope)(f:Addr)(cd:Value)(A:Around)(outer:List Env)(s:Shared)(H:Hp)(E:XK):Cx:=
  { Xo CX P w K mg base N qual scope f cd A outer s H E with calm:=false }
section
variable {X:Cx}
noncomputable def del (H:Hp)(a:Addr):Hp:=λ b=>if b=a then none else H b
end
end L2
namespace L2
open PySem PySem.Spec
theorem Zm7 {d:Addr}{o:Obj}{kvs:List (Key×V)}{g:TG}{tb:TS}{D:Ends}{σ:St}{H:Hp}(Pv:Nat->St->Hp->Prop)(h0:Pv 0 σ H)(hl:∀ i σ H,i<=kvs.length->Pv i σ H->H d=some (.frz o (.dK kvs)))(hs:∀ i k v σ H,kvs[i]? = some (k,v)->Pv i σ H->g (kV k) σ H λ σ2 H2=>tb { D with nx:=Pv (i+1),ct:=Pv (i+1),bk:=D.nx } σ2 H2)(hd:∀ σ H,Pv kvs.length σ H->D.nx σ H) :
    ∃ W:Nat->Nat->St->Hp->Prop,(∃ m,W 0 m σ H)/\∀ i m σ H,W i m σ H ->
      ((Itd d o kvs).stop i H/\D.nx σ H)\/((Itd d o kvs).go i H/\∃ N:St->Hp->Prop,(∀ σ' H',N σ' H'->∃ m',m'<m/\W (i+1) m' σ' H')/\∀ x H',(Itd d o kvs).yld i H x H'->g x σ H' λ σ2 H2=>tb { D with nx:=N,ct:=N,bk:=D.nx } σ2 H2):=by
  refine⟨λ i m σ H=>m=kvs.length - i/\i<=kvs.length/\Pv i σ H,⟨kvs.length,by simp,zero_le _,h0⟩,?_⟩;rintro i m σ H ⟨rfl,hi,p⟩;have q:=hl i σ H hi p
  by_cases hlt:i<kvs.length
  . refine .inr ⟨⟨q,hlt⟩,Pv (i+1),λ σ' H' p'=>⟨kvs.length - (i+1),by omega,rfl,hlt,p'⟩,λ x H' y=>?_⟩;obtain⟨e,k,v,ek,ex⟩:=y;subst e ex;exact hs i k v σ _ ek p
  . have e:i=kvs.length:=by omega
    subst e;exact .inl ⟨⟨q,le_refl _⟩,hd σ H p⟩
end L2
namespace L2
open PySem PySem.Spec
inductive Er where
  | gone|none_|text|taken|deep|bound
deriving DecidableEq
noncomputable def Er.txt:Er->Str
  |.gone=>"gone"|.none_=>"none"|.text=>"text"|.taken=>"taken"|.deep=>"deep"|.bound=>"bound"
noncomputable def Er.ad (g:Ga):Er->Addr
  |.gone=>g.Gone|.none_=>g.NoPerson|.text=>g.NoText|.taken=>g.Taken|.deep=>g.TooDeep|.bound=>g.OutOfBound
noncomputable def askB (bs ds:List (Str×Int))(way n:Str):Option Er:=
 if way="arrive" then (if gw n=false then some .text else if has bs n=true then some .taken else none)
 else if has bs n=false then some .none_
 else if way="birth" then (if has ds n=true then some .gone else if 5<=Yl n then some .deep else none)
 else if way="death" then (if has ds n=true then some .gone else none)
 else none
noncomputable def ways:List Str:=["arrive","birth","death","born","died","kids"]
open PySem PySem.Spec
section
variable {bs ds:List (Str×Int)}{n:Str}{y:Int}
end
noncomputable abbrev Bad:=Str×Str×Er
structure BadsAt (H:Hp)(l:Addr)(its:List Bad)(ps:List Addr):Prop where
  lst:H l=some (.lst (ps.map V.ref))
  len:ps.length=its.length
  at_:∀(i:Nat)(p:Addr)(it:Bad),ps[i]? = some p->its[i]? = some it->∃ q,q≠l/\H p=some (.tup [.str it.1, .str it.2.1, .ref q])/\H q=some (.lst [.str it.2.2.txt])
noncomputable def Gd (S:Mo)(its:List Bad):Prop:=∀ it∈its,it.1∈ways/\it.2.1.length<=200/\askB S.bs S.ds it.1 it.2.1=some it.2.2
end L2
namespace L2
open PySem PySem.Spec
section
variable {K:Frag}{caps:List (Str×Nat)}{tt:TT}{te:TE}{σ:St}{H H1:Hp}{Q:VK}{a d:Addr}{xs:List V}{kvs:List (Key×V)}{o:Obj}
theorem ZlS {α:Type}{l:List α}{f:α->Bool}{ge:α->V}{i:Nat}(h:i<l.length):((l.take (i+1)).filter f).map ge=((l.take i).filter f).map ge++(if f l[i]=true then [ge l[i]] else []):=by
  rw[take_succ,getElem?_eq_getElem h,filter_append,map_append];congr 1;show([l[i]].filter f).map ge=_;cases e:f l[i] with
  |true=>rw[filter_cons_of_pos e];rfl
  |false=>rw[filter_cons_of_neg (by rw[e];decide)];rfl
theorem lcl (hl:SqL K H1 a xs)(hlen:xs.length<=900)(f:V->Bool)(ge:V->V)(step:∀(i:Nat) x H2,xs[i]? = some x->Zj H1 H2->∀ R:Bool->Hp->Prop,(∀ H3,Zj H2 H3->R (f x) H3)->tt (some x::Z9 caps σ) H2 R)(elt:∀(i:Nat) x H2,xs[i]? = some x->f x=true->Zj H1 H2->∀ R:VK,(∀ H3,Zj H2 H3->R (ge x) H3)->te (some x::Z9 caps σ) H2 R)(q:∀ D H2,H1 D=none->Zj H1 H2->H2 D=some (.lst ((xs.filter f).map ge))->Q (.ref D) H2) :
    ∀ D,H1 D=none->∃ W:Nat->Nat->Hp->Prop,(∃ m,W 0 m (upd H1 D (.lst [])))/\∀ i m H2,W i m H2 ->
      ((Itl K a).stop i H2/\Q (.ref D) H2)\/((Itl K a).go i H2/\∀ x H',(Itl K a).yld i H2 x H'->tt (some x::Z9 caps σ) H' λ b H3=>
        if b=true then te (some x::Z9 caps σ) H3 λ v H4=>∃ ys m',H4 D=some (.lst ys)/\ys.length<sizeLine/\m'<m/\W (i+1) m' (upd H4 D (.lst (ys++[v])))
        else ∃ m',m'<m/\W (i+1) m' H3):=by
  intro D hD;refine⟨λ i m H2=>i<=xs.length/\m=xs.length - i/\Zj H1 H2/\H2 D=some (.lst (((xs.take i).filter f).map ge)),⟨xs.length,zero_le _,rfl,Zi hD _,Ze⟩,?_⟩;rintro i m H2 ⟨hi,rfl,s2,h2⟩;have hs:=s2.seq hl
  by_cases hlt:i<xs.length
  . refine .inr ⟨⟨xs,xs[i],hs,by simp[hlt]⟩,λ x H' y=>?_⟩;obtain⟨e,y⟩:=y;subst e;have hx:=y xs hs;have hx':xs[i]=x:=by rw[getElem?_eq_getElem hlt]at hx;exact Option.some.inj hx
    refine step i x _ hx s2 _ λ H3 s3=>?_;have nx:=ZlS (f:=f) (ge:=ge) hlt;rw[hx']at nx;cases e:f x with
    |false=>
      rw[e]at nx;exact⟨xs.length - (i+1),by omega,hlt,rfl,s2.trans s3,by rw[nx,if_neg (by decide),append_nil];exact s3 _ _ h2⟩
    |true=>
      rw[e]at nx;show te _ H3 _;refine elt i x _ hx e (s2.trans s3) _ λ H4 s4=>⟨_,xs.length - (i+1),s4 _ _ (s3 _ _ h2),Zz ?_,by omega,hlt,rfl,Z0 ((s2.trans s3).trans s4) hD,?_⟩
      . rw[length_map];exact le_trans (length_filter_le _ _) (by rw[length_take];omega)
      . rw[Ze,nx,if_pos rfl]
  . have e:i=xs.length:=by omega
    subst e;rw[take_length]at h2;exact .inl ⟨⟨xs,hs,le_refl _⟩,q D H2 hD s2 h2⟩
end
open PySem PySem.Spec
open PySem PySem.Spec
section
variable {K:Frag}{caps:List (Str×Nat)}{tl te:TE}{tt:TT}{σ:St}{H:Hp}{Q:VK}{d:Addr}{kvs:List (Key×V)}
theorem lclT {xs:List V}(A:Addr->Hp->Prop)(htl:∀ R:VK,(∀ a H1,A a H1->R (.ref a) H1)->tl σ H R)(hA:∀ a H1,A a H1->SqL K H1 a xs)(hlen:xs.length<=900)(f:V->Bool)(ge:V->V)(step:∀ a H1 (i:Nat) x H2,A a H1->xs[i]? = some x->Zj H1 H2->∀ R:Bool->Hp->Prop,(∀ H3,Zj H2 H3->R (f x) H3)->tt (some x::Z9 caps σ) H2 R)(elt:∀ a H1 (i:Nat) x H2,A a H1->xs[i]? = some x->f x=true->Zj H1 H2->∀ R:VK,(∀ H3,Zj H2 H3->R (ge x) H3)->te (some x::Z9 caps σ) H2 R)(q:∀ a H1 D H2,A a H1->H1 D=none->Zj H1 H2->H2 D=some (.lst ((xs.filter f).map ge))->Q (.ref D) H2):tLC caps (Zff K tl) tt te σ H Q:=
 htl _ λ a H1 h=>⟨a,rfl,⟨xs,hA a H1 h⟩,lcl (hA a H1 h) hlen f ge (λ i x H2=>step a H1 i x H2 h) (λ i x H2=>elt a H1 i x H2 h) (λ D H2=>q a H1 D H2 h)⟩
end
end L2
namespace L2
open PySem PySem.Spec PySem.StrLaws
theorem in_dot (x:Str):(!(Builtin.Str.occurrences x "." 0 x.length 1).isEmpty)=decide (46∈x.cps.toList):=by
 rw[show(".":Str)=⟨#[46]⟩ from Zdm,StrLaws.found_one]
noncomputable def ZeM (S:Mo):Prop:=∃ w,has S.bs w=true/\46∉w.cps.toList
theorem ZeM.step {S:Mo}(h:ZeM S)(d:Deed):ZeM (S.step d):=by
  obtain⟨w,h1,h2⟩:=h;refine⟨w,?_,h2⟩;cases d with
  |arrive x a=>show has (S.bs++_) w=true;rw[ZV,h1];rfl
  |birth x=>show has (S.bs++_) w=true;rw[ZV,h1];rfl
  |death x=>exact h1
  |comes x=>exact h1
  |years x=>exact h1
theorem First.root {was:List (Str×Int)}(F:First was)(hne:was≠[]){S:Mo}{i:Nat}(hi:0<i)(hS:S.bs.map (·.1)=(was.take i).map (·.1)):ZeM S:=by
  cases was with
  |nil=>exact absurd rfl hne
  |cons p r=>
    refine⟨p.1,?_,ZfK (F.ok p (by simp)).1⟩;rw[ZaQ,hS];cases i with
    |zero=>exact absurd hi (lt_irrefl 0)
    |succ i=>simp
end L2
namespace L2
open PySem PySem.Spec PySem.StrLaws
theorem Zbh {x:Str}(h:x.length≠0):(up x).length<x.length:=by
  unfold up;rcases last_spec x dot with ⟨e,_⟩|⟨i,e,z,_⟩
  . rw[e];show 0<x.length;omega
  . rw[e];show(Builtin.Str.strSub x 0 i).length<x.length;have hi:i<x.cps.toList.length:=(List.getElem?_eq_some_iff.mp ((at_iff x i).mp z)).1;have hl:x.cps.toList.length=x.length:=length_toList;have:(Builtin.Str.strSub x 0 i).length=(Builtin.Str.strSub x 0 i).cps.toList.length:=(length_toList).symm;rw[this,strSub_toList];simp;omega
theorem ZhY (n:Str)(i:Nat):up (kid n i)=n:=by
  have hl:(kid n i).cps.toList=n.cps.toList++46::(toString ((i:Int)+1):Str).cps.toList:=by
    unfold kid;rw[Xi,Xi,ZhJ,append_assoc];rfl
  unfold up;rcases last_spec (kid n i) dot with ⟨e,z⟩|⟨j,e,z,w⟩
  . exfalso;refine z n.cps.toList.length ((at_iff _ _).mpr ?_);rw[hl,getElem?_append_right (le_refl _)];simp
  . rw[e];have hj:=(at_iff _ _).mp z;have e0:j=n.cps.toList.length:=by
      rcases Nat.lt_trichotomy j n.cps.toList.length with h|h|h
      . exfalso;refine w n.cps.toList.length h ((at_iff _ _).mpr ?_);rw[hl,getElem?_append_right (le_refl _)];simp
      . exact h
      . exfalso;rw[hl,getElem?_append_right (by omega)]at hj;cases e2:j - n.cps.toList.length with
        |zero=>omega
        |succ k=>
          rw[e2,List.getElem?_cons_succ]at hj;exact Zck ((i:Int)+1) (mem_of_getElem? hj)
    show Builtin.Str.strSub (kid n i) 0 j=n;refine Jg ?_;rw[strSub_toList,hl,e0];simp
noncomputable def nr (bs:List (Str×Int))(x:Str):Str:=if h:x.length=0 then Str.empty else if has bs x=true then x else nr bs (up x)
termination_by x.length
decreasing_by exact Zbh h
theorem Zdi (bs:List (Str×Int)):nr bs Str.empty=Str.empty:=by rw[nr];exact dif_pos rfl
theorem Z2 {bs:List (Str×Int)}{x:Str}(h0:x.length≠0)(h:has bs x=true):nr bs x=x:=by rw[nr,dif_neg h0,if_pos h]
theorem ZgI {bs:List (Str×Int)}{x:Str}(h0:x.length≠0)(h:has bs x=false):nr bs x=nr bs (up x):=by
 rw[nr,dif_neg h0,if_neg (by rw[h];decide)]
theorem ZjL {x:Str}(h:x.length=0):x=Str.empty:=by
 refine Jg ?_;have:x.cps.toList.length=0:=by rw[length_toList];exact h
 rw[List.length_eq_zero_iff.mp this];rfl
theorem Zcq (n:Str)(i:Nat):(kid n i).length≠0:=λ e=>by
 have h:=ZkW n i;rw[ZjL e]at h;cases h
theorem YT {bs:List (Str×Int)}(n:Str)(i:Nat):nr bs (kid n i)=if has bs (kid n i)=true then kid n i else nr bs n:=by
  cases h:has bs (kid n i) with
  |true=>rw[Z2 (Zcq n i) h];rfl
  |false=>rw[ZgI (Zcq n i) h,ZhY];rfl
theorem nr_in (bs:List (Str×Int))(k:Nat):∀ x:Str,x.length<=k->nr bs x=Str.empty\/has bs (nr bs x)=true:=by
  induction k with
  |zero=>intro x h;exact .inl (by rw[ZjL (x:=x) (by omega),Zdi])
  |succ k ih=>
    intro x h
    by_cases h0:x.length=0
    . exact .inl (by rw[ZjL h0,Zdi])
    . cases e:has bs x with
      |true=>rw[Z2 h0 e];exact .inr e
      |false=>rw[ZgI h0 e];exact ih (up x) (by have:=Zbh h0;omega)
theorem ZjE (bs:List (Str×Int))(x:Str):nr bs x=Str.empty\/has bs (nr bs x)=true:=nr_in bs x.length x (le_refl _)
theorem ZnX {bs ds:List (Str×Int)}(W:Wf bs ds):has bs Str.empty=false:=no_one W (by decide +kernel)
noncomputable def nv8 (bs ds:List (Str×Int))(x:Str):Bool := !has bs x && !al bs ds (nr bs x)
end L2
namespace L2
open PySem PySem.Spec
section
variable {X:Cx}
end
structure WorldAt (g:Ga)(H:Hp)(w:Addr)(S:Mo)(R:List Addr):Prop where
  ex:∃ dx b hd RL,H w=some (.ins g.World dx [("year", .int S.y),("lives", .ref b),("happened", .ref hd)])/\LivesAt g.Lives H b S.bs S.ds RL/\H hd=some (.dK (yrs S.cs))/\R=w::hd::RL/\w∉RL/\hd∉RL
section
variable {g:Ga}{H H':Hp}{w:Addr}{S:Mo}{R X:List Addr}
theorem WorldAt.wf (W:WorldAt g H w S R):Wf S.bs S.ds:=by
 obtain⟨dx,b,hd,RL,h1,L,_⟩:=W.ex;exact L.wf
theorem WorldAt.live (W:WorldAt g H w S R):ZjY H R:=by
  obtain⟨dx,b,hd,RL,h1,L,h3,rfl,_,_⟩:=W.ex;intro a ha;rcases List.mem_cons.mp ha with rfl|ha
  . exact⟨_,h1⟩
  rcases List.mem_cons.mp ha with rfl|ha
  . exact⟨_,h3⟩
  exact L.live a ha
theorem WorldAt.mv (W:WorldAt g H w S R)(h:∀ a∈R,∀ o,H a=some o->H' a=some o):WorldAt g H' w S R:=by
 obtain⟨dx,b,hd,RL,h1,L,h3,rfl,n1,n2⟩:=W.ex;exact⟨dx,b,hd,RL,h _ (by simp) _ h1,L.mv (λ a ha o e=>h a (mem_cons_of_mem _ (mem_cons_of_mem _ ha)) o e),h _ (by simp) _ h3,rfl,n1,n2⟩
theorem WorldAt.same (W:WorldAt g H w S R)(s:Zj H H'):WorldAt g H' w S R:=W.mv λ a _ o e=>s a o e
theorem WorldAt.keep (W:WorldAt g H w S R)(k:Yz X H H')(d:Dj R X):WorldAt g H' w S R:=W.mv λ a ha o e=>k.1 a o (d a ha) e
theorem WorldAt.no_tup {p:Addr}{xs:List V}(W:WorldAt g H w S R)(hp:H p=some (.tup xs)):p∉R:=by
  obtain⟨dx,b,hd,RL,h1,L,h3,rfl,n1,n2⟩:=W.ex;intro ha;rcases List.mem_cons.mp ha with rfl|ha
  . rw[h1]at hp;cases hp
  rcases List.mem_cons.mp ha with rfl|ha
  . rw[h3]at hp;cases hp
  exact L.no_tup hp ha
theorem WorldAt.book {dx b hd:Addr}{RL RL':List Addr}{bs' ds':List (Str×Int)}(h1:H w=some (.ins g.World dx [("year", .int S.y),("lives", .ref b),("happened", .ref hd)]))(h3:H hd=some (.dK (yrs S.cs)))(n1:w∉RL)(n2:hd∉RL)(k:Yz RL H H')(gr:Zdv H RL RL')(L':LivesAt g.Lives H' b bs' ds' RL'):WorldAt g H' w { S with bs:=bs',ds:=ds' } (w::hd::RL')/\Yz (w::hd::RL) H H'/\Zdv H (w::hd::RL) (w::hd::RL'):=by
  have f1:∀ a o,H a=some o->a∉RL->a∉RL':=λ a o e n z=>(gr a z).elim n λ q=>by rw[q]at e;cases e
  refine⟨⟨dx,b,hd,RL',k.1 _ _ n1 h1,L',k.1 _ _ n2 h3,rfl,f1 _ _ h1 n1,f1 _ _ h3 n2⟩,k.wide (λ a ha=>mem_cons_of_mem _ (mem_cons_of_mem _ ha)),λ a ha=>?_⟩;rcases List.mem_cons.mp ha with rfl|ha
  . exact .inl (by simp)
  rcases List.mem_cons.mp ha with rfl|ha
  . exact .inl (by simp)
  exact(gr a ha).imp (λ z=>mem_cons_of_mem _ (mem_cons_of_mem _ z)) id
end
open PySem PySem.Spec
section
variable {S:Mo}{k:Int}{x:Str}
end
noncomputable def Er.W (e:Er):Prop:=e = .bound\/e = .taken\/e = .text
end L2
namespace L2
open PySem PySem.Spec
inductive Atm where
  | year (y:Int)
  | comes (w:Str)
  | born (n:Str)
  | dead (n:Str)
  | age (n:Str) (a:Int)
noncomputable def Atm.vals:Atm->List V
  |.year y=>[.str "year", .int y]
  |.comes w=>[.str "comes", .str w]
  |.born n=>[.str "born", .str n]
  |.dead n=>[.str "dead", .str n]
  |.age n a=>[.str "age", .str n, .int a]
noncomputable def Xs (S:Mo)(n:Str)(y:Int):Int:=(yr S.ds n).getD S.y - y
noncomputable def YC (S:Mo)(n:Str)(y a:Int):Str:=if a<=Xs S n y then "met" else if has S.ds n=true then "failed" else "hangs"
noncomputable def ZX (S:Mo)(n:Str):Str:=if al S.bs S.ds (nr S.bs n)=true then "hangs" else "failed"
noncomputable def Atm.stand (S:Mo):Atm->Str
  |.year y=>if y<=S.y then "met" else "hangs"
  |.comes w=>if has S.cs w=true then "met" else "hangs"
  |.born n=>if has S.bs n=true then "met" else ZX S n
  |.dead n=>if has S.bs n=true then (if has S.ds n=true then "met" else "hangs") else ZX S n
  | .age n a=>match yr S.bs n with
    |some y=>YC S n y a
    |none=>ZX S n
noncomputable def Atm.who:Atm->Option Str
  |.born n=>some n
  |.dead n=>some n
  |.age n _=>some n
  |_=>none
noncomputable def Atm.bad (S:Mo)(t:Atm):Option Er:=match t.who with
  |none=>none
  |some n=>if has S.bs n=true then none else if pok n=false then some .text else if nr S.bs n=("":Str) then some .none_ else none
noncomputable def Atm.met (S:Mo):Atm->V
  |.year y => .int y
  |.comes w=>((yr S.cs w).map V.int).getD .non
  |.born n=>((yr S.bs n).map V.int).getD .non
  |.dead n=>((yr S.ds n).map V.int).getD .non
  |.age n a=>((yr S.bs n).map λ y=>V.int (y+a)).getD .non
noncomputable def Atm.since (S:Mo)(t:Atm):V:=if t.stand S=("hangs":Str) then .non else if t.stand S=("met":Str) then t.met S else match t.who with
  |some n=>((yr S.ds (nr S.bs n)).map V.int).getD .non
  |none => .non
section
variable {S:Mo}{t:Atm}{n:Str}
theorem Atm.stand_none (ht:t.who=some n)(hk:has S.bs n=false):t.stand S=ZX S n:=by
  cases t with
  |year y=>cases ht
  |comes w=>cases ht
  |born m=>cases ht;show(if has S.bs n=true then _ else _)=_;rw[hk];rfl
  |dead m=>cases ht;show(if has S.bs n=true then _ else _)=_;rw[hk];rfl
  |age m a=>
    cases ht;have hy:yr S.bs n=none:=by
      unfold has at hk;cases h:yr S.bs n with
      |none=>rfl
      |some y=>rw[h]at hk;cases hk
    show(match yr S.bs n with|some y=>_|none=>_)=_;rw[hy]
theorem Atm.bad_known (ht:t.who=some n)(hk:has S.bs n=true):t.bad S=none:=by
 unfold Atm.bad;rw[ht];exact if_pos hk
theorem Atm.bad_text (ht:t.who=some n)(hk:has S.bs n=false)(hp:pok n=false):t.bad S=some .text:=by
 unfold Atm.bad;rw[ht];show(if has S.bs n=true then _ else _)=_;rw[hk];exact if_pos hp
theorem Atm.bad_lost (ht:t.who=some n)(hk:has S.bs n=false)(hp:pok n=true)(hr:nr S.bs n=("":Str)):t.bad S=some .none_:=by
 unfold Atm.bad;rw[ht];show(if has S.bs n=true then _ else if pok n=false then _ else _)=_;rw[hk,hp];exact if_pos hr
theorem Atm.bad_fine (ht:t.who=some n)(hk:has S.bs n=false)(hp:pok n=true)(hr:nr S.bs n≠("":Str)):t.bad S=none:=by
 unfold Atm.bad;rw[ht];show(if has S.bs n=true then _ else if pok n=false then _ else _)=_;rw[hk,hp];exact if_neg hr
theorem Atm.known_met (ht:t.who=some n)(h:t.stand S=("met":Str)):has S.bs n=true:=by
  cases hk:has S.bs n with
  |true=>rfl
  |false=>
    rw[Atm.stand_none ht hk]at h;unfold ZX at h;split at h
    . exact absurd h (by decide +kernel)
    . exact absurd h (by decide +kernel)
theorem ZF {x:Str}(h:pok x=true):x.length≠0:=by
 intro e;obtain⟨c⟩:=x;obtain rfl:c = #[]:=Array.eq_empty_of_size_eq_zero e;exact absurd h (by decide +kernel)
theorem Atm.near_ok (W:Wf S.bs S.ds)(ht:t.who=some n)(hb:t.bad S=none):pok n=true/\has S.bs (nr S.bs n)=true:=by
  cases hk:has S.bs n with
  |true=>
    have hp:=W.wrt n hk;exact⟨hp,by rw[Z2 (ZF hp) hk];exact hk⟩
  |false=>
    cases hp:pok n with
    |false=>rw[Atm.bad_text ht hk hp]at hb;cases hb
    |true=>
      refine⟨rfl,?_⟩;rcases ZjE S.bs n with e|e
      . rw[Atm.bad_lost ht hk hp (e.trans (by decide +kernel))]at hb;cases hb
      . exact e
theorem Ze9 {a b:V}(k:Bool):atI [a,b] (if k=true then 1 else 0)=some (if k=true then b else a):=by cases k <;> rfl
end
end L2
namespace L2
open PySem PySem.Spec
noncomputable def fl (f:Nat->Bool)(n:Nat):List Nat:=(List.range n).filter f
theorem ZiO (f:Nat->Bool)(n:Nat):fl f (n+1)=fl f n++(if f n=true then [n] else []):=by
  unfold fl;rw[List.range_succ,filter_append];congr 1;cases e:f n with
  |true=>rw[filter_cons_of_pos e];rfl
  |false=>rw[filter_cons_of_neg (by rw[e];decide)];rfl
theorem fl_len (f:Nat->Bool)(n:Nat):(fl f n).length<=n:=by unfold fl;exact le_trans (length_filter_le _ _) (by rw[length_range];exact le_refl _)
theorem Zkr (n:Nat):fl (λ _=>true) n=List.range n:=by unfold fl;rw[List.filter_eq_self];intro _ _;rfl
theorem Zjl {α β:Type}{g:α->β}:∀ {l:List α} {m:List β},Paired (λ a b=>b=g a) l m->m=l.map g
  |_,_, .nil=>rfl
  |_,_, .cons r t=>by rw[r,Zjl t];rfl
noncomputable abbrev LCs (caps:List (Str×Nat))(J:It)(tt:TT)(te:TE)(σ:St)(H1:Hp)(Q:VK):Prop:=
    ∀ D,H1 D=none->∃ W:Nat->Nat->Hp->Prop,(∃ m,W 0 m (upd H1 D (.lst [])))/\∀ i m H2,W i m H2 ->
      (J.stop i H2/\Q (.ref D) H2)\/(J.go i H2/\∀ x H',J.yld i H2 x H'->tt (some x::Z9 caps σ) H' λ b H3=>
        if b=true then te (some x::Z9 caps σ) H3 λ v H4=>∃ ys m',H4 D=some (.lst ys)/\ys.length<sizeLine/\m'<m/\W (i+1) m' (upd H4 D (.lst (ys++[v])))
        else ∃ m',m'<m/\W (i+1) m' H3)
section
variable {K:Frag}{caps:List (Str×Nat)}{tt:TT}{tl te:TE}{σ:St}{H H1:Hp}{Q:VK}
theorem lcG {J:It}{n:Nat}(X:Nat->V)(hn:n<=900)(stop:∀ H,Zj H1 H->J.stop n H)(go:∀ i H,i<n->Zj H1 H->J.go i H/\∀ x H',J.yld i H x H'->H'=H/\x=X i)(f:Nat->Bool)(P:Nat->V->Hp->Prop)(mono:∀ i v H H' D ys,H D=some (.lst ys)->Yz [D] H H'->P i v H->P i v H')(step:∀ i H2,i<n->Zj H1 H2->∀ R:Bool->Hp->Prop,(∀ H3,Zj H2 H3->R (f i) H3)->tt (some (X i)::Z9 caps σ) H2 R)(elt:∀ i H2,i<n->f i=true->Zj H1 H2->∀ R:VK,(∀ v H3,Zj H2 H3->P i v H3->R v H3)->te (some (X i)::Z9 caps σ) H2 R)(q:∀ D ys H2,H1 D=none->Zj H1 H2->H2 D=some (.lst ys)->Paired (λ j v=>P j v H2) (fl f n) ys->Q (.ref D) H2) :
    LCs caps J tt te σ H1 Q:=by
  intro D hD;refine⟨λ i m H2=>i<=n/\m=n - i/\Zj H1 H2/\∃ ys,H2 D=some (.lst ys)/\Paired (λ j v=>P j v H2) (fl f i) ys,⟨n,zero_le _,rfl,Zi hD _,[],Ze, .nil⟩,?_⟩;rintro i m H2 ⟨hi,rfl,s2,ys,h2,hp⟩
  by_cases hlt:i<n
  . obtain⟨g1,g2⟩:=go i H2 hlt s2;refine .inr ⟨g1,λ x H' y=>?_⟩;obtain⟨rfl,rfl⟩:=g2 x H' y;refine step i _ hlt s2 _ λ H3 s3=>?_;have p3:=Paired.mapP hp λ j v h=>mono j v _ H3 D ys h2 (s3.kp.wide (λ _ h=>nomatch h)) h;have nx:=ZiO f i;cases e:f i with
    |false=>
      rw[e]at nx;exact⟨n - (i+1),by omega,hlt,rfl,s2.trans s3,ys,s3 _ _ h2,by rw[nx,if_neg (by decide),append_nil];exact p3⟩
    |true=>
      rw[e]at nx;show te _ H3 _;refine elt i _ hlt e (s2.trans s3) _ λ v H4 s4 hv=>?_;have h4:=s4 _ _ (s3 _ _ h2);have p4:=Paired.mapP p3 λ j v h=>mono j v _ H4 D ys (s3 _ _ h2) (s4.kp.wide (λ _ h=>nomatch h)) h;have yl:ys.length<=i:=by rw[<- hp.length];exact fl_len f i
      refine⟨ys,n - (i+1),h4,Zz (by omega),by omega,hlt,rfl,Z0 ((s2.trans s3).trans s4) hD,ys++[v],Ze,?_⟩;rw[nx,if_pos rfl];exact(Paired.mapP p4 λ j v h=>mono j v _ _ D ys h4 Xd h).snoc (mono i v _ _ D ys h4 Xd hv)
  . have e:i=n:=by omega
    subst e;exact .inl ⟨stop _ s2,q D ys H2 hD s2 h2 hp⟩
theorem lcR {lo:Int}{n:Nat}(hn:n<=900)(f:Nat->Bool)(P:Nat->V->Hp->Prop)(mono:∀ i v H H' D ys,H D=some (.lst ys)->Yz [D] H H'->P i v H->P i v H')(step:∀ i H2,i<n->Zj H1 H2->∀ R:Bool->Hp->Prop,(∀ H3,Zj H2 H3->R (f i) H3)->tt (some (.int (lo+i))::Z9 caps σ) H2 R)(elt:∀ i H2,i<n->f i=true->Zj H1 H2->∀ R:VK,(∀ v H3,Zj H2 H3->P i v H3->R v H3)->te (some (.int (lo+i))::Z9 caps σ) H2 R)(q:∀ D ys H2,H1 D=none->Zj H1 H2->H2 D=some (.lst ys)->Paired (λ j v=>P j v H2) (fl f n) ys->Q (.ref D) H2):LCs caps (Itr lo n) tt te σ H1 Q:=
 lcG (J:=Itr lo n) (Q:=Q) (λ i => .int (lo+i)) hn (λ _ _=>le_refl n) (λ i H h _=>⟨h,λ x H' y=>y⟩) f P mono step elt q
theorem lcL {a:Addr}{xs:List V}(hl:SqL K H1 a xs)(hn:xs.length<=900)(f:Nat->Bool)(P:Nat->V->Hp->Prop)(mono:∀ i v H H' D ys,H D=some (.lst ys)->Yz [D] H H'->P i v H->P i v H')(step:∀ i x H2,xs[i]? = some x->Zj H1 H2->∀ R:Bool->Hp->Prop,(∀ H3,Zj H2 H3->R (f i) H3)->tt (some x::Z9 caps σ) H2 R)(elt:∀ i x H2,xs[i]? = some x->f i=true->Zj H1 H2->∀ R:VK,(∀ v H3,Zj H2 H3->P i v H3->R v H3)->te (some x::Z9 caps σ) H2 R)(q:∀ D ys H2,H1 D=none->Zj H1 H2->H2 D=some (.lst ys)->Paired (λ j v=>P j v H2) (fl f xs.length) ys->Q (.ref D) H2):LCs caps (Itl K a) tt te σ H1 Q:=
  lcG (J:=Itl K a) (Q:=Q) (λ i=>xs[i]?.getD .non) hn (λ H s=>⟨xs,s.seq hl,le_refl _⟩)
    (λ i H h s=>⟨⟨xs,xs[i],s.seq hl,getElem?_eq_getElem h⟩,λ x H' y=>⟨y.1,by rw[y.2 xs (s.seq hl)];rfl⟩⟩) f P mono
    (λ i H2 hi s=>by
      have e:xs[i]? = some xs[i]:=getElem?_eq_getElem hi;show ∀ R,_->tt (some (xs[i]?.getD .non)::Z9 caps σ) H2 R;rw[e];exact step i _ H2 e s)
    (λ i H2 hi hf s=>by
      have e:xs[i]? = some xs[i]:=getElem?_eq_getElem hi;show ∀ R,_->te (some (xs[i]?.getD .non)::Z9 caps σ) H2 R;rw[e];exact elt i _ H2 e hf s) q
theorem lcLv {a:Addr}{xs:List V}(hl:SqL K H1 a xs)(hn:xs.length<=900)(f:Nat->Bool)(g:Nat->V)(step:∀ i x H2,xs[i]? = some x->Zj H1 H2->∀ R:Bool->Hp->Prop,(∀ H3,Zj H2 H3->R (f i) H3)->tt (some x::Z9 caps σ) H2 R)(elt:∀ i x H2,xs[i]? = some x->f i=true->Zj H1 H2->∀ R:VK,(∀ H3,Zj H2 H3->R (g i) H3)->te (some x::Z9 caps σ) H2 R)(q:∀ D H2,H1 D=none->Zj H1 H2->H2 D=some (.lst ((fl f xs.length).map g))->Q (.ref D) H2):LCs caps (Itl K a) tt te σ H1 Q:=
  lcL (Q:=Q) hl hn f (λ i v _=>v=g i) (λ _ _ _ _ _ _ _ _ h=>h) step (λ i x H2 hx hf s R r=>elt i x H2 hx hf s R λ H3 s3=>r _ H3 s3 rfl)
    (λ D ys H2 h1 s h2 hp=>q D H2 h1 s (by rw[<- Zjl hp];exact h2))
end
open PySem PySem.Spec
section
variable {K:Frag}{caps:List (Str×Nat)}{tt:TT}{tl te:TE}{ta:TA}{σ:St}{H:Hp}{Q:VK}
theorem lcLT {xs:List V}(A:Addr->Hp->Prop)(htl:∀ R:VK,(∀ a H1,A a H1->R (.ref a) H1)->tl σ H R)(hA:∀ a H1,A a H1->SqL K H1 a xs)(hn:xs.length<=900)(f:Nat->Bool)(P:Addr->Hp->Nat->V->Hp->Prop)(mono:∀ a H1 i v H H' D ys,H D=some (.lst ys)->Yz [D] H H'->P a H1 i v H->P a H1 i v H')(step:∀ a H1 i x H2,A a H1->xs[i]? = some x->Zj H1 H2->∀ R:Bool->Hp->Prop,(∀ H3,Zj H2 H3->R (f i) H3)->tt (some x::Z9 caps σ) H2 R)(elt:∀ a H1 i x H2,A a H1->xs[i]? = some x->f i=true->Zj H1 H2->∀ R:VK,(∀ v H3,Zj H2 H3->P a H1 i v H3->R v H3)->te (some x::Z9 caps σ) H2 R)(q:∀ a H1 D ys H2,A a H1->H1 D=none->Zj H1 H2->H2 D=some (.lst ys)->Paired (λ j v=>P a H1 j v H2) (fl f xs.length) ys->Q (.ref D) H2):tLC caps (Zff K tl) tt te σ H Q:=
 htl _ λ a H1 h=>⟨a,rfl,⟨xs,hA a H1 h⟩,lcL (hA a H1 h) hn f (P a H1) (mono a H1) (λ i x H2=>step a H1 i x H2 h) (λ i x H2=>elt a H1 i x H2 h) (λ D ys H2=>q a H1 D ys H2 h)⟩
theorem ZmM {xs:List V}(A:Addr->Hp->Prop)(htl:∀ R:VK,(∀ a H1,A a H1->R (.ref a) H1)->tl σ H R)(hA:∀ a H1,A a H1->SqL K H1 a xs)(hn:xs.length<=900)(f:Nat->Bool)(g:Nat->V)(step:∀ a H1 i x H2,A a H1->xs[i]? = some x->Zj H1 H2->∀ R:Bool->Hp->Prop,(∀ H3,Zj H2 H3->R (f i) H3)->tt (some x::Z9 caps σ) H2 R)(elt:∀ a H1 i x H2,A a H1->xs[i]? = some x->f i=true->Zj H1 H2->∀ R:VK,(∀ H3,Zj H2 H3->R (g i) H3)->te (some x::Z9 caps σ) H2 R)(q:∀ a H1 D H2,A a H1->H1 D=none->Zj H1 H2->H2 D=some (.lst ((fl f xs.length).map g))->Q (.ref D) H2):tLC caps (Zff K tl) tt te σ H Q:=
 htl _ λ a H1 h=>⟨a,rfl,⟨xs,hA a H1 h⟩,lcLv (hA a H1 h) hn f g (λ i x H2=>step a H1 i x H2 h) (λ i x H2=>elt a H1 i x H2 h) (λ D H2=>q a H1 D H2 h)⟩
end
end L2
namespace L2
open PySem PySem.Spec
noncomputable def okN (S:Mo)(n:Str):Prop:=pok n=true/\nr S.bs n≠Str.empty
noncomputable def Atm.ok (S:Mo):Atm->Prop
  |.year y=>0<=y/\y<10000
  |.comes w=>gw w=true
  |.born n=>okN S n
  |.dead n=>okN S n
  |.age n a=>okN S n/\0<=a/\a<=120
section
variable {S:Mo}{t:Atm}{n:Str}
theorem Atm.ok_who (h:t.ok S)(hw:t.who=some n):okN S n:=by
  cases t with
  |year y=>cases hw
  |comes w=>cases hw
  |born m=>cases hw;exact h
  |dead m=>cases hw;exact h
  |age m a=>cases hw;exact h.1
theorem Atm.ok_bad (h:t.ok S):t.bad S=none:=by
  cases hw:t.who with
  |none=>unfold Atm.bad;rw[hw]
  |some n=>
    have z:=Atm.ok_who h hw;cases hk:has S.bs n with
    |true=>exact Atm.bad_known hw hk
    |false=>exact Atm.bad_fine hw hk z.1 (λ e=>z.2 (e.trans (by decide +kernel)))
theorem Atm.ok_len (h:t.ok S):∀ n,t.who=some n->n.length<=200:=λ n hw=>by have:=Yx (Atm.ok_who h hw).1;omega
end
structure AtmsAt (H:Hp)(l:Addr)(ts:List Atm)(ps:List Addr):Prop where
  lst:H l=some (.lst (ps.map V.ref))
  len:ps.length=ts.length
  at_:∀(i:Nat)(p:Addr)(t:Atm),ps[i]? = some p->ts[i]? = some t->H p=some (.tup t.vals)
section
variable {H H':Hp}{l:Addr}{ts:List Atm}{ps X:List Addr}
theorem AtmsAt.mv (D:AtmsAt H l ts ps)(h:∀ a∈l::ps,∀ o,H a=some o->H' a=some o):AtmsAt H' l ts ps:=
 ⟨h _ (by simp) _ D.lst,D.len,λ i p d e1 e2=>h _ (mem_cons_of_mem _ (mem_of_getElem? e1)) _ (D.at_ i p d e1 e2)⟩
theorem AtmsAt.same (D:AtmsAt H l ts ps)(s:Zj H H'):AtmsAt H' l ts ps:=D.mv λ a _ o e=>s a o e
theorem AtmsAt.at' (D:AtmsAt H l ts ps){i:Nat}{v:V}(h:(ps.map V.ref)[i]? = some v):∃ p t,v = .ref p/\ts[i]? = some t/\H p=some (.tup t.vals):=by
  rw[getElem?_map]at h;cases e:ps[i]? with
  |none=>rw[e]at h;cases h
  |some p=>
    rw[e]at h;cases h;have hi:i<ts.length:=by rw[<- D.len];exact(List.getElem?_eq_some_iff.mp e).1
    exact⟨p,_,rfl,getElem?_eq_getElem hi,D.at_ i p _ e (getElem?_eq_getElem hi)⟩
end
theorem Zlc {H:Hp}{l:Addr}{ok:Atm->Prop}{fr:Addr->Prop}{js:List Nat}{ys:List V}(hl:H l=some (.lst ys))(h:Paired (λ _ v=>∃ p t,v=V.ref p/\H p=some (.tup (Atm.vals t))/\ok t/\fr p) js ys):∃ ts ps,AtmsAt H l ts ps/\(∀ t∈ts,ok t)/\(∀ p∈ps,fr p)/\ts.length=js.length:=by
  suffices z:∃(ts:List Atm)(ps:List Addr),ys=ps.map V.ref/\ps.length=ts.length/\(∀(i:Nat)(p:Addr)(t:Atm),ps[i]? = some p->ts[i]? = some t->H p=some (.tup t.vals))/\(∀ t∈ts,ok t)/\(∀ p∈ps,fr p)/\ts.length=js.length by
    obtain⟨ts,ps,e,a,b,c,d,f⟩:=z;exact⟨ts,ps,⟨by rw[hl,e],a,b⟩,c,d,f⟩
  clear hl
  induction h with
  |nil=>exact⟨[],[],rfl,rfl,(λ i p t h=>by simp at h),(λ _ h=>nomatch h),(λ _ h=>nomatch h),rfl⟩
  |cons r _ ih=>
    obtain⟨ts,ps,e,a,b,c,d,f⟩:=ih;obtain⟨p,t,rfl,hp,ho,hf⟩:=r;refine⟨t::ts,p::ps,by rw[e];rfl,by rw[length_cons,length_cons,a],?_,?_,?_,by rw[length_cons,length_cons,f]⟩
    . intro i q u h1 h2;cases i with
      |zero=>cases h1;cases h2;exact hp
      |succ i=>exact b i q u h1 h2
    . intro u hu;rcases List.mem_cons.mp hu with rfl|hu
      . exact ho
      . exact c u hu
    . intro u hu;rcases List.mem_cons.mp hu with rfl|hu
      . exact hf
      . exact d u hu
theorem Zii {a b:V}(n:Int):∃ v,atI [a,b] (n % 2)=some v/\(v=a\/v=b):=by
  rcases(show n % 2=0\/n % 2=1 by omega) with e|e <;> rw[e]
  . exact⟨_,rfl, .inl rfl⟩
  . exact⟨_,rfl, .inr rfl⟩
open PySem PySem.Spec
theorem ZmT {H H':Hp}{D p:Addr}{ys xs:List V}(hD:H D=some (.lst ys))(k:Yz [D] H H')(hp:H p=some (.tup xs)):H' p=some (.tup xs):=
 k.1 p _ (λ z=>ZN hp hD (λ e=>by cases e) (List.mem_singleton.mp z)) hp
theorem Znm {ok:Atm->Prop}{fr:Addr->Prop}:∀(i:Nat)(v:V)(H H':Hp)(D:Addr)(ys:List V),H D=some (.lst ys)->Yz [D] H H' ->
    (∃ p t,v=V.ref p/\H p=some (.tup (Atm.vals t))/\ok t/\fr p)->∃ p t,v=V.ref p/\H' p=some (.tup (Atm.vals t))/\ok t/\fr p:=
  λ _ _ _ _ _ _ hD k ⟨p,t,e,hp,a,b⟩=>⟨p,t,e,ZmT hD k hp,a,b⟩
theorem cl_sub {cl cells:List (Str×Addr)}(h:∀ p∈cl,cells.lookup p.1=some p.2):∀ x c,cl.lookup x=some c->cells.lookup x=some c:=by
  intro x c e
  induction cl with
  |nil=>cases e
  |cons p r ih=>
    obtain⟨k,v⟩:=p;rw[List.lookup_cons]at e;cases q:x == k with
    |true=>
      rw[q]at e;have e':some v=some c:=e;have hk:x=k:=eq_of_beq q;rw[hk,<- e'];exact h (k,v) (by simp)
    |false=>
      rw[q]at e;exact ih (λ p hp=>h p (mem_cons_of_mem _ hp)) e
open PySem PySem.Spec
noncomputable def Er.nm:Er->Str
  |.none_=>"person"|.text=>"text"|_=>""
open PySem PySem.Spec
theorem AtmsAt.cons {H:Hp}{l l' p:Addr}{t:Atm}{ts:List Atm}{ps:List Addr}(A:AtmsAt H l ts ps)(hp:H p=some (.tup t.vals))(hl:H l'=some (.lst ((p::ps).map V.ref))):AtmsAt H l' (t::ts) (p::ps):=
  ⟨hl,by rw[length_cons,length_cons,A.len],λ i q u e1 e2=>by
    cases i with
    |zero=>cases e1;cases e2;exact hp
    |succ i=>exact A.at_ i q u e1 e2⟩
theorem ZlE {w:Str}(h:gw w=true):46∉w.cps.toList:=λ hm=>by
 unfold gw at h;simp only[and_eq_true]at h;have z:=List.all_eq_true.mp h.1.2 46 hm;exact absurd z (by decide)
theorem up_gw {w:Str}(h:gw w=true):up w=Str.empty:=by
  unfold up;rcases StrLaws.last_spec w dot with ⟨e,_⟩|⟨i,e,z,_⟩
  . rw[e]
  . exact absurd (mem_of_getElem? ((L2.at_iff w i).mp z)) (ZlE h)
theorem ZgJ {bs:List (Str×Int)}{w:Str}(h:gw w=true)(hk:has bs w=false):nr bs w=Str.empty:=by
 rw[ZgI (by have:=(ZiL h).1;omega) hk,up_gw h,Zdi]
theorem ZnL (w:Str):w++(".1":Str)=kid w 0:=by
 unfold kid;refine Jg ?_;rw[Xi,Xi,Xi,ZhJ,append_assoc,show(".1":Str).cps.toList=[46]++(toString (((0:Nat):Int)+1):Str).cps.toList by decide +kernel]
end L2
namespace L2
open PySem PySem.Spec
noncomputable def Yk (ss:List Str):Str:=if ("failed":Str)∈ss then "failed" else if ("hangs":Str)∈ss then "hangs" else "met"
theorem ZaB (a:Str)(ss:List Str):inV (.str a) (ss.map V.str)=decide (a∈ss):=by
  unfold inV;rw[List.any_map]
  induction ss with
  |nil=>rfl
  |cons b r ih=>
    rw[any_cons,ih];show((b == a) || decide (a∈r))=_
    by_cases e:b=a
    . subst e;simp
    . rw[beq_eq_false_iff_ne.mpr e];simp[Ne.symm e]
theorem Jq (ss:List Str):(ss.map V.str).all ZcK=true:=by
 rw[List.all_map,List.all_eq_true];intro _ _;rfl
noncomputable def Atm.data:Atm->PyData
  |.year y => .tuple [.str "year", .int y]
  |.comes w => .tuple [.str "comes", .str w]
  |.born n => .tuple [.str "born", .str n]
  |.dead n => .tuple [.str "dead", .str n]
  |.age n a => .tuple [.str "age", .str n, .int a]
theorem AtmsAt.copy {H:Hp}{l l':Addr}{ts:List Atm}{ps:List Addr}(A:AtmsAt H l ts ps)(h:H l'=some (.lst (ps.map V.ref))):AtmsAt H l' ts ps:=⟨h,A.len,A.at_⟩
open PySem PySem.Spec
theorem Zhs {S:Mo}(ts:List Atm):((List.range ts.length).map λ i=>V.str ((ts[i]?.map (Atm.stand S)).getD ""))=(ts.map (Atm.stand S)).map V.str:=by
  rw[map_map];refine List.ext_getElem? λ i=>?_;rw[getElem?_map,getElem?_map]
  by_cases h:i<ts.length
  . rw[List.getElem?_range h,getElem?_eq_getElem h];simp[getElem?_eq_getElem h]
  . rw[getElem?_eq_none (by simpa using h),getElem?_eq_none (by simpa using h)];rfl
end L2
namespace L2
open PySem PySem.Spec
section
variable {K:Frag}{caps:List (Str×Nat)}{tl te:TE}{tt:TT}{σ:St}{H:Hp}{Q:VK}
theorem lcS {ss:List Str}(A:Addr->Hp->Prop)(f:Str->Bool)(ge:Str->V)(htl:∀ R:VK,(∀ a H1,A a H1->R (.ref a) H1)->tl σ H R)(hA:∀ a H1,A a H1->SqL K H1 a (ss.map V.str))(hlen:ss.length<=900)(step:∀ a H1 x H2,A a H1->x∈ss->Zj H1 H2->∀ R:Bool->Hp->Prop,(∀ H3,Zj H2 H3->R (f x) H3)->tt (some (.str x)::Z9 caps σ) H2 R)(elt:∀ a H1 x H2,A a H1->x∈ss->f x=true->Zj H1 H2->∀ R:VK,(∀ H3,Zj H2 H3->R (ge x) H3)->te (some (.str x)::Z9 caps σ) H2 R)(q:∀ a H1 D H2,A a H1->H1 D=none->Zj H1 H2->H2 D=some (.lst ((ss.filter f).map ge))->Q (.ref D) H2):tLC caps (Zff K tl) tt te σ H Q:=by
  refine lclT (xs:=ss.map V.str) A htl hA (by rw[length_map];exact hlen) (λ v=>match v with|.str x=>f x|_=>false) (λ v=>match v with|.str x=>ge x|_=>v) ?_ ?_ ?_
  . intro a H1 i x H2 hA hx s;rw[getElem?_map]at hx;cases e:ss[i]? with
    |none=>rw[e]at hx;cases hx
    |some y=>rw[e]at hx;cases hx;exact step a H1 y H2 hA (mem_of_getElem? e) s
  . intro a H1 i x H2 hA hx hf s;rw[getElem?_map]at hx;cases e:ss[i]? with
    |none=>rw[e]at hx;cases hx
    |some y=>rw[e]at hx;cases hx;exact elt a H1 y H2 hA (mem_of_getElem? e) hf s
  . intro a H1 D H2 hA hD s h;refine q a H1 D H2 hA hD s ?_;rw[h,List.filter_map,map_map];rfl
end
noncomputable def Yd (S:Mo)(n:Str):List Str:=kidL n (nk S.bs n)
noncomputable def YI (S:Mo)(n:Str)(os:List Str):List Str:=(Yd S n).filter λ c => !decide (c∈os)
noncomputable def Xf (S:Mo)(c:Str):Int:=(yr S.bs c).getD 0
noncomputable def Xp (S:Mo)(c:Str):Int:=(yr S.ds c).getD S.y - Xf S c
noncomputable def ZbD (S:Mo)(n:Str)(a:Int)(os:List Str):List Str:=(YI S n os).filter λ c=>decide (a<=Xp S c)
noncomputable def ZH (S:Mo)(n:Str)(a:Int)(os:List Str):List Str:=(YI S n os).filter λ c => !decide (a<=Xp S c) && !has S.ds c
noncomputable def Z5 (S:Mo)(n:Str):List Str:=(Yd S n).filter λ c=>has S.ds c
section
variable {S:Mo}{n c:Str}{a:Int}{os:List Str}
theorem JG (W:Wf S.bs S.ds)(n:Str):(Yd S n).length<=S.bs.length:=by
 unfold Yd kidL;rw[length_map,length_range];exact W.few n
theorem Z4 (W:Wf S.bs S.ds)(h:c∈Yd S n):has S.bs c=true:=by
 unfold Yd kidL at h;obtain⟨i,hi,rfl⟩:=List.mem_map.mp h;have hi:=List.mem_range.mp hi;exact(W.cnt n i (by have:=W.few n;have:=W.lim;omega)).mpr hi
theorem YQ (h:c∈YI S n os):c∈Yd S n:=(List.mem_filter.mp h).1
theorem ZaA (W:Wf S.bs S.ds):(YI S n os).length<=S.bs.length:=le_trans (length_filter_le _ _) (JG W n)
theorem Zhp (h:c∈ZH S n a os):c∈Yd S n:=YQ (List.mem_filter.mp h).1
theorem Zmv (h:c∈Z5 S n):c∈Yd S n:=(List.mem_filter.mp h).1
theorem XY (W:Wf S.bs S.ds)(h:has S.bs n=false):Yd S n=[]:=by
 unfold Yd;rw[W.nk_none h];rfl
theorem Zeh {y:Int}(h:yr S.bs c=some y):Xf S c=y:=by unfold Xf;rw[h];rfl
theorem Zg7 {y:Int}(h:yr S.bs c=some y):(yr S.ds c).getD S.y - y=Xp S c:=by unfold Xp;rw[Zeh h]
theorem YR (h:has S.bs c=true):al S.bs S.ds c = !has S.ds c:=by unfold al;rw[h];rfl
theorem Zbk {y:Int}(h:yr S.bs c=some y):decide (V.str (YC S c y a)=V.str "hangs")=(!decide (a<=Xp S c) && !has S.ds c):=by
  unfold YC;rw[show Xs S c y=Xp S c from Zg7 h]
  by_cases h1:a<=Xp S c
  . rw[if_pos h1,decide_eq_true h1];exact decide_eq_false (λ e=>absurd (by injection e:("met":Str)="hangs") (by decide +kernel))
  . rw[if_neg h1,decide_eq_false h1];cases h2:has S.ds c with
    |true=>exact decide_eq_false (λ e=>absurd (by injection e:("failed":Str)="hangs") (by decide +kernel))
    |false=>exact decide_eq_true rfl
theorem Zl2:((YI S n os).filter λ c => !has S.ds c).filter (λ c=>decide (Xp S c<a))=ZH S n a os:=by
  unfold ZH;rw[List.filter_filter];congr 1;funext c;congr 1
  by_cases h:a<=Xp S c
  . rw[decide_eq_true h,decide_eq_false (by omega)];rfl
  . rw[decide_eq_false h,decide_eq_true (by omega)];rfl
theorem out_eq (W:Wf S.bs S.ds):((Yd S n).filter λ c => !al S.bs S.ds c)=Z5 S n:=by
 unfold Z5;refine List.filter_congr λ c hc=>?_;rw[YR (Z4 W hc),Bool.not_not]
end
end L2
namespace L2
open PySem PySem.Spec
theorem fig1:∀ c∈List.range 9,(⟨#[49+c]⟩:Str)=(toString ((c:Int)+1):Str):=by decide +kernel
theorem fig2:∀ c∈List.range 9,∀ d∈List.range 10,(⟨#[49+c,48+d]⟩:Str)=(toString (((10 * (c+1)+d - 1:Nat):Int)+1):Str):=by decide +kernel
theorem gn_is {p:Str}(h:gn p=true):∃ i:Nat,i<99/\p=(toString ((i:Int)+1):Str):=by
  unfold gn at h;simp only[and_eq_true,decide_eq_true_eq]at h;obtain⟨⟨⟨h1,h2⟩,h3⟩,h4⟩:=h;have hl:p.cps.toList.length=p.length:=length_toList;have ep:p=⟨p.cps.toList.toArray⟩:=Jg (by simp);rcases hc:p.cps.toList with _|⟨c,_|⟨d,_|⟨e,r⟩⟩⟩
  . rw[hc]at hl;simp at hl;omega
  . rw[hc]at h3 h4 ep;simp[inR]at h3 h4;obtain⟨k,hk,rfl⟩:∃ k,k<9/\c=49+k:=⟨c - 49,by omega,by omega⟩;exact⟨k,by omega,ep.trans (fig1 k (List.mem_range.mpr hk))⟩
  . rw[hc]at h3 h4 ep;simp[inR]at h3 h4;obtain⟨k,hk,rfl⟩:∃ k,k<9/\c=49+k:=⟨c - 49,by omega,by omega⟩;obtain⟨j,hj,rfl⟩:∃ j,j<10/\d=48+j:=⟨d - 48,by omega,by omega⟩;exact⟨10 * (k+1)+j - 1,by omega,ep.trans (fig2 k (List.mem_range.mpr hk) j (List.mem_range.mpr hj))⟩
  . rw[hc]at hl;simp at hl;omega
theorem ZgM (n:Str)(i:Nat):n.length<(kid n i).length:=by
  have e:(kid n i).length=n.length+1+(toString ((i:Int)+1):Str).length:=by
    unfold kid;rw[YO,YO];rfl
  omega
theorem Jm {x:Str}(h:pok x=true):gw x=true\/∃(n:Str)(i:Nat),i<99/\x=kid n i/\pok n=true/\Yl n<5:=by
  have h':=h;unfold pok at h;simp only[and_eq_true,decide_eq_true_eq]at h;obtain⟨⟨hw,h5⟩,hg⟩:=h;rcases eq_nil_or_concat (nms x) with e|⟨m,p,e⟩
  . left;have:pcs x=[wd x]:=by rw[Xy,e]
    have e2:Str.join dot [wd x]=x:=by rw[<- this];exact YX x
    have:wd x=x:=e2;rw[<- this];exact hw
  . right;rw[List.concat_eq_append]at e;obtain⟨i,hi,hp⟩:=gn_is (List.all_eq_true.mp hg p (by rw[e];simp));have hpc:pcs x=(wd x::m)++[p]:=by rw[Xy,e];rfl
    have fr:∀ q∈wd x::m,46∉q.cps.toList:=λ q hq=>JE (x:=x) (by rw[hpc];exact mem_append_left _ hq);have pn:pcs (Str.join dot (wd x::m))=wd x::m:=ZgO _ _ (Zdg _) (by simp) (λ q hq=>JE hq) fr (by rw[YX]);have wn:wd (Str.join dot (wd x::m))=wd x:=by show(pcs (Str.join dot (wd x::m))).headD ""=wd x;rw[pn];rfl
    have nn:nms (Str.join dot (wd x::m))=m:=by unfold nms;rw[pn];rfl
    have ml:m.length<5:=by rw[e,length_append,length_singleton]at h5;omega
    refine⟨Str.join dot (wd x::m),i,hi,?_,?_,by rw[Y5,nn];exact ml⟩
    . have e3:pcs (kid (Str.join dot (wd x::m)) i)=pcs x:=by rw[Zik,pn,hpc,hp]
      exact(YX x).symm.trans ((congrArg (Str.join dot) e3.symm).trans (YX _))
    . unfold pok;rw[wn,nn,hw];simp only[Bool.true_and,and_eq_true,decide_eq_true_eq];exact⟨by omega,List.all_eq_true.mpr λ q hq=>List.all_eq_true.mp hg q (by rw[e];exact mem_append_left _ hq)⟩
theorem Zj0 {bs ds:List (Str×Int)}(W:Wf bs ds):∀(k:Nat)(x:Str),x.length<=k->pok x=true->nr bs x≠Str.empty->gw (wd x)=true/\has bs (wd x)=true:=by
  intro k
  induction k with
  |zero=>intro x hx hp _;exact absurd (Nat.le_zero.mp hx) (ZF hp)
  |succ k ih=>
    intro x hx hp hn;rcases Jm hp with hg|⟨n,i,hi,rfl,pn,dn⟩
    . rw[wd_gw hg];refine⟨hg,?_⟩;cases e:has bs x with
      |true=>rfl
      |false=>exact absurd (ZgJ hg e) hn
    . rw[Zl5];refine ih n (by have:=ZgM n i;omega) pn ?_;rw[YT]at hn;cases e:has bs (kid n i) with
      |true=>
        have z:=W.par n i e;rw[Z2 (ZF pn) z];exact λ e=>ZF pn (by rw[e];rfl)
      |false=>rw[e]at hn;exact hn
theorem ZmA {S:Mo}(W:Wf S.bs S.ds){x:Str}(h:okN S x):okN S (wd x):=by
 obtain⟨a,b⟩:=Zj0 W x.length x (le_refl _) h.1 h.2;refine⟨Zif a,?_⟩;rw[Z2 (ZF (Zif a)) b];exact λ e=>ZF (Zif a) (by rw[e];rfl)
open PySem PySem.Spec
end L2
namespace L2
open PySem PySem.Spec
structure Cl where
  n:Str
  a:Int
  os:List Str
  day:Int
noncomputable def Cl.ok (S:Mo)(c:Cl):Prop:=okN S c.n/\0<=c.a/\c.a<=120/\(∀ s∈c.os,PyData.strOk s=true)/\c.os.length<=98
structure MadeAt (tl:Cl->List V)(H:Hp)(lm:Addr)(cs:List Cl)(qs:List (Addr×Addr)):Prop where
  lst:H lm=some (.lst (qs.map λ q=>V.ref q.1))
  len:qs.length=cs.length
  at_:∀(i:Nat) q c,qs[i]? = some q->cs[i]? = some c->H q.1=some (.tup ([.str c.n, .int c.a, .ref q.2]++tl c))/\H q.2=some (.lst (c.os.map V.str))
  ne:∀ q∈qs,q.2≠lm
noncomputable def rgn (lm:Addr)(qs:List (Addr×Addr)):List Addr:=lm::qs.map (·.1)++qs.map (·.2)
section
variable {tl:Cl->List V}{H H':Hp}{lm:Addr}{cs:List Cl}{qs:List (Addr×Addr)}{X:List Addr}
end
theorem ZnN {bs ds:List (Str×Int)}(W:Wf bs ds){bs':List (Str×Int)}(h:∀ x,has bs x=true->has bs' x=true):∀(k:Nat)(x:Str),x.length<=k->nr bs x≠Str.empty->nr bs' x≠Str.empty:=by
  intro k
  induction k with
  |zero=>intro x hx hn;exact absurd (by rw[ZjL (Nat.le_zero.mp hx)];exact Zdi bs) hn
  |succ k ih=>
    intro x hx hn
    by_cases h0:x.length=0
    . exact absurd (by rw[ZjL h0];exact Zdi bs) hn
    . cases e':has bs' x with
      |true=>rw[Z2 h0 e'];exact λ e=>h0 (by rw[e];rfl)
      |false=>
        rw[ZgI h0 e'];have e:has bs x=false:=by
          cases z:has bs x with
          |false=>rfl
          |true=>rw[h x z]at e';cases e'
        rw[ZgI h0 e]at hn;exact ih (up x) (by have:=Zbh h0;omega) hn
theorem Mo.step_bs (S:Mo)(d:Deed)(x:Str)(h:has S.bs x=true):has (S.step d).bs x=true:=by
  cases d with
  |arrive w a=>show has (S.bs++_) x=true;rw[ZV,h];rfl
  |birth n=>show has (S.bs++_) x=true;rw[ZV,h];rfl
  |death n=>exact h
  |comes w=>exact h
  |years k=>exact h
theorem okN.step {S:Mo}(W:Wf S.bs S.ds){x:Str}(d:Deed)(h:okN S x):okN (S.step d) x:=⟨h.1,ZnN W (S.step_bs d) x.length x (le_refl _) h.2⟩
noncomputable def Zle (tl:Cl->List V)(H:Hp)(lm:Addr)(S:Mo)(i:Nat)(cs:List Cl)(RX:List Addr):Prop:=∃ qs,MadeAt tl H lm cs qs/\RX=rgn lm qs/\(∀ c∈cs,c.ok S)/\cs.length<=i
section
variable {tl:Cl->List V}{H H':Hp}{lm:Addr}{S:Mo}{i:Nat}{cs:List Cl}{RX X:List Addr}
theorem Zle.mono {j:Nat}(E:Zle tl H lm S i cs RX)(h:i<=j):Zle tl H lm S j cs RX:=by obtain⟨qs,M,e,a,b⟩:=E;exact⟨qs,M,e,a,by omega⟩
end
end L2
namespace L2
open PySem PySem.Spec PyProof.Rows
section
variable {X:Cx}
noncomputable def rMax1 (K:Frag):List V->Hp->VK->Prop:=λ xs H Q=>∃(p:Addr)(ns:List Int),xs=[.ref p]/\SqL K H p (ns.map V.int)/\ns≠[]/\∀ M,M∈ns->(∀ a∈ns,a<=M)->Q (.int M) H
noncomputable def rMin1 (K:Frag):List V->Hp->VK->Prop:=λ xs H Q=>∃(p:Addr)(ns:List Int),xs=[.ref p]/\SqL K H p (ns.map V.int)/\ns≠[]/\∀ M,M∈ns->(∀ a∈ns,M<=a)->Q (.int M) H
theorem Zl0 (hc:X.calm=true):Xt X (.builtin "max") (rMax1 X.K):=by
  intro pins s σ H xs us Q I r h;obtain⟨p,ns,rfl,hl,hne,q⟩:=h;obtain⟨u,rfl,e⟩:=Js r;cases e;obtain⟨its,r',pl,_⟩:=I.list hl;have hi:=ZgQ r';obtain⟨ys,e⟩:=hi.allInts.items;have hns:ns=ys.toList.map (·.1):=by rw[<- hi.numsOf,<- nums_intItems,<- e]
  have hsz:0<ys.size:=by
    have h3:0<ns.length:=List.length_pos_iff.mpr hne;rw[hns,length_map,length_toList]at h3;exact h3
  have hL:=pl.isList;rw[e]at hL;refine max_intList (I.ok.hd hc) hL hsz λ v h' tk hv hk=>?_;obtain⟨t,rfl⟩:=intItems_at hv;obtain⟨h1,h2⟩:=argBest_gt (numAt ys) (ys.size - 1);refine⟨.int _,H,I.kept hk,⟨_,rfl⟩,q _ ?_ λ a ha=>?_⟩
  . rw[hns,numAt_eq];exact getD_mem (by rw[length_map,length_toList];omega)
  . rw[hns]at ha;obtain⟨j,hj,rfl⟩:=mem_getD ha;rw[length_map,length_toList]at hj;rw[<- numAt_eq];exact h2 j (by omega)
theorem ZlZ (hc:X.calm=true):Xt X (.builtin "min") (rMin1 X.K):=by
  intro pins s σ H xs us Q I r h;obtain⟨p,ns,rfl,hl,hne,q⟩:=h;obtain⟨u,rfl,e⟩:=Js r;cases e;obtain⟨its,r',pl,_⟩:=I.list hl;have hi:=ZgQ r';obtain⟨ys,e⟩:=hi.allInts.items;have hns:ns=ys.toList.map (·.1):=by rw[<- hi.numsOf,<- nums_intItems,<- e]
  have hsz:0<ys.size:=by
    have h3:0<ns.length:=List.length_pos_iff.mpr hne;rw[hns,length_map,length_toList]at h3;exact h3
  have hL:=pl.isList;rw[e]at hL;refine min_intList (I.ok.hd hc) hL hsz λ v h' tk hv hk=>?_;obtain⟨t,rfl⟩:=intItems_at hv;obtain⟨h1,h2⟩:=argBest_lt (numAt ys) (ys.size - 1);refine⟨.int _,H,I.kept hk,⟨_,rfl⟩,q _ ?_ λ a ha=>?_⟩
  . rw[hns,numAt_eq];exact getD_mem (by rw[length_map,length_toList];omega)
  . rw[hns]at ha;obtain⟨j,hj,rfl⟩:=mem_getD ha;rw[length_map,length_toList]at hj;rw[<- numAt_eq];exact h2 j (by omega)
end
theorem ZmI {ns:List Int}{M N:Int}(h1:M∈ns)(h2:∀ a∈ns,a<=M)(h3:N∈ns)(h4:∀ a∈ns,a<=N):M=N:=by
 have:=h2 N h3;have:=h4 M h1;omega
end L2
namespace L2
open PySem PySem.Spec PyProof.Rows
section
variable {X:Cx}
end
end L2
namespace L2
open PySem PySem.Spec
structure TupsAt (H:Hp)(l:Addr)(vss:List (List V))(ps:List Addr):Prop where
  lst:H l=some (.lst (ps.map V.ref))
  len:ps.length=vss.length
  at_:∀(i:Nat)(p:Addr)(vs:List V),ps[i]? = some p->vss[i]? = some vs->H p=some (.tup vs)
section
variable {H H':Hp}{l:Addr}{vss:List (List V)}{ps:List Addr}
theorem TupsAt.same (D:TupsAt H l vss ps)(s:Zj H H'):TupsAt H' l vss ps:=⟨s _ _ D.lst,D.len,λ i p vs a b=>s _ _ (D.at_ i p vs a b)⟩
theorem TupsAt.get (D:TupsAt H l vss ps){i:Nat}{v:V}(h:(ps.map V.ref)[i]? = some v):∃ p vs,v = .ref p/\vss[i]? = some vs/\H p=some (.tup vs):=by
  rw[getElem?_map]at h;cases e:ps[i]? with
  |none=>rw[e]at h;cases h
  |some p=>
    rw[e]at h;cases h;have hi:i<vss.length:=by rw[<- D.len];exact(List.getElem?_eq_some_iff.mp e).1
    exact⟨p,_,rfl,getElem?_eq_getElem hi,D.at_ i p _ e (getElem?_eq_getElem hi)⟩
end
theorem ZkF {H:Hp}{l:Addr}{js:List Nat}{ys:List V}{F:Nat->List V}{fr:Addr->Prop}(hl:H l=some (.lst ys))(h:Paired (λ j v=>∃ p,v=V.ref p/\H p=some (.tup (F j))/\fr p) js ys):∃ ps,TupsAt H l (js.map F) ps/\∀ p∈ps,fr p:=by
  suffices z:∃ ps:List Addr,ys=ps.map V.ref/\ps.length=(js.map F).length/\(∀(i:Nat)(p:Addr)(vs:List V),ps[i]? = some p->(js.map F)[i]? = some vs->H p=some (.tup vs))/\∀ p∈ps,fr p by
    obtain⟨ps,e,a,b,c⟩:=z;exact⟨ps,⟨by rw[hl,e],a,b⟩,c⟩
  clear hl
  induction h with
  |nil=>exact⟨[],rfl,rfl,(λ i p vs h=>by simp at h),(λ _ h=>nomatch h)⟩
  |cons r _ ih=>
    obtain⟨ps,e,a,b,c⟩:=ih;obtain⟨p,rfl,hp,hf⟩:=r;refine⟨p::ps,by rw[e];rfl,by simp at a;simp[a],?_,?_⟩
    . intro i q u h1 h2;cases i with
      |zero=>cases h1;cases h2;exact hp
      |succ i=>exact b i q u h1 h2
    . intro u hu;rcases List.mem_cons.mp hu with rfl|hu
      . exact hf
      . exact c u hu
section
variable {K:Frag}{caps:List (Str×Nat)}{tl te:TE}{tt:TT}{σ:St}{H:Hp}{Q:VK}
end
noncomputable def sy (S:Mo)(t:Atm):Int:=match t.since S with|.int y=>y|_=>0
section
variable {S:Mo}{t:Atm}{n:Str}
noncomputable def Three (x:Str):Prop:=x=("met":Str)\/x=("failed":Str)\/x=("hangs":Str)
theorem Ze4 (h:t.stand S=("hangs":Str)):t.since S = .non:=if_pos h
end
noncomputable def ysL (S:Mo)(ts:List Atm)(how:Str):List Int:=(ts.filter λ t=>decide (t.stand S=how)).map (sy S)
noncomputable def Sinc (S:Mo)(ts:List Atm)(day M:Int):Prop:=
 (Yk (ts.map (Atm.stand S))="failed"/\∃ m∈ysL S ts "failed",(∀ a∈ysL S ts "failed",m<=a)/\M=if m<day then day else m) \/
 (Yk (ts.map (Atm.stand S))="met"/\M∈day::ysL S ts "met"/\∀ a∈day::ysL S ts "met",a<=M)
open PySem PySem.Spec
open PySem PySem.Spec
open PySem PySem.Spec
section
variable {S:Mo}{t:Atm}{n:Str}
theorem Zj3 (hw:t.who=some n)(h:has S.bs n=false)(hs:t.stand S≠("hangs":Str)):t.since S=((yr S.ds (nr S.bs n)).map V.int).getD .non:=by
 have hm:t.stand S≠("met":Str):=λ e=>by rw[Atm.known_met hw e]at h;cases h
 exact(if_neg hs).trans ((if_neg hm).trans (by rw[hw]))
theorem Zj4 (h:has S.bs n=true)(hs:(Atm.dead n).stand S≠("hangs":Str)):(Atm.dead n).since S=((yr S.ds n).map V.int).getD .non:=by
  have hm:(Atm.dead n).stand S=("met":Str):=by
    have e:(Atm.dead n).stand S=if has S.ds n=true then ("met":Str) else "hangs":=if_pos h
    rw[e]at hs ⊢
    by_cases c:has S.ds n=true
    . rw[if_pos c]
    . exact absurd (if_neg c) hs
  exact(if_neg hs).trans (if_pos hm)
theorem YS {a y:Int}(hy:yr S.bs n=some y):(Atm.age n a).stand S=YC S n y a:=by
 show(match yr S.bs n with|some y=>_|none=>_)=_;rw[hy]
end
open PySem PySem.Spec
open PySem PySem.Spec
theorem Xg (a b:Str):decide (V.str a=V.str b)=decide (a=b):=by
  by_cases c:a=b
  . rw[decide_eq_true c,decide_eq_true (by rw[c])]
  . rw[decide_eq_false c,decide_eq_false (λ z=>c (by injection z))]
theorem ZiP {α:Type}{β:Type}(ts:List α)(f:α->Bool)(g:α->β)(d:Bool)(e:β):∀ n,n<=ts.length->((fl (λ i=>(ts[i]?.map f).getD d) n).map λ i=>(ts[i]?.map g).getD e)=((ts.take n).filter f).map g:=by
  intro n
  induction n with
  |zero=>intro _;simp[fl]
  |succ n ih=>
    intro hn;have hlt:n<ts.length:=hn;rw[ZiO,map_append,ih (by omega),take_succ,getElem?_eq_getElem hlt,filter_append,map_append];congr 1;show(if f ts[n]=true then [n] else []).map _=([ts[n]].filter f).map g;cases h:f ts[n] with
    |true=>rw[filter_cons_of_pos h,if_pos rfl,map_cons,getElem?_eq_getElem hlt];rfl
    |false=>rw[filter_cons_of_neg (by rw[h];decide),if_neg (by decide)];rfl
end L2
namespace L2
open PySem PySem.Spec
noncomputable def Ye (S:Mo)(n:Str)(a:Int)(os:List Str):Bool:=(YI S n os).any λ c=>decide (a<=Xp S c)
noncomputable def clS (S:Mo)(n:Str)(a:Int)(os:List Str):Str:=if (al S.bs S.ds (nr S.bs n) || !(ZH S n a os).isEmpty)=true then "hangs" else if Ye S n a os=true then "met" else "failed"
noncomputable def cyL (S:Mo)(n:Str)(a:Int)(os:List Str)(day:Int):List Int:=day::(yr S.ds (nr S.bs n)).getD 0::(YI S n os).map λ c=>sy S (.age c a)
noncomputable def Csin (S:Mo)(n:Str)(a:Int)(os:List Str)(day M:Int):Prop:=clS S n a os≠"hangs"/\M∈cyL S n a os day/\∀ x∈cyL S n a os day,x<=M
section
variable {S:Mo}{n c:Str}{a:Int}{os:List Str}
theorem Zh3:Ye S n a os=decide ((0:Int)<((ZbD S n a os).length:Nat)):=by
  unfold Ye ZbD;cases h:(YI S n os).any λ c=>decide (a<=Xp S c) with
  |true=>
    obtain⟨c,hc,e⟩:=List.any_eq_true.mp h;refine(decide_eq_true ?_).symm;have hm:c∈(YI S n os).filter λ c=>decide (a<=Xp S c):=List.mem_filter.mpr ⟨hc,e⟩;have:=List.length_pos_of_mem hm;omega
  |false=>
    refine(decide_eq_false λ z=>?_).symm;have:((YI S n os).filter λ c=>decide (a<=Xp S c))=[]:=by
      rw[List.filter_eq_nil_iff];intro c hc e;have:=List.any_eq_false.mp h c hc;exact this e
    rw[this]at z;exact absurd z (by decide)
theorem Zdt (h:clS S n a os≠"hangs"):al S.bs S.ds (nr S.bs n)=false/\ZH S n a os=[]:=by
  unfold clS at h
  by_cases c:(al S.bs S.ds (nr S.bs n) || !(ZH S n a os).isEmpty)=true
  . exact absurd (if_pos c) h
  . rw[or_eq_true,not_or]at c;refine⟨by cases e:al S.bs S.ds (nr S.bs n) with|false=>rfl|true=>exact absurd e c.1,?_⟩;cases e:ZH S n a os with
    |nil=>rfl
    |cons x r=>rw[e]at c;exact absurd rfl c.2
theorem ZlG (h:okN S n)(hs:clS S n a os≠"hangs"):has S.bs (nr S.bs n)=true/\has S.ds (nr S.bs n)=true:=by
  have nk:has S.bs (nr S.bs n)=true:=by
    rcases ZjE S.bs n with e|e
    . exact absurd e h.2
    . exact e
  refine⟨nk,?_⟩;have:=(Zdt hs).1;unfold al at this;rw[nk]at this;cases e:has S.ds (nr S.bs n) with
  |true=>rfl
  |false=>rw[e]at this;cases this
theorem Zfa (W:Wf S.bs S.ds)(hs:clS S n a os≠"hangs")(hc:c∈YI S n os):(Atm.age c a).stand S≠("hangs":Str):=λ e=>by
 have hk:=Z4 W (YQ hc);obtain⟨y,hy⟩:=XD hk;rw[YS hy]at e;have z:=Zbk (a:=a) hy;rw[e,decide_eq_true rfl]at z;have:c∈ZH S n a os:=List.mem_filter.mpr ⟨hc,z.symm⟩;rw[(Zdt hs).2]at this;cases this
theorem ZiG (W:Wf S.bs S.ds)(hk:has S.bs c=true):okN S c:=by
 have hp:=W.wrt c hk;refine⟨hp,?_⟩;rw[Z2 (ZF hp) hk];exact λ e=>ZF hp (by rw[e];rfl)
theorem cl_law (h:okN S n):(!has S.ds (nr S.bs n) || decide ((0:Int)<((ZH S n a os).length:Nat)))=(al S.bs S.ds (nr S.bs n) || !(ZH S n a os).isEmpty):=by
  have nk:has S.bs (nr S.bs n)=true:=by
    rcases ZjE S.bs n with e|e
    . exact absurd e h.2
    . exact e
  rw[YR nk];congr 1;cases e:ZH S n a os with
  |nil=>rfl
  |cons x r=>exact decide_eq_true (by rw[length_cons];omega)
end
open PySem PySem.Spec
section
variable {K:Frag}{caps:List (Str×Nat)}{tl te:TE}{tt:TT}{σ:St}{H:Hp}{Q:VK}{d:Addr}{bs:List (Str×Int)}
end
open PySem PySem.Spec
theorem ZfH (a b:Int):decide (V.int a=V.int b)=decide (a=b):=by
  by_cases c:a=b
  . rw[decide_eq_true c,decide_eq_true (by rw[c])]
  . rw[decide_eq_false c,decide_eq_false (λ z=>c (by injection z))]
open PySem PySem.Spec
noncomputable def Znq (tl:Cl->List V)(H:Hp)(lm:Addr)(S:Mo)(i:Nat)(cs:List Cl)(RX:List Addr):Prop:=Zle tl H lm S i cs RX/\(S.ds.map (·.1)).Nodup
section
variable {tl:Cl->List V}{H H':Hp}{lm:Addr}{S:Mo}{i:Nat}{cs:List Cl}{RX X:List Addr}
theorem Znq.mono {j:Nat}(E:Znq tl H lm S i cs RX)(h:i<=j):Znq tl H lm S j cs RX:=⟨E.1.mono h,E.2⟩
end
end L2
namespace L2
open PySem PySem.Spec
inductive Ho where
  | one (n:Str)
  | kids (n:Str) (a:Int)
noncomputable def Ho.vals:Ho->List V
  |.one n=>[.str "one", .str n]
  |.kids n a=>[.str "kids", .str n, .int a]
noncomputable def Ho.ok (S:Mo):Ho->Prop
  |.one n=>okN S n
  |.kids n a=>okN S n/\0<=a/\a<=120
noncomputable def Ho.isK:Ho->Bool
  |.one _=>false
  |.kids _ _=>true
noncomputable def Ho.out (S:Mo):Ho->List Str
  |.one _=>[]
  |.kids n _=>Z5 S n
noncomputable def isAg (S:Mo):Atm->Bool
  |.age n _=>al S.bs S.ds n
  |_=>false
noncomputable def agY (S:Mo):Atm->Int
  |.age n a=>Xf S n+a
  |_=>0
noncomputable def agL (S:Mo)(ts:List Atm):List Int:=(ts.filter (isAg S)).map (agY S)
noncomputable def Zho (S:Mo)(n:Str)(a M:Int):Prop:=
 ((al S.bs S.ds (nr S.bs n) || Ye S n a (Z5 S n))=true\/ZH S n a (Z5 S n)=[]->M=S.y) /\
 ((al S.bs S.ds (nr S.bs n) || Ye S n a (Z5 S n))=false->ZH S n a (Z5 S n)≠[]->∃ b,b∈(ZH S n a (Z5 S n)).map (Xf S)/\(∀ x∈(ZH S n a (Z5 S n)).map (Xf S),b<=x)/\M=b+a)
noncomputable def HEnd (S:Mo):Ho->Int->Prop
  |.one _,M=>M=S.y
  |.kids n a,M=>Zho S n a M
noncomputable def ZcD (S:Mo)(h:Ho)(ts:List Atm)(M:Int):Prop:=∃ e,HEnd S h e/\M∈S.y::e::agL S ts/\∀ x∈S.y::e::agL S ts,x<=M
theorem Zho.uniq {S:Mo}{n:Str}{a M N:Int}(h:Zho S n a M)(h':Zho S n a N):M=N:=by
  by_cases c:(al S.bs S.ds (nr S.bs n) || Ye S n a (Z5 S n))=true\/ZH S n a (Z5 S n)=[]
  . rw[h.1 c,h'.1 c]
  . rw[not_or]at c;obtain⟨b,h1,h2,rfl⟩:=h.2 (Bool.eq_false_iff.mpr c.1) c.2;obtain⟨b',h1',h2',rfl⟩:=h'.2 (Bool.eq_false_iff.mpr c.1) c.2;have:=h2 b' h1';have:=h2' b h1;omega
theorem HEnd.uniq {S:Mo}{h:Ho}{M N:Int}(e:HEnd S h M)(e':HEnd S h N):M=N:=by
  cases h with
  |one n=>have a:M=S.y:=e;have b:N=S.y:=e';rw[a,b]
  |kids n a=>exact Zho.uniq e e'
theorem ZcD.uniq {S:Mo}{h:Ho}{ts:List Atm}{M N:Int}(a:ZcD S h ts M)(b:ZcD S h ts N):M=N:=by
 obtain⟨e,h1,h2,h3⟩:=a;obtain⟨e',h1',h2',h3'⟩:=b;obtain rfl:=h1.uniq h1';exact ZmI h2 h3 h2' h3'
theorem ag_of {S:Mo}{ts:List Atm}:(fl (λ i=>(ts[i]?.map (isAg S)).getD false) ts.length).map (λ i=>V.int ((ts[i]?.map (agY S)).getD 0))=(agL S ts).map V.int:=by
 have e:=ZiP ts (isAg S) (agY S) false 0 ts.length (le_refl _);rw[take_length]at e;unfold agL;rw[<- e,map_map];rfl
theorem Zn5 (S:Mo)(ts:List Atm):(agL S ts).length<=ts.length:=by unfold agL;rw[length_map];exact length_filter_le _ _
section
variable {S:Mo}{ts:List Atm}{t:Atm}{i:Nat}{n:Str}{a:Int}
end
end L2
namespace L2
open PySem PySem.Spec
structure Dated (S:Mo):Prop where
  b:∀ n y,yr S.bs n=some y->y<=S.y
  d:∀ n y,yr S.ds n=some y->y<=S.y
  c:∀ n y,yr S.cs n=some y->y<=S.y
theorem XE {l:List (Str×Int)}{m n:Str}{y:Int}(h:m≠n):yr (l++[(m,y)]) n=yr l n:=by rw[Zek,if_neg h,Option.or_none]
theorem ZaF {l:List (Str×Int)}{n:Str}{y:Int}(h:has l n=false):yr (l++[(n,y)]) n=some y:=by
  unfold has at h;rw[Zek,if_pos rfl];cases e:yr l n with
  |none=>rfl
  |some z=>rw[e]at h;cases h
theorem Zcj {l:List (Str×Int)}{m n:Str}{y z c:Int}(h:∀ n y,yr l n=some y->y<=c)(hy:y<=c)(e:yr (l++[(m,y)]) n=some z):z<=c:=by
  rw[Zek]at e;cases q:yr l n with
  |some v=>rw[q]at e;cases e;exact h n _ q
  |none=>
    rw[q]at e
    by_cases c2:m=n
    . rw[if_pos c2]at e;cases e;exact hy
    . rw[if_neg c2]at e;cases e
theorem Dated.zero (y:Int):Dated (mo0 y):=⟨(λ _ _ h=>by cases h),(λ _ _ h=>by cases h),(λ _ _ h=>by cases h)⟩
theorem Dated.step {S:Mo}{far:Int}{d:Deed}(D:Dated S)(hg:S.good far d):Dated (S.step d):=by
  cases d with
  |arrive w a=>exact⟨λ n y e=>Zcj D.b (by have:=hg.2.2.1;show S.y - a<=S.y;omega) e,D.d,D.c⟩
  |birth n=>exact⟨λ n y e=>Zcj D.b (Int.le_refl _) e,D.d,D.c⟩
  |death n=>exact⟨D.b,λ n y e=>Zcj D.d (Int.le_refl _) e,D.c⟩
  |comes w=>exact⟨D.b,D.d,λ n y e=>Zcj D.c (Int.le_refl _) e⟩
  |years k=>exact⟨λ n y e=>by have:=D.b n y e;have:=hg.1;show y<=S.y+k;omega,λ n y e=>by have:=D.d n y e;have:=hg.1;show y<=S.y+k;omega,λ n y e=>by have:=D.c n y e;have:=hg.1;show y<=S.y+k;omega⟩
noncomputable def Kept (S S':Mo)(t:Atm):Prop:=t.stand S'=t.stand S/\t.since S'=t.since S
noncomputable def Now (S S':Mo)(t:Atm):Prop:=t.stand S=("hangs":Str)/\t.stand S'≠("hangs":Str)/\S.y<=sy S' t/\sy S' t<=S'.y/\(S'.y=S.y\/S.y<sy S' t)
section
variable (S:Mo)(n:Str)(a:Int)
theorem Zh0:(Atm.year a).stand S=if a<=S.y then ("met":Str) else "hangs":=rfl
theorem Zbj:(Atm.comes n).stand S=if has S.cs n=true then ("met":Str) else "hangs":=rfl
theorem ZdA:(Atm.born n).stand S=if has S.bs n=true then ("met":Str) else ZX S n:=rfl
theorem Y3:(Atm.dead n).stand S=if has S.bs n=true then (if has S.ds n=true then ("met":Str) else "hangs") else ZX S n:=rfl
theorem ZgK:(Atm.comes n).met S=((yr S.cs n).map V.int).getD .non:=rfl
theorem ZiD:(Atm.born n).met S=((yr S.bs n).map V.int).getD .non:=rfl
theorem ZiC:(Atm.dead n).met S=((yr S.ds n).map V.int).getD .non:=rfl
theorem ZiE:(Atm.age n a).met S=((yr S.bs n).map λ y=>V.int (y+a)).getD .non:=rfl
theorem XU (t:Atm):t.since S=if t.stand S=("hangs":Str) then .non else if t.stand S=("met":Str) then t.met S else match t.who with|some n=>((yr S.ds (nr S.bs n)).map V.int).getD .non|none => .non:=rfl
end
section
variable {S S':Mo}{t:Atm}{n:Str}
theorem Zm2 {l:List (Str×Int)}(h:yr l n=none):has l n=false:=by unfold has;rw[h];rfl
theorem Xb {l:List (Str×Int)}(h:has l n=false):yr l n=none:=by
  unfold has at h;cases e:yr l n with
  |none=>rfl
  |some y=>rw[e]at h;cases h
theorem ZaR {l l':List (Str×Int)}{m:Str}(h:yr l' m=yr l m):has l' m=has l m:=by unfold has;rw[h]
theorem Xr (hw:t.who=some n)(hb:yr S'.bs n=yr S.bs n)(hd:yr S'.ds n=yr S.ds n)(hn:nr S'.bs n=nr S.bs n)(hnd:yr S'.ds (nr S.bs n)=yr S.ds (nr S.bs n))(hnb:has S'.bs (nr S.bs n)=has S.bs (nr S.bs n))(ha:∀ y a,yr S.bs n=some y->t = .age n a->YC S' n y a=YC S n y a):Kept S S' t:=by
  have hkb:=ZaR hb;have hkd:=ZaR hd;have sn:ZX S' n=ZX S n:=by unfold ZX al;rw[hn,hnb,ZaR hnd]
  have es:t.stand S'=t.stand S:=by
    cases t with
    |year y=>cases hw
    |comes w=>cases hw
    |born m=>cases hw;rw[ZdA,ZdA,hkb,sn]
    |dead m=>cases hw;rw[Y3,Y3,hkb,hkd,sn]
    |age m a=>
      cases hw;show(match yr S'.bs n with|some y=>YC S' n y a|none=>ZX S' n)=(match yr S.bs n with|some y=>YC S n y a|none=>ZX S n);rw[hb,sn];cases e:yr S.bs n with
      |none=>rfl
      |some y=>exact ha y a e rfl
  refine⟨es,?_⟩;unfold Atm.since;rw[es];have em:t.met S'=t.met S:=by
    cases t with
    |year y=>cases hw
    |comes w=>cases hw
    |born m=>cases hw;rw[ZiD,ZiD,hb]
    |dead m=>cases hw;rw[ZiC,ZiC,hd]
    |age m a=>cases hw;rw[ZiE,ZiE,hb]
  rw[em,hw];show(if _ then _ else if _ then _ else ((yr S'.ds (nr S'.bs n)).map V.int).getD .non)=_;rw[hn,hnd]
theorem ZaP (hw:t.who=none)(hy:S'.y=S.y)(hc:∀ w,t = .comes w->yr S'.cs w=yr S.cs w):Kept S S' t:=by
  cases t with
  |year y=>
    have es:(Atm.year y).stand S'=(Atm.year y).stand S:=by rw[Zh0,Zh0,hy]
    refine⟨es,?_⟩;rw[XU,XU,es];rfl
  |comes w=>
    have e:=hc w rfl;have es:(Atm.comes w).stand S'=(Atm.comes w).stand S:=by rw[Zbj,Zbj,ZaR e]
    refine⟨es,?_⟩;rw[XU,XU,es,ZgK,ZgK,e];rfl
  |born m=>cases hw
  |dead m=>cases hw
  |age m a=>cases hw
theorem Zmf {y a:Int}(hy:S'.y=S.y)(hd:yr S'.ds n=yr S.ds n):YC S' n y a=YC S n y a:=by
 unfold YC Xs;rw[hy,hd,ZaR hd]
theorem sy_of {y:Int}(h:t.since S = .int y):sy S t=y:=by unfold sy;rw[h]
theorem Zcm (h:okN S n):has S.bs (nr S.bs n)=true:=by
  rcases ZjE S.bs n with e|e
  . exact absurd e h.2
  . exact e
theorem ZlD {bs ds:List (Str×Int)}(W:Wf bs ds){w:Str}{y:Int}(hw:gw w=true)(hk:has bs w=false):∀(k:Nat)(x:Str),x.length<=k->pok x=true->nr bs x≠Str.empty->nr (bs++[(w,y)]) x=nr bs x:=by
  intro k
  induction k with
  |zero=>intro x hx hp _;exact absurd (Nat.le_zero.mp hx) (ZF hp)
  |succ k ih=>
    intro x hx hp hn;have h0:=ZF hp;cases e:has bs x with
    |true=>rw[Z2 h0 e,Z2 h0 (by rw[ZV,e];rfl)]
    |false=>
      rcases Jm hp with hg|⟨n,i,hi,rfl,pn,dn⟩
      . exact absurd (ZgJ hg e) hn
      . have e':has (bs++[(w,y)]) (kid n i)=false:=by rw[ZV,e,decide_eq_false (ZiM hw)];rfl
        rw[YT,e]at hn;rw[YT,YT,e,e'];exact ih n (by have:=ZgM n i;omega) pn hn
theorem ZmB {bs ds:List (Str×Int)}(W:Wf bs ds){m:Str}{y:Int}{j:Nat}(hm:has bs m=true)(hc:has bs (kid m j)=false):∀(k:Nat)(x:Str),x.length<=k->pok x=true->nr bs x≠Str.empty ->
    nr (bs++[(kid m j,y)]) x=nr bs x\/(nr (bs++[(kid m j,y)]) x=kid m j/\nr bs x=m):=by
  intro k
  induction k with
  |zero=>intro x hx hp _;exact absurd (Nat.le_zero.mp hx) (ZF hp)
  |succ k ih=>
    intro x hx hp hn;have h0:=ZF hp;cases e:has bs x with
    |true=>exact .inl (by rw[Z2 h0 e,Z2 h0 (by rw[ZV,e];rfl)])
    |false=>
      rcases Jm hp with hg|⟨n,i,hi,rfl,pn,dn⟩
      . exact absurd (ZgJ hg e) hn
      . by_cases c:kid m j=kid n i
        . refine .inr ⟨?_,?_⟩
          . rw[Z2 h0 (by rw[ZV,c];simp),c]
          . have q:m=n:=Zkp c;rw[YT,e,<- q];exact Z2 (ZF (W.wrt m hm)) hm
        . have e':has (bs++[(kid m j,y)]) (kid n i)=false:=by rw[ZV,e,decide_eq_false c];rfl
          rw[YT,e]at hn;rw[YT,YT,e,e'];exact ih n (by have:=ZgM n i;omega) pn hn
theorem JH (h:t.stand S=("hangs":Str))(h':t.stand S'=("hangs":Str)):Kept S S' t:=⟨by rw[h,h'],by rw[Ze4 h,Ze4 h']⟩
theorem Zaz:("met":Str)≠"hangs":=by decide +kernel
theorem Zhz:("failed":Str)≠"hangs":=by decide +kernel
theorem ne_fm:("failed":Str)≠"met":=by decide +kernel
theorem Zb0 {z:Int}(h:t.stand S=("hangs":Str))(h':t.stand S'≠("hangs":Str))(hs:t.since S' = .int z)(h1:S.y<=z)(h2:z<=S'.y)(h3:S'.y=S.y\/S.y<z):Now S S' t:=by
 have e:=sy_of hs;exact⟨h,h',by rw[e];exact h1,by rw[e];exact h2,by rw[e];exact h3⟩
theorem Ym {v:V}(h:t.stand S=("met":Str))(hv:t.met S=v):t.since S=v:=by
 rw[XU,if_neg (by rw[h];exact Zaz),if_pos h,hv]
theorem ZdR (h:t.stand S=("failed":Str))(hw:t.who=some n):t.since S=((yr S.ds (nr S.bs n)).map V.int).getD .non:=by
 rw[XU,if_neg (by rw[h];exact Zhz),if_neg (by rw[h];exact ne_fm),hw]
theorem ZfS {far:Int}{d:Deed}{k:Nat}(O:S.Ok k)(D:Dated S)(hk:k<98)(hg:S.good far d)(ok:t.ok S):Kept S (S.step d) t\/Now S (S.step d) t:=by
  have W:=O.wf;cases d with
  |comes w=>
    cases hw:t.who with
    |some n=>exact .inl (Xr (S':=S.step (.comes w)) hw rfl rfl rfl rfl rfl (λ _ _ _ _=>rfl))
    |none=>
      by_cases c:t = .comes w
      . subst c;have hs:(Atm.comes w).stand S=("hangs":Str):=by rw[Zbj,hg.2];rfl
        have e:yr (S.step (.comes w)).cs w=some S.y:=ZaF hg.2;have hs':(Atm.comes w).stand (S.step (.comes w))=("met":Str):=by rw[Zbj,show has (S.step (.comes w)).cs w=true by unfold has;rw[e];rfl];rfl
        exact .inr (Zb0 hs (by rw[hs'];exact Zaz) (Ym hs' (by rw[ZgK,e];rfl)) (Int.le_refl _) (Int.le_refl _) (.inl rfl))
      . exact .inl (ZaP hw rfl (λ v e=>XE (λ z=>c (by rw[e,z]))))
  |arrive w a=>
    cases hw:t.who with
    |none=>exact .inl (ZaP hw rfl (λ v e=>rfl))
    |some n=>
      have on:=Atm.ok_who ok hw;have nw:w≠n:=λ e=>by
        have h1:=hg.1;have h2:=hg.2.1;rw[e]at h1 h2;exact on.2 (ZgJ h1 h2)
      have nb:=Zcm on;have nw2:w≠nr S.bs n:=λ e=>by rw[<- e,hg.2.1]at nb;cases nb
      exact .inl (Xr (S':=S.step (.arrive w a)) hw (XE nw) rfl (ZlD W hg.1 hg.2.1 n.length n (le_refl _) on.1 on.2) rfl (ZaR (XE nw2)) (λ _ _ _ _=>rfl))
  |years j=>
    have j1:=hg.1;cases hw:t.who with
    |none=>
      cases t with
      |year y=>
        by_cases c:y<=S.y
        . refine .inl ?_;have e1:(Atm.year y).stand S=("met":Str):=if_pos c;have e2:(Atm.year y).stand (S.step (.years j))=("met":Str):=if_pos (by show y<=S.y+j;omega);exact⟨by rw[e1,e2],by rw[Ym e1 rfl,Ym e2 rfl];rfl⟩
        . have e1:(Atm.year y).stand S=("hangs":Str):=if_neg c
          by_cases c2:y<=S.y+j
          . have e2:(Atm.year y).stand (S.step (.years j))=("met":Str):=if_pos c2;exact .inr (Zb0 e1 (by rw[e2];exact Zaz) (Ym e2 rfl) (by omega) c2 (.inr (by omega)))
          . exact .inl (JH e1 (if_neg c2))
      |comes w=>
        have es:(Atm.comes w).stand (S.step (.years j))=(Atm.comes w).stand S:=rfl;exact .inl ⟨es,by rw[XU,XU,es];rfl⟩
      |born m=>cases hw
      |dead m=>cases hw
      |age m a=>cases hw
    |some n=>
      by_cases c:∃ y a,yr S.bs n=some y/\t = .age n a/\has S.ds n=false
      . obtain⟨y,a,hy,rfl,hd⟩:=c;have hdn:=Xb hd;have e1:=YS (S:=S) (a:=a) hy;have e2:=YS (S:=S.step (.years j)) (a:=a) hy;have a1:Xs S n y=S.y - y:=by unfold Xs;rw[hdn];rfl
        have a2:Xs (S.step (.years j)) n y=S.y+j - y:=by unfold Xs;rw[show(S.step (.years j)).ds=S.ds from rfl,hdn];rfl
        by_cases c1:a<=S.y - y
        . have m1:(Atm.age n a).stand S=("met":Str):=by rw[e1];exact if_pos (by rw[a1];exact c1)
          have m2:(Atm.age n a).stand (S.step (.years j))=("met":Str):=by rw[e2];exact if_pos (by rw[a2];omega)
          exact .inl ⟨by rw[m1,m2],by rw[Ym m1 rfl,Ym m2 rfl];rfl⟩
        . have m1:(Atm.age n a).stand S=("hangs":Str):=by rw[e1];unfold YC;rw[if_neg (by rw[a1];exact c1),hd];rfl
          by_cases c2:a<=S.y+j - y
          . have m2:(Atm.age n a).stand (S.step (.years j))=("met":Str):=by rw[e2];exact if_pos (by rw[a2];exact c2)
            exact .inr (Zb0 m1 (by rw[m2];exact Zaz) (Ym m2 (by rw[ZiE,show yr (S.step (.years j)).bs n=some y from hy];rfl)) (by omega) (by show y+a<=S.y+j;omega) (.inr (by omega)))
          . have m2:(Atm.age n a).stand (S.step (.years j))=("hangs":Str):=by
              rw[e2];unfold YC;rw[if_neg (by rw[a2];exact c2),show has (S.step (.years j)).ds n=false from hd];rfl
            exact .inl (JH m1 m2)
      . refine .inl (Xr (S':=S.step (.years j)) hw rfl rfl rfl rfl rfl (λ y a hy ht=>?_));have hd:has S.ds n=true:=by
          cases e:has S.ds n with
          |true=>rfl
          |false=>exact absurd ⟨y,a,hy,ht,e⟩ c
        obtain⟨z,hz⟩:=XD hd;unfold YC Xs;rw[show(S.step (.years j)).ds=S.ds from rfl,hz];rfl
  |death m=>
    have e0:yr (S.step (.death m)).ds m=some S.y:=ZaF hg.2;have e0':has (S.step (.death m)).ds m=true:=by unfold has;rw[e0];rfl
    have ne:∀ x,m≠x->yr (S.step (.death m)).ds x=yr S.ds x:=λ x hx=>XE hx;cases hw:t.who with
    |none=>exact .inl (ZaP hw rfl (λ v e=>rfl))
    |some n=>
      have on:=Atm.ok_who ok hw;cases hb:has S.bs n with
      |false=>
        have nm:m≠n:=λ e=>by rw[<- e,hg.1]at hb;cases hb
        by_cases c:nr S.bs n=m
        . have h1:t.stand S=("hangs":Str):=by rw[Atm.stand_none hw hb];unfold ZX al;rw[c,hg.1,hg.2];rfl
          have h2:t.stand (S.step (.death m))=("failed":Str):=by
            rw[Atm.stand_none (S:=S.step (.death m)) hw hb];unfold ZX al;rw[show nr (S.step (.death m)).bs n=m from c,e0',show has (S.step (.death m)).bs m=true from hg.1];rfl
          refine .inr (Zb0 h1 (by rw[h2];exact Zhz) ((ZdR h2 hw).trans ?_) (Int.le_refl _) (Int.le_refl _) (.inl rfl));rw[show nr (S.step (.death m)).bs n=m from c,e0];rfl
        . exact .inl (Xr (S':=S.step (.death m)) hw rfl (ne n nm) rfl (ne _ (Ne.symm c)) rfl (λ y a hy _=>by rw[Xb hb]at hy;cases hy))
      |true=>
        have nn:=Z2 (ZF on.1) hb
        by_cases c:m=n
        . subst c;have hdn:=Xb hg.2;cases t with
          |year y=>cases hw
          |comes y=>cases hw
          |born x=>
            cases hw;have m1:(Atm.born m).stand S=("met":Str):=if_pos hb;have m2:(Atm.born m).stand (S.step (.death m))=("met":Str):=if_pos hb;exact .inl ⟨by rw[m1,m2],by rw[Ym m1 rfl,Ym m2 rfl];rfl⟩
          |dead x=>
            cases hw;have m1:(Atm.dead m).stand S=("hangs":Str):=by rw[Y3,hb,hg.2];rfl
            have m2:(Atm.dead m).stand (S.step (.death m))=("met":Str):=by rw[Y3,show has (S.step (.death m)).bs m=true from hb,e0'];rfl
            exact .inr (Zb0 m1 (by rw[m2];exact Zaz) (Ym m2 (by rw[ZiC,e0];rfl)) (Int.le_refl _) (Int.le_refl _) (.inl rfl))
          |age x a=>
            cases hw;obtain⟨y,hy⟩:=XD hb;have e1:=YS (S:=S) (a:=a) hy;have e2:=YS (S:=S.step (.death m)) (a:=a) hy;have a1:Xs S m y=S.y - y:=by unfold Xs;rw[hdn];rfl
            have a2:Xs (S.step (.death m)) m y=S.y - y:=by unfold Xs;rw[e0];rfl
            by_cases c1:a<=S.y - y
            . have m1:(Atm.age m a).stand S=("met":Str):=by rw[e1];exact if_pos (by rw[a1];exact c1)
              have m2:(Atm.age m a).stand (S.step (.death m))=("met":Str):=by rw[e2];exact if_pos (by rw[a2];exact c1)
              exact .inl ⟨by rw[m1,m2],by rw[Ym m1 rfl,Ym m2 rfl];rfl⟩
            . have m1:(Atm.age m a).stand S=("hangs":Str):=by rw[e1];unfold YC;rw[if_neg (by rw[a1];exact c1),hg.2];rfl
              have m2:(Atm.age m a).stand (S.step (.death m))=("failed":Str):=by rw[e2];unfold YC;rw[if_neg (by rw[a2];exact c1),e0'];rfl
              refine .inr (Zb0 m1 (by rw[m2];exact Zhz) ((ZdR (n:=m) m2 rfl).trans ?_) (Int.le_refl _) (Int.le_refl _) (.inl rfl));rw[show nr (S.step (.death m)).bs m=m from nn,e0];rfl
        . refine .inl (Xr (S':=S.step (.death m)) hw rfl (ne n c) rfl (by rw[nn];exact ne n c) rfl (λ y a hy _=>Zmf rfl (ne n c)))
  |birth m=>
    have hc:=W.no_kid m;have fw:=W.few m;have lb:=O.lb;have e0:yr (S.step (.birth m)).bs (kid m (nk S.bs m))=some S.y:=ZaF hc;have e0':has (S.step (.birth m)).bs (kid m (nk S.bs m))=true:=by unfold has;rw[e0];rfl
    have nd:has S.ds (kid m (nk S.bs m))=false:=by
      cases e:has S.ds (kid m (nk S.bs m)) with
      |false=>rfl
      |true=>rw[W.sub _ e]at hc;cases hc
    have mp:=ZF (W.wrt m hg.1);cases hw:t.who with
    |none=>exact .inl (ZaP hw rfl (λ v e=>rfl))
    |some n=>
      have on:=Atm.ok_who ok hw
      by_cases c:kid m (nk S.bs m)=n
      . subst c;have nm:nr S.bs (kid m (nk S.bs m))=m:=by rw[YT,hc];exact Z2 mp hg.1
        have h1:t.stand S=("hangs":Str):=by rw[Atm.stand_none hw hc];unfold ZX al;rw[nm,hg.1,hg.2.1];rfl
        cases t with
        |year y=>cases hw
        |comes y=>cases hw
        |born x=>
          cases hw;have m2:(Atm.born (kid m (nk S.bs m))).stand (S.step (.birth m))=("met":Str):=if_pos e0';exact .inr (Zb0 h1 (by rw[m2];exact Zaz) (Ym m2 (by rw[ZiD,e0];rfl)) (Int.le_refl _) (Int.le_refl _) (.inl rfl))
        |dead x=>
          cases hw;exact .inl (JH h1 (by rw[Y3,e0',show has (S.step (.birth m)).ds (kid m (nk S.bs m))=false from nd];rfl))
        |age x a=>
          cases hw;have e2:=YS (S:=S.step (.birth m)) (a:=a) e0;have a2:Xs (S.step (.birth m)) (kid m (nk S.bs m)) S.y=0:=by
            unfold Xs;rw[show(S.step (.birth m)).ds=S.ds from rfl,Xb nd];show S.y - S.y=0;omega
          by_cases c1:a<=0
          . have m2:(Atm.age (kid m (nk S.bs m)) a).stand (S.step (.birth m))=("met":Str):=by rw[e2];exact if_pos (by rw[a2];exact c1)
            have a0:a=0:=by have:=ok.2.1;omega
            refine .inr (Zb0 h1 (by rw[m2];exact Zaz) (Ym m2 (by rw[ZiE,e0];rfl)) (by omega) (by show S.y+a<=S.y;omega) (.inl rfl))
          . refine .inl (JH h1 ?_);rw[e2];unfold YC;rw[if_neg (by rw[a2];exact c1),show has (S.step (.birth m)).ds (kid m (nk S.bs m))=false from nd];rfl
      . have yn:yr (S.step (.birth m)).bs n=yr S.bs n:=XE c;rcases ZmB (y:=S.y) W hg.1 hc n.length n (le_refl _) on.1 on.2 with h|⟨h,h2⟩
        . refine .inl (Xr (S':=S.step (.birth m)) hw yn rfl h rfl ?_ (λ _ _ _ _=>rfl));refine ZaR (XE (λ e=>?_));have nb:=Zcm on;rw[<- e,hc]at nb;cases nb
        . have hb:has S.bs n=false:=by
            cases e:has S.bs n with
            |false=>rfl
            |true=>
              exfalso;have z:=Z2 (bs:=(S.step (.birth m)).bs) (ZF on.1) (by rw[ZaR yn];exact e);exact c (h.symm.trans z)
          have hb':has (S.step (.birth m)).bs n=false:=by rw[ZaR yn];exact hb
          refine .inl (JH ?_ ?_)
          . rw[Atm.stand_none hw hb];unfold ZX al;rw[h2,hg.1,hg.2.1];rfl
          . rw[Atm.stand_none (S:=S.step (.birth m)) hw hb'];unfold ZX al;rw[show nr (S.step (.birth m)).bs n=kid m (nk S.bs m) from h,e0',show has (S.step (.birth m)).ds (kid m (nk S.bs m))=false from nd];rfl
theorem Atm.ok.step (W:Wf S.bs S.ds)(d:Deed)(h:t.ok S):t.ok (S.step d):=by
  cases t with
  |year y=>exact h
  |comes w=>exact h
  |born m=>exact okN.step W d h
  |dead m=>exact okN.step W d h
  |age m a=>exact⟨okN.step W d h.1,h.2⟩
end
end L2
namespace L2
open PySem PySem.Spec
structure Wch where
  l:Addr
  ts:List Atm
  ps:List Addr
noncomputable def Wt (S:Mo)(day:Int)(ts:List Atm)(s:Str)(v:V):Prop:=
 (∃ t,ts=[t]/\s=t.stand S/\v=t.since S)\/(ts.length≠1/\s=Yk (ts.map (Atm.stand S))/\((s="hangs"/\v = .non)\/∃ M,v = .int M/\Sinc S ts day M))
section
variable {S S':Mo}{day:Int}{ts:List Atm}{s s':Str}{v v':V}
end
structure WatAt (H:Hp)(lw:Addr)(ws:List Wch):Prop where
  lst:H lw=some (.lst (ws.map λ w=>V.ref w.l))
  at_:∀ w∈ws,AtmsAt H w.l w.ts w.ps
  ne:∀ w∈ws,w.l≠lw
noncomputable def wrg (lw:Addr)(ws:List Wch):List Addr:=lw::ws.map (·.l)++ws.flatMap (·.ps)
section
variable {H H':Hp}{lw:Addr}{ws:List Wch}{X:List Addr}
end
noncomputable abbrev Tv:=List (Str×V)
noncomputable def tvs (tv:Tv):List (List V):=tv.map λ p=>[.str p.1,p.2]
structure WX (H:Hp)(lw lt:Addr)(day:Int)(S:Mo)(xs:List Wch×Tv)(RX:List Addr):Prop where
  ex:∃ tp,WatAt H lw xs.1/\TupsAt H lt (tvs xs.2) tp/\RX=wrg lw xs.1++(lt::tp)
  ltw:lt∉wrg lw xs.1
  ok:∀ w∈xs.1,∀ t∈w.ts,t.ok S
  sz:∀ w∈xs.1,w.ts≠[]/\w.ts.length<=4
  few:xs.1.length<=21
  tl:xs.2.length<=xs.1.length
  good:∀(k:Nat)(s:Str)(v:V)(w:Wch),xs.2[k]? = some (s,v)->xs.1[k]? = some w->s="hangs"\/Wt S day w.ts s v
  dat:Dated S
section
variable {H H':Hp}{lw lt:Addr}{day:Int}{S:Mo}{xs:List Wch×Tv}{RX X:List Addr}
end
section
variable {H:Hp}{lt p:Addr}{vss:List (List V)}{ps:List Addr}{vs:List V}{i:Nat}
theorem TupsAt.push (T:TupsAt H lt vss ps)(hp:H p=some (.tup vs)):TupsAt (upd H lt (.lst (ps.map V.ref++[.ref p]))) lt (vss++[vs]) (ps++[p]):=by
  have np:∀ q u,H q=some (.tup u)->q≠lt:=λ q u e z=>by rw[z,T.lst]at e;cases e
  refine⟨by rw[Ze,map_append];rfl,by rw[length_append,length_append,T.len];rfl,λ j q u e1 e2=>?_⟩
  by_cases c:j<ps.length
  . rw[getElem?_append_left c]at e1;rw[getElem?_append_left (by rw[<- T.len];exact c)]at e2;have z:=T.at_ j q u e1 e2;rw[Zh (np _ _ z)];exact z
  . have h1:=(List.getElem?_eq_some_iff.mp e1).1;rw[length_append,length_singleton]at h1;obtain rfl:j=ps.length:=by omega
    rw[getElem?_append_right (le_refl _),sub_self]at e1;rw[T.len,getElem?_append_right (le_refl _),sub_self]at e2;cases e1;cases e2;rw[Zh (np _ _ hp)];exact hp
end
open PySem PySem.Spec
section
variable {H H':Hp}{lw lt l:Addr}{day:Int}{S:Mo}{xs:List Wch×Tv}{RX:List Addr}{ts:List Atm}{ps:List Addr}
end
end L2
namespace L2
open PySem PySem.Spec PyProof.Rows PySem.W
noncomputable def kOf (e:Int×Value):Str:=match e.2 with|.str k _=>k|_=>""
noncomputable def Ent (w:World)(e:Int×Value):Prop:=∃ t,e=(hashStr w (kOf e), .str (kOf e) t)
noncomputable def ZcC (w:World)(h:Heap)(a:Addr)(ks:List Str)(ld:Bool):Prop:=
  ∃(es:Array (Int×Value))(ep:Nat)(t:SetTable),h.get? a=some { cls:=.type "set",data:=.set es ep t }/\(∀ e∈es.toList,Ent w e)/\(es.toList.map kOf).Perm ks/\ks.Nodup /\
    ks.length<4000/\t.fits es.size=true/\t.led=ld/\(es.size≠0->t.plain=false)
theorem Zkn (t:SetTable)(es:Array (Int×Value))(h:Int)(x:Value):(layNew t es h x).2.1.led=t.led:=by
  unfold layNew;split
  . dsimp only;unfold SetTable.orStandIn;split <;> rfl
  . rfl
theorem Zlq (t:SetTable)(es:Array (Int×Value))(n:Nat)(hp:t.plain=false):(relayAll t es n).2.1.led=t.led/\(relayAll t es n).2.1.plain=false:=by
  unfold relayAll;split
  . rename_i t' o e;have e2:t'.led=t.led/\t'.plain=t.plain:=by
      unfold SetTable.relaid SetTable.laid at e;cases hc:SetTable.layClean (SetTable.sizeAbove n - 1) (es.map (·.1)) with
      |none=>rw[hc]at e;cases e
      |some ow=>
        rw[hc]at e;injection e with e1;injection e1 with e1 _;subst e1;exact⟨rfl,rfl⟩
    dsimp only;split
    . exact⟨e2.1,e2.2.trans hp⟩
    . exact⟨rfl,rfl⟩
  . exact⟨rfl,rfl⟩
theorem ZiF {prog:Program}{w:World}{x y:Str}{t:Tok}:(ZR prog w).is (Sum.inr x) (.str y t)=true↔x=y:=by
  constructor
  . intro h;have h':Zfe (Sum.inr x) (.str y t)=true:=h;rcases Yi h' with ⟨_,_,e,_⟩|⟨z,_,e1,e2⟩
    . cases e
    . cases e1;cases e2;rfl
  . rintro rfl;exact ZhC x t
theorem Ent.elems {prog:Program}{w:World}{l:List (Int×Value)}(h:∀ e∈l,Ent w e):ElemsOf (ZR prog w) l:=λ e he=>by
 obtain⟨t,q⟩:=h e he;rw[q];exact⟨⟨Sum.inr (kOf e),ZiF.mpr rfl,rfl⟩,rfl⟩
section
variable {prog:Program}{w:World}{A:Around}{E:Value->Shared->Prop}{s:Shared}
theorem Zk1 {g:Bool->Sem Unit}(hg:∀ b,g b=rule "set.scan.the-table-gave-way"\/g b=pure ())(b:Bool){Q:Unit->Shared->Prop}(h:Q () s):wpAny (model prog w) A (g b) Q E s:=by
  rcases hg b with e|e <;> rw[e]
  . exact wpAny_rule h
  . exact wpAny_pure h
theorem Zmh {a:Addr}{ks:List Str}{ld:Bool}{x:Str}{tk:Tok}{Q:Bool->Shared->Prop}(hS:ZcC w s.heap a ks ld)(hroom:ks.length+1<4000)(h:∀ b h',Heap.SameBut a s.heap h'->ZcC w h' a (if x∈ks then ks else ks++[x]) ld->Q b { s with heap:=h' }) :
    wpAny (model prog w) A (setAddHashed a (.str x tk) (hashStr w x)) Q E s:=by
  obtain⟨es,ep,t,ho,hel,hpm,hnd,hlen,hf,hled,hpl⟩:=hS;have hel':ElemsOf (ZR prog w) es.toList:=Ent.elems hel;have hsz:es.size=ks.length:=by rw[<- hpm.length_eq,length_map,length_toList]
  have hb:es.size<scanBound:=by have:scanBound=4096:=rfl;omega
  have hkey:(ZR prog w).is (Sum.inr x) (.str x tk)=true:=ZiF.mpr rfl;have hmem:(∃ e∈es.toList,(ZR prog w).is (Sum.inr x) e.2=true)↔x∈ks:=by
    rw[<- hpm.mem_iff,mem_map];constructor
    . rintro⟨e,he,q⟩;obtain⟨t',q'⟩:=hel e he;refine⟨e,he,?_⟩;rw[q']at q;exact(ZiF.mp q).symm
    . rintro⟨e,he,q0⟩;obtain⟨t',q'⟩:=hel e he;refine⟨e,he,?_⟩;rw[q'];exact ZiF.mpr q0.symm
  unfold setAddHashed setAddHashedIn;refine wpAny_holding (wpAny_bind (wpAny_setState_of ho rfl hf ?_));dsimp only;rw[byScan_of (knd:=ZR prog w) rfl hb hel'];simp only[↓reduceIte];unfold setAddByScan;refine wpAny_bind (wpAny_bind (wpAny_rule (wpAny_bind (wpAny_setScan_of (knd:=ZR prog w) (k:=Sum.inr x) hkey ho rfl hf hel' ?_))));cases hr:List.findIdx? (λ e=>(ZR prog w).is (Sum.inr x) e.2) es.toList with
  |some j=>
    obtain⟨hj,hpj,_⟩:=List.findIdx?_eq_some_iff_getElem.mp hr;have hx:x∈ks:=hmem.mp ⟨es.toList[j],getElem_mem hj,hpj⟩;refine wpAny_pure (wpAny_pure ?_);have z:=h false s.heap (Heap.SameBut.refl a s.heap);rw[if_pos hx]at z;exact z ⟨es,ep,t,ho,hel,hpm,hnd,hlen,hf,hled,hpl⟩
  |none=>
    have hx:x∉ks:=λ hx=>by
      obtain⟨e,he,hp⟩:=hmem.mpr hx;have z:=List.findIdx?_eq_none_iff.mp hr e he;rw[hp]at z;cases z
    rw[if_neg hx]at h;dsimp only;have hperm:=layNew_perm t es (hashStr w x) (.str x tk);have hfits:=layNew_fits t es (hashStr w x) (.str x tk);have hl1:=Zkn t es (hashStr w x) (.str x tk);generalize hL:layNew t es (hashStr w x) (.str x tk)=L at hperm hfits hl1 ⊢;obtain⟨es1,t1,wasDummy,gave⟩:=L;dsimp only at hperm hfits hl1 ⊢;rw[Array.toList_push]at hperm;have hel1:∀ e∈es1.toList,Ent w e:=λ e he=>by
      rcases List.mem_append.mp (hperm.mem_iff.mp he) with he|he
      . exact hel e he
      . rw[mem_singleton]at he;subst he;exact⟨tk,rfl⟩
    have hpm1:(es1.toList.map kOf).Perm (ks++[x]):=by
      refine(hperm.map kOf).trans ?_;rw[map_append];exact hpm.append (List.Perm.refl _)
    have hnd1:(ks++[x]).Nodup:=by
      rw[nodup_append];exact⟨hnd,by simp,λ a ha b hb e=>hx (by rw[mem_singleton]at hb;subst hb;subst e;exact ha)⟩
    have hlen1:(ks++[x]).length<4000:=by rw[length_append];exact hroom
    have hsz1:es1.size<=sizeLine:=by
      have z:es1.size=(ks++[x]).length:=by rw[<- hpm1.length_eq,length_map,length_toList]
      rw[z,sizeLine_eq];omega
    refine wpAny_bind (Zk1 (λ b=>by cases b <;> first|exact .inl rfl|exact .inr rfl) _ ?_);have fin:∀(t2:SetTable),t2.fits es1.size=true->t2.led=ld->t2.plain=false->∀ wd:Bool,wpAny (model prog w) A (do
        storeSet a es1 t2
        if (!wd && t2.tooFull)=true then do
            (match (relayAll t2 es1 (SetTable.grown es1.size)).2.2 with|true=>rule "set.scan.the-table-gave-way"|false=>pure ():Sem Unit)
            storeSet a (relayAll t2 es1 (SetTable.grown es1.size)).1 (relayAll t2 es1 (SetTable.grown es1.size)).2.1
            pure (some true)
          else pure (some true)) (λ r s'=>r=some true/\Q true s') E s:=by
      intro t2 hf2 hl2 hp2 wd;refine wpAny_bind (wpAny_storeSet_of ho rfl ?_ hsz1);have hg:(s.heap.update a (Obj.putSet es1 t2)).get? a=some { cls:=.type "set",data:=.set es1 (ep+1) t2 }:=Heap.get?_update_self (Obj.putSet es1 t2) ho rfl;have hsb:=Heap.SameBut.update s.heap a (Obj.putSet es1 t2);split
      . have hp:=relayAll_perm t2 es1 (SetTable.grown es1.size);have hfr:=relayAll_fits t2 es1 (SetTable.grown es1.size);have hlp:=Zlq t2 es1 (SetTable.grown es1.size) hp2;generalize relayAll t2 es1 (SetTable.grown es1.size)=Rl at hp hfr hlp ⊢;obtain⟨es2,t3,gave2⟩:=Rl;dsimp only at hp hfr hlp ⊢;refine wpAny_bind (Zk1 (g:=λ b=>match b with|true=>rule "set.scan.the-table-gave-way"|false=>pure ()) (λ b=>by cases b <;> first|exact .inl rfl|exact .inr rfl) gave2 ?_);have hsz2:es2.size=es1.size:=by rw[<- length_toList,hp.length_eq,length_toList]
        refine wpAny_bind (wpAny_storeSet_of hg rfl ?_ (by rw[hsz2];exact hsz1));have hg2:((s.heap.update a (Obj.putSet es1 t2)).update a (Obj.putSet es2 t3)).get? a=some { cls:=.type "set",data:=.set es2 (ep+1+1) t3 }:=Heap.get?_update_self (Obj.putSet es2 t3) hg rfl;exact wpAny_pure ⟨rfl,h true _ (hsb.trans (Heap.SameBut.update _ a _)) ⟨es2,_,t3,hg2,λ e he=>hel1 e (hp.mem_iff.mp he),(hp.map kOf).trans hpm1,hnd1,hlen1,hfr,hlp.1.trans hl2,λ _=>hlp.2⟩⟩
      . exact wpAny_pure ⟨rfl,h true _ hsb ⟨es1,_,t2,hg,hel1,hpm1,hnd1,hlen1,hf2,hl2,λ _=>hp2⟩⟩
    have last:∀(t2:SetTable),t2.fits es1.size=true->t2.led=ld->t2.plain=false->wpAny (model prog w) A (do
        storeSet a es1 t2
        if (!wasDummy && t2.tooFull)=true then do
            (match (relayAll t2 es1 (SetTable.grown es1.size)).2.2 with|true=>rule "set.scan.the-table-gave-way"|false=>pure ():Sem Unit)
            storeSet a (relayAll t2 es1 (SetTable.grown es1.size)).1 (relayAll t2 es1 (SetTable.grown es1.size)).2.1
            pure (some true)
          else pure (some true)) (λ r s'=>wpAny (model prog w) A (match r with|some added=>pure added|none=>setAddHashedIn a (.str x tk) (hashStr w x) 99999) Q E s') E s:=λ t2 h1 h2 h3=>
      wpAny_mono (fin t2 h1 h2 h3 wasDummy) (λ r s' q=>by obtain⟨rfl,q⟩:=q;exact wpAny_pure q) λ _ _ e=>e
    cases hp1:t1.plain with
    |true=>
      simp only[if_true];refine wpAny_bind ?_;rw[hashByValue_scannable 8 (x:=.str x tk) rfl];refine wpAny_pure ?_;simp only[plainKind,false_eq_true,if_false];exact last _ (SetTable.fits_plain_off hfits) (hl1.trans hled) rfl
    |false=>
      simp only[false_eq_true,if_false];refine wpAny_bind (wpAny_pure ?_);simp only[if_true];exact last _ hfits (hl1.trans hled) hp1
end
noncomputable def dd (ks:List Str)(x:Str):List Str:=if x∈ks then ks else ks++[x]
noncomputable def ddl (ns:List Str):List Str:=ns.foldl dd []
theorem Znf (ns:List Str)(x:Str):ddl (ns++[x])=dd (ddl ns) x:=by unfold ddl;rw[List.foldl_append];rfl
theorem ZfM (ns:List Str):(ddl ns).length<=ns.length:=by
  suffices h:∀(ns acc:List Str),(ns.foldl dd acc).length<=acc.length+ns.length by
    have:=h ns [];simpa [ddl] using this
  intro ns
  induction ns with
  |nil=>intro acc;exact le_refl _
  |cons x r ih=>
    intro acc;have:=ih (dd acc x);have h2:(dd acc x).length<=acc.length+1:=by unfold dd;split <;> simp
    rw[foldl_cons,length_cons];omega
theorem ZcC.at {w:World}{h h':Heap}{a:Addr}{ks:List Str}{ld:Bool}(q:ZcC w h a ks ld)(k:∀ o,h.get? a=some o->h'.get? a=some o):ZcC w h' a ks ld:=by
 obtain⟨es,ep,t,ho,r⟩:=q;exact⟨es,ep,t,k _ ho,r⟩
section
variable {prog:Program}{w:World}{A:Around}{R:Result->Shared->Prop}{I:Addr}{fp wr:List Addr}{G:Array GenState->Array GenState->Prop}{n:Nat}{P:Nat->Value->Prop}{St:Nat->Shared->Prop}
theorem Zll (W:WalksS prog w A.in1 I fp wr G n P St)(S:Addr)(hSf:S∉fp)(ld:Bool)(val:Nat->Str)(hval:∀ i v,P i v->∃ t,v = .str (val i) t)(hb:n<3000) :
    ∀(k i:Nat)(s:Shared),n - i=k->i<=n->St i s->ZcC w s.heap S (ddl ((List.range i).map val)) ld ->
      (∀ s',Moved (S::wr) G s s'->ZcC w s'.heap S (ddl ((List.range n).map val)) ld->R (.ok (.ret .none)) s') ->
      codeAny (model prog w) A (.builtin "set.update.loop" ⟨[.ref S, .ref I],[]⟩) R s:=by
  have hSw:S∉wr:=λ h=>hSf (W.sub _ h);have hsub:∀ b∈wr,b∈S::wr:=λ b hb=>mem_cons_of_mem _ hb;intro k
  induction k with
  |zero=>
    intro i s hk hi hst hS hR;have hin:i=n:=by omega
    subst hin;refine codeAny_builtin F.entry_set_update_loop ?_;rw[Around.under_plainId F.plain_set_update_loop _];show wpAny _ A.in1 (pyNext (.ref I) >>= _) _ _ s;refine wpAny_bind (W.done s _ _ hst λ s' hm=>?_);show wpAny _ A.in1 (ret Value.none) _ _ s';exact wpAny_pure (hR s' (hm.mono hsub) (hS.at λ o e=>hm.heap S _ hSw e))
  |succ k ih=>
    intro i s hk hi hst hS hR;have hlt:i<n:=by omega
    refine codeAny_builtin F.entry_set_update_loop ?_;rw[Around.under_plainId F.plain_set_update_loop _];show wpAny _ A.in1 (pyNext (.ref I) >>= _) _ _ s;refine wpAny_bind (W.item i s _ _ hlt hst λ v s' hP hst' hm=>?_);obtain⟨t,rfl⟩:=hval i v hP;have hS':ZcC w s'.heap S (ddl ((List.range i).map val)) ld:=hS.at λ o e=>hm.heap S _ hSw e;have hl:=ZfM ((List.range i).map val);rw[length_map,length_range]at hl;show wpAny _ A.in1 (holding [Value.str (val i) t] (setAdd S (.str (val i) t)) >>= _) _ _ s';refine wpAny_bind (wpAny_holding ?_);unfold setAdd;refine wpAny_holding (wpAny_bind (wpAny_pyHash_str ?_));refine Zmh (s:={ s' with toks:=s'.toks+1 }) hS' (by omega) λ b h' hsb hS2=>?_;have hSi:ZcC w h' S (ddl ((List.range (i+1)).map val)) ld:=by
      rw[List.range_succ,map_append,List.map_singleton,Znf];exact hS2
    refine wpAny_pure ⟨plainId_quiet F.plain_set_update_loop _,ih (i+1) _ (by omega) hlt (W.frame _ s' _ _ hst' (le_succ _) λ b hb o e=>?_) hSi λ s'' hm'' hS''=>?_⟩
    . rw[hsb.2 b (λ h:b=S=>hSf (by rw[<- h];exact hb))];exact e
    . refine hR s'' (Moved.trans W.gtrans ((hm.mono hsub).then_heap (le_succ _) λ b o hb e=>?_) hm'') hS'';rw[hsb.2 b (λ h:b=S=>hb (by rw[h];exact mem_cons_self))];exact e
end
noncomputable def byT (w:World):Bool:=w.params.followText "set-order"
section
variable {prog:Program}{w:World}{A:Around}{E:Value->Shared->Prop}{s:Shared}
theorem Zhm (a:Value){Q₁:Value->Shared->Prop}(h:Q₁ (.ref s.heap.objs.size) { s with heap:=s.heap.push { cls:=.type "set",dict:=none,data:=.set #[] 0 (.fresh 0 0 (!byT w)) } }) :
    codeAny (model prog w) A (.call (.builtin "set.__new__") ⟨[.type "set",a],[]⟩) (wants Q₁ E) s:=by
  refine codeAny_of_tree ?_;show wpAny _ A.in1 (do checkBuiltinCall "set.__new__" ⟨[.type "set",a],[]⟩;again (.builtin "set.__new__" ⟨[.type "set",a],[]⟩)) _ _ s;refine wpAny_bind (wpAny_of_eq (F.newCall_set_1 a) (wpAny_pure ⟨plainId_quiet F.plain_set_new _,codeAny_builtin F.entry_set_new ?_⟩));rw[Around.under_plainId F.plain_set_new _];unfold Builtin.«set.__new__» Builtin.Frozenset.newClass;have hsub:=sub_set_self;obtain⟨hp,g,d,tk,os⟩:=s;dsimp only
  wp_walk
  refine wpAny_askSetting (wpAny_pure ?_);dsimp only;simp only[newObj];refine wpAny_bind (wpAny_alloc (wpAny_pure ?_));exact wpAny_pure h
set_option maxHeartbeats 3200000 in
theorem ZlX {l:Addr}{items:Array Value}{ns:List Str}{Q:Value->Shared->Prop}(hh:A.handled=none)(hl:s.heap.IsList l items)(hi:∀(i:Nat)(v:Value),items[i]? = some v->∃ t,v = .str (ns.getD i "") t)(hn:items.size=ns.length)(hb:ns.length<3000)(h:∀(h':Heap)(tk:Nat),ZcC w h' s.heap.objs.size (ddl ns) (!byT w) ->
      (∀ b o,b<s.heap.objs.size->s.heap.get? b=some o->h'.get? b=some o)->Q (.ref s.heap.objs.size) { s with heap:=h',toks:=tk }) :
    wpAny (model prog w) A (call (.type "set") [.ref l]) Q E s:=by
  have hns:(List.range items.size).map (λ i=>ns.getD i "")=ns:=by
    rw[hn];refine List.ext_getElem (by rw[length_map,length_range]) λ i h1 h2=>?_;rw[List.getElem_map,List.getElem_range,List.getD_eq_getElem?_getD,getElem?_eq_getElem h2];rfl
  obtain⟨c,tl,hmro⟩:=F.called_set.mro;have hmade:=F.called_set.made;have hsub:=F.called_set.sub;refine wpAny_call (codeAny_of_tree ?_);show wpAny _ _ (callAny (.type "set") _) _ _ _;refine wpAny_pure ⟨Code.quiet_builtin _ (by decide +kernel),codeAny_builtin F.entry_type_call ?_⟩;rw[Around.under_plain (weight_type_call_type "set" [.ref l] []) rfl];have h1:=F.called_set.notType;have h2:=F.called_set.canCreate;have hct:=F.typeCall_set_1 (.ref l)
  repeat (any_goals (first|assumption|wp_step))
  refine codeAny_mono (Zhm (.ref l) (E:=E) (Q₁:=λ obj s₁=>obj = .ref s.heap.objs.size/\s₁ = { s with heap:=s.heap.push { cls:=.type "set",dict:=none,data:=.set #[] 0 (.fresh 0 0 (!byT w)) } }) ⟨rfl,rfl⟩) λ r s₁ hr=>?_;cases r with
  |error e=>exact hr
  |ok fl=>
    cases fl with
    |ret obj=>
      obtain⟨rfl,rfl⟩:=hr;have hS:(s.heap.push { cls:=.type "set",dict:=none,data:=.set #[] 0 (.fresh 0 0 (!byT w)) }).get? s.heap.objs.size=some { cls:=.type "set",dict:=none,data:=.set #[] 0 (.fresh 0 0 (!byT w)) }:=Heap.get?_push_size _ rfl;have hT:Shared.TypeIs { s with heap:=s.heap.push { cls:=.type "set",dict:=none,data:=.set #[] 0 (.fresh 0 0 (!byT w)) } } (.ref s.heap.objs.size) "set":=⟨_,hS,rfl⟩;have hli:=F.called_set.init.lookup;have hbi:=F.called_set.init.bind (.ref s.heap.objs.size)
      repeat (any_goals (first|assumption|wp_step))
      refine codeAny_mono (codeAny_call_builtin (R:=wants (λ r s₂=>r = .none/\∃ h' tk,s₂ = { s with heap:=h',toks:=tk }/\ZcC w h' s.heap.objs.size (ddl ns) (!byT w) /\
          (∀ b o,b<s.heap.objs.size->s.heap.get? b=some o->h'.get? b=some o)) E) F.called_set.init.plain F.entry_set_init (check_set_init_1 hT ?_)) λ r₂ s₂ hr₂=>?_
      . obtain⟨ol,hol,hcl,nl,hdl⟩:=hl;obtain⟨ocls,odict,odata,oslots⟩:=ol;simp only at hcl hdl;subst hcl;subst hdl;have hol':(s.heap.push { cls:=.type "set",dict:=none,data:=.set #[] 0 (.fresh 0 0 (!byT w)) }).get? l=some { cls:=.type "list",dict:=odict,data:=.seq items nl,slots:=oslots }:=Heap.get?_push_of_some _ hol;have hsls:=F.sub_list_set;have hslf:=F.sub_list_frozenset;have hne:(Value.type "list" == Value.type "dict")=false:=by decide
        have hl1:(s.heap.push { cls:=.type "set",dict:=none,data:=.set #[] 0 (.fresh 0 0 (!byT w)) }).IsList l items:=⟨_,hol',rfl,nl,rfl⟩;unfold Builtin.«set.__init__» noKeywords Builtin.Frozenset.updateFrom;generalize hPI:pyIter=PI
        wp_walk
        subst hPI;refine wpAny_pyIter_list hl1 ?_;refine wpAny_bind (wpAny_runValue ?_);have hlS:l<s.heap.objs.size:=Heap.lt_size hol;have hh3:A.in1.in1.in1.handled=none:=by simp[hh]
        have hneI:l≠(s.heap.push { cls:=.type "set",dict:=none,data:=.set #[] 0 (.fresh 0 0 (!byT w)) }).objs.size:=by
          rw[Heap.size_push];exact ne_of_lt (lt_succ_of_lt hlS)
        have hSf:s.heap.objs.size∉[(s.heap.push { cls:=.type "set",dict:=none,data:=.set #[] 0 (.fresh 0 0 (!byT w)) }).objs.size,l]:=by
          rw[Heap.size_push];simp only[mem_cons,mem_singleton,not_mem_nil,or_false,not_or];exact⟨ne_of_lt (lt_succ_self _),Nat.ne_of_gt hlS⟩
        refine Zll ((Walks.list hh3 _ l hneI items).toS) s.heap.objs.size hSf (!byT w) (λ i=>ns.getD i "") hi (by omega) (items.size - 0) 0 _ (by omega) (zero_le _)
          ⟨⟨_,Heap.get?_push_size _ rfl,rfl,rfl⟩,(hl1.push _)⟩ ?hS0 ?hR
        case hS0=>
          have hget:((s.heap.push { cls:=.type "set",dict:=none,data:=.set #[] 0 (.fresh 0 0 (!byT w)) }).push { cls:=.type "list_iterator",data:=.fields #[.ref l, .int 0 0] }).get? s.heap.objs.size
              = some { cls:=.type "set",dict:=none,data:=.set #[] 0 (.fresh 0 0 (!byT w)) }:=Heap.get?_push_of_some _ hS
          exact⟨#[],0,_,hget,λ e he=>(nomatch he),List.Perm.refl _,List.nodup_nil,(show(0:Nat)<4000 by decide),by rfl,rfl,λ z=>absurd rfl z⟩
        case hR=>
          intro s' hm hS';rw[hns]at hS';obtain⟨h',g',d',tk',os'⟩:=s';have eg:g'=s.gens:=hm.gens;have ed:d'=s.drawn:=hm.drawn;have eo:os'=s.os:=hm.os;subst eg;subst ed;subst eo;show wpAny _ _ _ _ _ _;refine wpAny_pure ?_;show wpAny _ _ (ret Value.none) _ _ _;refine wpAny_pure ⟨rfl,h',tk',rfl,hS',λ b o hb e=>?_⟩;have hb1:b≠s.heap.objs.size:=ne_of_lt hb;have hb2:b≠(s.heap.push { cls:=.type "set",dict:=none,data:=.set #[] 0 (.fresh 0 0 (!byT w)) }).objs.size:=by
            rw[Heap.size_push];exact ne_of_lt (lt_succ_of_lt hb)
          exact hm.heap b o (by simp only[mem_cons,mem_singleton,not_mem_nil,or_false,not_or];exact⟨hb1,hb2⟩) (Heap.get?_push_of_some _ (Heap.get?_push_of_some _ e))
      . cases r₂ with
        |error e=>exact hr₂
        |ok fl₂=>
          cases fl₂ with
          |ret r=>
            obtain⟨rfl,h',tk,rfl,hS',hk'⟩:=hr₂
            repeat (any_goals (first|assumption|wp_step))
            exact h _ _ hS' hk'
          |_=>exact hr₂.elim
    |_=>exact hr.elim
end
end L2
namespace L2
open PySem PySem.Spec PyProof.Rows PySem.W
theorem Jh:Slot "set_iterator" "__next__" "set_iterator.__next__":=
  .of (owner:="set_iterator") (n:="__next__") (by rw[typeLookup_type,builtinLookup_eq_fast];kernel_rfl) (by decide +kernel) (by decide +kernel) (by decide +kernel)
    (by first|exact .inl (by decide +kernel)|exact .inr (by decide +kernel)) (by rw[isSubtype_type];kernel_rfl)
theorem Zhj:entryFor table "set_iterator.__next__"=some Builtin.«set_iterator.__next__»:=entryFor_of_tree (by kernel_rfl)
theorem Zjm:Manifest.owners.lookup (String.ofList ['r','o','t','a','r','e','t','i','_','t','e','s'].reverse)=some Manifest.sig_set_iterator:=by kernel_rfl
theorem ZiW (a:Value):argsOk "set_iterator.__next__" ⟨[a],[]⟩:=by
 unfold argsOk;rw[signature?_of (id:="set_iterator.__next__") (n:=['_','_','t','x','e','n','_','_']) (o:=['r','o','t','a','r','e','t','i','_','t','e','s']) (by kernel_rfl) Zjm];kernel_rfl
theorem ZgV:entryFor table "set.__iter__"=some Builtin.«frozenset.__iter__»:=
 entryFor_alias (id':="frozenset.__iter__") (by kernel_rfl) rfl (by decide +kernel) (by kernel_rfl)
noncomputable def ItO (S:Addr)(first:Value)(i n ep:Nat):Obj:={ cls:=.type "set_iterator",data:=.fields #[first, .int i 0, .ref S, .int n 0, .int ep 0] }
noncomputable def Zbb (es:Array (Int×Value))(ep:Nat)(t:SetTable):Obj:={ cls:=.type "set",data:=.set es ep t }
section
variable {prog:Program}{w:World}{A:Around}{E:Value->Shared->Prop}{s:Shared}{I S Tp:Addr}{i ep:Nat}{es:Array (Int×Value)}{t:SetTable}{Q:Option Value->Shared->Prop}
theorem ZfF (hI:∃ f,s.heap.get? I=some (ItO S f i es.size ep))(h:wpAny (model prog w) A.in1 (Builtin.«set_iterator.__next__» ⟨[.ref I],[]⟩) (λ fin s'=>∃ v,fin = .done (.ret v)/\Q (some v) s')
      (λ e s'=>wpAny (model prog w) A (do if <- isInstance e (.type "StopIteration") then pure none else throw e) Q E s') s):wpAny (model prog w) A (pyNext (.ref I)) Q E s:=by
  obtain⟨f,hI⟩:=hI;have hT:s.TypeIs (.ref I) "set_iterator":=⟨_,hI,rfl⟩;unfold pyNext;refine wpAny_bind (wpAny_attempt (wpAny_callSpecial?_slot (name:=Str.ofString "__next__") hT Jh (wpAny_call_entry Jh hT Zhj (wpAny_mono h (λ fin s' q=>?_) λ e s' q=>q) (ZiW _))));obtain⟨v,e,q⟩:=q;exact⟨v,e,wpAny_pure q⟩
theorem Zi8 {slot nx:Nat}{x:Value}(hI:s.heap.get? I=some (ItO S (.int slot 0) i es.size ep))(hS:s.heap.get? S=some (Zbb es ep t))(hf:t.fits es.size=true)(hN:∀(E:Value->Shared->Prop)(Q:Option (Value×Nat)->Shared->Prop),Q (some (x,nx)) s->wpAny (model prog w) A.in1 (setNext S slot i ep) Q E s)(hQ:∀ h',h'.get? I=some (ItO S (.int nx 0) (i+1) es.size ep)->(∀ b o,b≠I->s.heap.get? b=some o->h'.get? b=some o)->Q (some x) { s with heap:=h' }) :
    wpAny (model prog w) A (pyNext (.ref I)) Q E s:=by
  refine ZfF ⟨_,hI⟩ ?_;unfold Builtin.«set_iterator.__next__»;refine wpAny_bind (wpAny_pure ?_);refine wpAny_bind (wpAny_fieldsOf hI rfl ?_);refine wpAny_bind (wpAny_setEntries_of hS rfl hf ?_);rw[if_neg (by simp)];show wpAny _ _ (setNext S ((slot:Int)).toNat ((i:Int)).toNat ((ep:Int)).toNat >>= _) _ _ _;rw[toNat_natCast,toNat_natCast,toNat_natCast];refine wpAny_bind (hN _ _ ?_);refine wpAny_bind (wpAny_setField hI rfl (by simp) ?_);have h1:(s.heap.update I (Obj.mapFields (·.setIfInBounds 0 (rawInt nx)))).get? I=some (ItO S (.int nx 0) i es.size ep):=Heap.get?_update_self _ hI rfl;refine wpAny_bind (wpAny_setField h1 rfl (by simp) ?_);have h2:((s.heap.update I (Obj.mapFields (·.setIfInBounds 0 (rawInt nx)))).update I (Obj.mapFields (·.setIfInBounds 1 (rawInt ((i:Int)+1))))).get? I=some (ItO S (.int nx 0) (i+1) es.size ep):=Heap.get?_update_self _ h1 rfl;exact wpAny_pure ⟨_,rfl,hQ _ h2 λ b o hb e=>(Heap.get?_update_other _ _ (Ne.symm hb)).trans ((Heap.get?_update_other _ _ (Ne.symm hb)).trans e)⟩
theorem Zja {slot:Nat}(hh:A.handled=none)(hI:s.heap.get? I=some (ItO S (.int slot 0) i es.size ep))(hS:s.heap.get? S=some (Zbb es ep t))(hf:t.fits es.size=true)(hN:∀(E:Value->Shared->Prop)(Q:Option (Value×Nat)->Shared->Prop),Q none s->wpAny (model prog w) A.in1 (setNext S slot i ep) Q E s)(hQ:∀ h',(∀ b o,b≠I->s.heap.get? b=some o->h'.get? b=some o)->Q none { s with heap:=h' }) :
    wpAny (model prog w) A (pyNext (.ref I)) Q E s:=by
  refine ZfF ⟨_,hI⟩ ?_;unfold Builtin.«set_iterator.__next__»;refine wpAny_bind (wpAny_pure ?_);refine wpAny_bind (wpAny_fieldsOf hI rfl ?_);refine wpAny_bind (wpAny_setEntries_of hS rfl hf ?_);rw[if_neg (by simp)];show wpAny _ _ (setNext S ((slot:Int)).toNat ((i:Int)).toNat ((ep:Int)).toNat >>= _) _ _ _;rw[toNat_natCast,toNat_natCast,toNat_natCast];refine wpAny_bind (hN _ _ ?_);refine wpAny_bind (wpAny_setField hI rfl (by simp) ?_);show wpAny _ _ (newExc (.type "StopIteration") [] >>= _) _ _ _;refine wpAny_bind ?_;simp only[newExc,newTuple];refine wpAny_bind (wpAny_newObj_type ?_ (by size_fits));refine wpAny_bind (m:=firstArgMember _ _) (wpAny_of_eq (a:=Value.none) (by first|rfl|(simp only[firstArgMember];rfl)) ?_);refine wpAny_newObj_type ?_ (by size_fits);simp only[raiseNew];refine wpAny_bind (wpAny_handled ?_);rw[show A.in1.handled=none from hh];refine wpAny_bind (wpAny_pure (wpAny_throw ?_));refine wpAny_bind (wpAny_isInstance (T:="StopIteration") (b:=true) ⟨_,Heap.get?_push_size _ rfl,rfl⟩ isSubtype_stop ?_);refine wpAny_pure (hQ _ λ b o hb e=>?_);exact Heap.get?_push_of_some _ (Heap.get?_push_of_some _ ((Heap.get?_update_other _ _ (Ne.symm hb)).trans e))
theorem Zi7 {places:Array Value}{pl:Nat}{e0:Int×Value}{ot:Obj}{nt:Nat}(hI:s.heap.get? I=some (ItO S (.ref Tp) i es.size ep))(hS:s.heap.get? S=some (Zbb es ep t))(hf:t.fits es.size=true)(hT:s.heap.get? Tp=some ot)(hTd:ot.data = .seq places nt)(hp:places[i]? = some (.int pl 0))(he:es[pl]? = some e0)(hQ:∀ h',h'.get? I=some (ItO S (.ref Tp) (i+1) es.size ep)->(∀ b o,b≠I->s.heap.get? b=some o->h'.get? b=some o)->Q (some e0.2) { s with heap:=h' }) :
    wpAny (model prog w) A (pyNext (.ref I)) Q E s:=by
  refine ZfF ⟨_,hI⟩ ?_;unfold Builtin.«set_iterator.__next__»;refine wpAny_bind (wpAny_pure ?_);refine wpAny_bind (wpAny_fieldsOf hI rfl ?_);refine wpAny_bind (wpAny_setEntries_of hS rfl hf ?_);rw[if_neg (by simp)];show wpAny _ _ (seqItems? (.ref Tp) >>= _) _ _ _;refine wpAny_bind (wpAny_seqItems hT hTd ?_);dsimp only;rw[toNat_natCast,hp];dsimp only;refine wpAny_bind ?_;unfold setNextDrawn;refine wpAny_bind (wpAny_setState_of hS rfl hf ?_);dsimp only;rw[toNat_natCast,if_neg (by simp),toNat_natCast,he];refine wpAny_bind (wpAny_pure ?_);refine wpAny_pure ?_;refine wpAny_bind (wpAny_setField hI rfl (by simp) ?_);have h2:(s.heap.update I (Obj.mapFields (·.setIfInBounds 1 (rawInt ((i:Int)+1))))).get? I=some (ItO S (.ref Tp) (i+1) es.size ep):=Heap.get?_update_self _ hI rfl;exact wpAny_pure ⟨_,rfl,hQ _ h2 λ b o hb e=>(Heap.get?_update_other _ _ (Ne.symm hb)).trans e⟩
theorem Zi9 {places:Array Value}{ot:Obj}{nt:Nat}(hh:A.handled=none)(hI:s.heap.get? I=some (ItO S (.ref Tp) i es.size ep))(hS:s.heap.get? S=some (Zbb es ep t))(hf:t.fits es.size=true)(hT:s.heap.get? Tp=some ot)(hTd:ot.data = .seq places nt)(hp:places[i]? = none)(hQ:∀ h',(∀ b o,b≠I->s.heap.get? b=some o->h'.get? b=some o)->Q none { s with heap:=h' }) :
    wpAny (model prog w) A (pyNext (.ref I)) Q E s:=by
  refine ZfF ⟨_,hI⟩ ?_;unfold Builtin.«set_iterator.__next__»;refine wpAny_bind (wpAny_pure ?_);refine wpAny_bind (wpAny_fieldsOf hI rfl ?_);refine wpAny_bind (wpAny_setEntries_of hS rfl hf ?_);rw[if_neg (by simp)];show wpAny _ _ (seqItems? (.ref Tp) >>= _) _ _ _;refine wpAny_bind (wpAny_seqItems hT hTd ?_);dsimp only;rw[toNat_natCast,hp];dsimp only;refine wpAny_bind (wpAny_setField hI rfl (by simp) ?_);have h1:(s.heap.update I (Obj.mapFields (·.setIfInBounds 0 (rawInt 0)))).get? I=some (ItO S (.int 0 0) i es.size ep):=Heap.get?_update_self _ hI rfl;refine wpAny_bind (wpAny_setField h1 rfl (by simp) ?_);show wpAny _ _ (newExc (.type "StopIteration") [] >>= _) _ _ _;refine wpAny_bind ?_;simp only[newExc,newTuple];refine wpAny_bind (wpAny_newObj_type ?_ (by size_fits));refine wpAny_bind (m:=firstArgMember _ _) (wpAny_of_eq (a:=Value.none) (by first|rfl|(simp only[firstArgMember];rfl)) ?_);refine wpAny_newObj_type ?_ (by size_fits);simp only[raiseNew];refine wpAny_bind (wpAny_handled ?_);rw[show A.in1.handled=none from hh];refine wpAny_bind (wpAny_pure (wpAny_throw ?_));refine wpAny_bind (wpAny_isInstance (T:="StopIteration") (b:=true) ⟨_,Heap.get?_push_size _ rfl,rfl⟩ isSubtype_stop ?_);refine wpAny_pure (hQ _ λ b o hb e=>?_);exact Heap.get?_push_of_some _ (Heap.get?_push_of_some _ ((Heap.get?_update_other _ _ (Ne.symm hb)).trans ((Heap.get?_update_other _ _ (Ne.symm hb)).trans e)))
end
end L2
namespace L2
open PySem PySem.Spec PyProof.Rows PySem.W
theorem Zdl {α:Type}:∀(xs:List α)(i:Nat)(hi:i<xs.length),(xs[i]::xs.eraseIdx i).Perm xs
  |x::r,0,_=>List.Perm.refl _
  | x::r,i+1,hi=>by
    have z:=Zdl r i (by simpa using hi);exact(List.Perm.swap x _ _).trans (List.Perm.cons x z)
section
variable {prog:Program}{w:World}{A:Around}{E:Value->Shared->Prop}{s:Shared}
theorem ZlW {src:Source}{n:Nat}{Q:Nat->Shared->Prop}(hn:n≠0)(h:∀ i d',i<n->Q i { s with drawn:=d' }):wpAny (model prog w) A (choose src n) Q E s:=by
 intro Γ p hΓ;unfold choose;rw[Sem.wp_choose];refine⟨hn,?_⟩;rw[Sem.wp_pure];exact h _ _ (Nat.mod_lt _ (Nat.pos_of_ne_zero hn))
theorem Zk4 {α:Type}:∀(n:Nat)(xs:List α)(s:Shared)(Q:List α->Shared->Prop),n=xs.length->(∀ ys d',ys.Perm xs->Q ys { s with drawn:=d' })->wpAny (model prog w) A (drawOrder n xs) Q E s
  | 0,xs,s,Q,e,h=>by
    have e2:xs=[]:=List.length_eq_zero_iff.mp e.symm;subst e2;exact wpAny_pure (h [] s.drawn (List.Perm.refl _))
  |n+1,[],s,Q,e,h=>by cases e
  | n+1,x::r,s,Q,e,h=>by
    unfold drawOrder;refine wpAny_bind (ZlW (by simp) λ i d' hi=>?_);rw[getElem?_eq_getElem hi];dsimp only;refine wpAny_bind (Zk4 n ((x::r).eraseIdx i) _ _ ?_ λ ys d2 hp=>?_)
    . rw[List.length_eraseIdx_of_lt hi];simp at e ⊢;omega
    . refine wpAny_pure (h _ d2 ?_);exact(List.Perm.cons _ hp).trans (Zdl _ i hi)
variable {S:Addr}{ep:Nat}{es:Array (Int×Value)}{t:SetTable}{Q:Value->Shared->Prop}
noncomputable def TpO (ord:List Nat):Obj:={ cls:=.type "tuple",data:=.seq (ord.map λ(i:Nat)=>Value.int (i:Int) 0).toArray }
theorem Znz (hS:s.heap.get? S=some (Zbb es ep t))(hf:t.fits es.size=true)(hz:es.size<=sizeLine)(h1:byT w=false->t.plain=false->1<es.size->∀(ord:List Nat) d',ord.Perm (List.range es.size)->Q (.ref (s.heap.objs.size+1)) { s with heap:=(s.heap.push (TpO ord)).push (ItO S (.ref s.heap.objs.size) 0 es.size ep),drawn:=d' })(h2:(byT w=true\/t.plain=true\/es.size<=1)->Q (.ref s.heap.objs.size) { s with heap:=s.heap.push (ItO S (.int 0 0) 0 es.size ep) }) :
    wpAny (model prog w) A (pyIter (.ref S)) Q E s:=by
  have hT:s.TypeIs (.ref S) "set":=⟨_,hS,rfl⟩;refine wpAny_pyIter_slot hT F.slot_set_iter (wpAny_call_entry F.slot_set_iter hT ZgV ?_ (F.args_set_iter_1 _));unfold Builtin.«frozenset.__iter__»;refine wpAny_bind (wpAny_pure ?_);refine wpAny_bind ?_;unfold Builtin.Frozenset.sizeOf;refine wpAny_bind (wpAny_setEntries_of hS rfl hf (wpAny_pure ?_));refine wpAny_bind ?_;unfold setDrawn setsByText;refine wpAny_bind (wpAny_setState_of hS rfl hf ?_);refine wpAny_bind (wpAny_bind (wpAny_askSetting (wpAny_pure ?_)));refine wpAny_pure ?_;have fin:∀(s':Shared)(first:Value),s'.heap.get? S=some (Zbb es ep t)->Q (.ref s'.heap.objs.size) { s' with heap:=s'.heap.push (ItO S first 0 es.size ep) }->wpAny (model prog w) A.in1 (do
      let e <- setEpoch S
      let r <- newFields "set_iterator" [first,rawInt 0,Value.ref S,rawInt es.size,rawInt e]
      ret r) (λ fin s'=>∃ v,fin=Fin.done (Flow.ret v)/\∃ T' r,s'.TypeIs v T'/\typeLookup (Value.type T') (Str.ofString "__next__")=pure (some r)/\Q v s') E s':=by
    intro s' first e q
    refine wpAny_bind (wpAny_setEpoch_of e rfl hf ?_);exact wpAny_bind (wpAny_newObj_type (wpAny_pure ⟨_,rfl,"set_iterator",_,⟨_,Heap.get?_push_size _ rfl,rfl⟩,Jh.lookup,q⟩) (by size_fits))
  by_cases c:byT w=false/\t.plain=false/\1<es.size
  . obtain⟨c1,c2,c3⟩:=c;refine wpAny_ite_split (λ _=>?_) (λ hn=>?_)
    . refine wpAny_bind (Zk4 _ _ _ _ (by rw[length_range]) λ ord d' hp=>?_);have hl:ord.length=es.size:=by rw[hp.length_eq,length_range]
      unfold newTuple;refine wpAny_bind (wpAny_newObj_type ?_ (by show _<=sizeLine;simp[hl];exact hz));refine fin _ _ (Heap.get?_push_of_some _ hS) ?_;rw[Heap.size_push];exact h1 c1 c2 c3 ord d' hp
    . exfalso;refine hn ?_;show(!byT w && (!t.plain && decide (1<es.size)))=true;rw[c1,c2,decide_eq_true c3];rfl
  . refine wpAny_ite_split (λ hy=>?_) (λ _=>?_)
    . exfalso;have hy':(!byT w && (!t.plain && decide (1<es.size)))=true:=hy;simp only[and_eq_true,Bool.not_eq_true',decide_eq_true_eq]at hy';exact c ⟨hy'.1,hy'.2.1,hy'.2.2⟩
    . refine wpAny_bind (wpAny_pure ?_);refine fin _ _ hS (h2 ?_);cases hb:byT w with
      |true=>exact .inl rfl
      |false=>
        cases hp:t.plain with
        |true=>exact .inr (.inl rfl)
        |false=>exact .inr (.inr (by rw[hb,hp]at c;simp at c;omega))
end
end L2
namespace L2
open PySem PySem.Spec PyProof.Rows PySem.W
theorem ZdQ:Slot "set_iterator" "__iter__" "set_iterator.__iter__":=
  .of (owner:="set_iterator") (n:="__iter__") (by rw[typeLookup_type,builtinLookup_eq_fast];kernel_rfl) (by decide +kernel) (by decide +kernel) (by decide +kernel)
    (by first|exact .inl (by decide +kernel)|exact .inr (by decide +kernel)) (by rw[isSubtype_type];kernel_rfl)
theorem Zhk:entryFor table "set_iterator.__iter__"=some Builtin.«dict_keyiterator.__iter__»:=
 entryFor_alias (id':="dict_keyiterator.__iter__") (by kernel_rfl) rfl (by decide +kernel) (by kernel_rfl)
theorem ZiX (a:Value):argsOk "set_iterator.__iter__" ⟨[a],[]⟩:=by
 unfold argsOk;rw[signature?_of (id:="set_iterator.__iter__") (n:=['_','_','r','e','t','i','_','_']) (o:=['r','o','t','a','r','e','t','i','_','t','e','s']) (by kernel_rfl) Zjm];kernel_rfl
theorem ZkP {α:Type}(a:Array α)(h:a.size=1):∃ x,a = #[x]:=by
  cases a with
  |mk l=>match l,h with|[x],_=>exact⟨x,rfl⟩
section
variable {prog:Program}{w:World}{A:Around}
theorem ZkK {E:Value->Shared->Prop}{s:Shared}{I S:Addr}{f:Value}{i n ep:Nat}{Q:Value->Shared->Prop}(hI:s.heap.get? I=some (ItO S f i n ep))(h:Q (.ref I) s):wpAny (model prog w) A (pyIter (.ref I)) Q E s:=by
 have hT:s.TypeIs (.ref I) "set_iterator":=⟨_,hI,rfl⟩;refine wpAny_pyIter_slot hT ZdQ (wpAny_call_entry ZdQ hT Zhk ?_ (ZiX _));show wpAny _ _ (ret (.ref I)) _ _ s;exact wpAny_pure ⟨_,rfl,"set_iterator",_,hT,Jh.lookup,h⟩
theorem Zl6 (hh:A.handled=none)(I S Tp:Addr)(hS:S≠I)(hT:Tp≠I)(es:Array (Int×Value))(ep:Nat)(t:SetTable)(hf:t.fits es.size=true)(ord:List Nat)(ho:ord.Perm (List.range es.size)) :
    Walks prog w A I [I,S,Tp] [I] es.size (λ i v=>((ord.map λ p=>(es[p]?.map (·.2)).getD .none))[i]? = some v)
      (λ i h=>h.get? I=some (ItO S (.ref Tp) i es.size ep)/\h.get? S=some (Zbb es ep t)/\h.get? Tp=some (TpO ord)) where
  sub:=λ b hb=>by simp at hb;simp[hb]
  frame:=λ _ _ _ st hk=>⟨hk I (by simp) _ st.1,hk S (by simp) _ st.2.1,hk Tp (by simp) _ st.2.2⟩
  item:=λ i s Q E hi st hQ=>by
    have hl:i<ord.length:=by rw[ho.length_eq,length_range];exact hi
    have hp:ord[i]<es.size:=List.mem_range.mp (ho.mem_iff.mp (getElem_mem hl));refine Zi7 (pl:=ord[i]) (e0:=es[ord[i]]) st.1 st.2.1 hf st.2.2 rfl ?_ (Array.getElem?_eq_getElem hp) λ h' h1 hk=>?_
    . simp[hl]
    . refine hQ _ h' s.toks ?_ ⟨h1,hk S _ hS st.2.1,hk Tp _ hT st.2.2⟩ λ b o hb e=>hk b o (λ h=>hb (by simp[h])) e;rw[getElem?_map,getElem?_eq_getElem hl];simp[hp]
  done:=λ s Q E st hQ=>by
    refine Zi9 hh st.1 st.2.1 hf st.2.2 rfl ?_ λ h' hk=>hQ h' s.toks λ b o hb e=>hk b o (λ h=>hb (by simp[h])) e;have hl:ord.length=es.size:=by rw[ho.length_eq,length_range]
    simp[hl]
  self:=λ _ _ _ _ st hQ=>ZkK st.1 hQ
theorem Zl8 (hh:A.handled=none)(I S:Addr)(hS:S≠I)(es:Array (Int×Value))(ep:Nat)(t:SetTable)(hf:t.fits es.size=true)(vals:List Value)(hl:vals.length=es.size)(sl:Nat->Nat)(hN:∀(A:Around)(E:Value->Shared->Prop)(Q:Option (Value×Nat)->Shared->Prop)(s:Shared)(i:Nat),i<=es.size->s.heap.get? S=some (Zbb es ep t)->Q (vals[i]?.map λ v=>(v,sl (i+1))) s->wpAny (model prog w) A (setNext S (sl i) i ep) Q E s) :
    Walks prog w A I [I,S] [I] es.size (λ i v=>vals[i]? = some v)
      (λ i h=>h.get? I=some (ItO S (.int (sl i) 0) i es.size ep)/\h.get? S=some (Zbb es ep t)) where
  sub:=λ b hb=>by simp at hb;simp[hb]
  frame:=λ _ _ _ st hk=>⟨hk I (by simp) _ st.1,hk S (by simp) _ st.2⟩
  item:=λ i s Q E hi st hQ=>by
    have hv:vals[i]? = some vals[i]:=getElem?_eq_getElem (by rw[hl];exact hi);refine Zi8 (x:=vals[i]) (nx:=sl (i+1)) st.1 st.2 hf (λ E Q q=>hN _ _ _ _ i (le_of_lt hi) st.2 (by rw[hv];exact q)) λ h' h1 hk=>?_;exact hQ _ h' s.toks hv ⟨h1,hk S _ hS st.2⟩ λ b o hb e=>hk b o (λ h=>hb (by simp[h])) e
  done:=λ s Q E st hQ=>by
    refine Zja hh st.1 st.2 hf (λ E Q q=>hN _ _ _ _ es.size (le_refl _) st.2 ?_) λ h' hk=>hQ h' s.toks λ b o hb e=>hk b o (λ h=>hb (by simp[h])) e;rw[getElem?_eq_none (by rw[hl];exact le_refl _)];exact q
  self:=λ _ _ _ _ st hQ=>ZkK st.1 hQ
theorem ZkL {α:Type}(nx:Nat->Nat):∀(f k:Nat)(left:List α)(out:Array α),f=left.length->(pickOrder.go nx f k left out).toList.Perm (out.toList++left)
  | 0,k,left,out,e=>by
    have e2:left=[]:=List.length_eq_zero_iff.mp e.symm;subst e2;rw[append_nil];exact List.Perm.refl _
  | f+1,k,left,out,e=>by
    have hp:nx k % left.length<left.length:=Nat.mod_lt _ (by omega);unfold pickOrder.go;rw[getElem?_eq_getElem hp];dsimp only;refine(ZkL nx f (k+1) _ _ (by rw[List.length_eraseIdx_of_lt hp];omega)).trans ?_;rw[Array.toList_push,append_assoc];exact List.Perm.append_left _ (Zdl left _ hp)
theorem Zlu {α:Type}(nx:Nat->Nat)(xs:Array α):(pickOrder nx xs).toList.Perm xs.toList:=by
 unfold pickOrder;exact(ZkL nx xs.size 0 xs.toList #[] (by simp)).trans (List.Perm.refl _)
variable {S:Addr}{ep:Nat}{es:Array (Int×Value)}{t:SetTable}
theorem ZlF (hb:byT w=true)(hf:t.fits es.size=true)(A:Around)(E:Value->Shared->Prop)(Q:Option (Value×Nat)->Shared->Prop)(s:Shared)(i:Nat)(hS:s.heap.get? S=some (Zbb es ep t))(h:Q (((pickOrder (w.params.setOrder S ep) es).toList.map (·.2))[i]?.map λ v=>(v,0)) s):wpAny (model prog w) A (setNext S 0 i ep) Q E s:=by
 unfold setNext setsByText setWalk;refine wpAny_bind (wpAny_setState_of hS rfl hf ?_);refine wpAny_bind (wpAny_bind (wpAny_askSetting (wpAny_pure ?_)));refine wpAny_ite_split (λ _=>?_) (λ hn=>absurd hb hn);rw[if_neg (by simp)];refine wpAny_bind (wpAny_bind (wpAny_setState_of hS rfl hf ?_));refine wpAny_bind (wpAny_bind (wpAny_askSetting (wpAny_pure ?_)));refine wpAny_ite_split (λ _=>?_) (λ hn=>absurd hb hn);refine wpAny_bind (wpAny_askSetting (wpAny_pure (wpAny_pure ?_)));rw[getElem?_map,getElem?_toList,Option.map_map]at h;exact h
theorem ZmE (hb:byT w=false)(hf:t.fits es.size=true)(hl:t.led=true)(h1:es.size<=1)(A:Around)(E:Value->Shared->Prop)(Q:Option (Value×Nat)->Shared->Prop)(s:Shared)(i:Nat)(hi:i<=es.size)(hS:s.heap.get? S=some (Zbb es ep t))(h:Q ((es.toList.map (·.2))[i]?.map λ v=>(v,if i+1=0 then 0 else t.place.getD 0 0+1)) s):wpAny (model prog w) A (setNext S (if i=0 then 0 else t.place.getD 0 0+1) i ep) Q E s:=by
  unfold setNext setsByText;refine wpAny_bind (wpAny_setState_of hS rfl hf ?_);refine wpAny_bind (wpAny_bind (wpAny_askSetting (wpAny_pure ?_)));refine wpAny_ite_split (λ hy=>absurd (show byT w=true from hy) (by rw[hb];decide)) (λ _=>?_);refine wpAny_ite_split (λ hy=>?_) (λ _=>?_)
  . have hy':(!t.plain && decide (1<es.size))=true:=hy;rw[and_eq_true,decide_eq_true_eq]at hy';omega
  have hml:∀(Q:Unit->Shared->Prop),Q () s->wpAny (model prog w) A (if (!t.led && !es.isEmpty)=true then (do let _ <- (unsupported "set:maker-not-led":Sem Unit);pure ()) else pure ()) Q E s:=by
    intro Q q;rw[if_neg (by rw[hl];simp)];exact wpAny_pure q
  have hpl:t.place.size=es.size:=by
    have:=hf;simp only[SetTable.fits,and_eq_true,beq_iff_eq]at this;exact this.1
  have goal:(match es[SetTable.below t.place (if i=0 then 0 else t.place.getD 0 0+1)]?,t.place[SetTable.below t.place (if i=0 then 0 else t.place.getD 0 0+1)]? with
          |some (fst,x),some j=>some (x,j+1)
          |x,x_1=>none)=((es.toList.map (·.2))[i]?.map λ v=>(v,if i+1=0 then 0 else t.place.getD 0 0+1)):=by
    rcases lt_or_ge es.size 1 with c|c
    . have c0:es.size=0:=by omega
      have e1:∀ k:Nat,es[k]? = none:=λ k=>Array.getElem?_eq_none (by omega);rw[e1,getElem?_eq_none (by rw[length_map,length_toList];omega)];rfl
    . have c1:es.size=1:=by omega
      have c2:t.place.size=1:=by omega
      obtain⟨p,e2⟩:=ZkP t.place c2;obtain⟨e,e3⟩:=ZkP es c1;rw[e2,e3];have hi':i=0\/i=1:=by omega
      rcases hi' with rfl|rfl
      . have hbl:SetTable.below #[p] 0=0:=by
          unfold SetTable.below SetTable.below.go;simp[SetTable.below.go]
        simp[hbl]
      . have hbl:SetTable.below #[p] (p+1)=1:=by
          unfold SetTable.below SetTable.below.go;simp[SetTable.below.go]
        simp[hbl]
  refine wpAny_bind (hml _ ?_);refine wpAny_pure ?_;rw[<- goal]at h;exact h
end
end L2
namespace L2
open PySem PySem.Spec PyProof.Rows PySem.W
section
variable {prog:Program}{w:World}{A:Around}{E:Value->Shared->Prop}{s:Shared}
theorem Zm0 {r:Addr}{Q:Bool->Shared->Prop}(hT:s.TypeIs (.ref r) "set")(h:Q false s):wpAny (model prog w) A (Builtin.List.listLengthHint (.ref r)) Q E s:=by
 unfold Builtin.List.listLengthHint;refine wpAny_bind (wpAny_specialOf hT PySem.F.slot_set_len.lookup ?_);generalize hid:("set.__len__":String)=id0
 wp_delta
 rw[show splitId id0=some ("set","__len__") from by subst hid;decide +kernel];subst hid;refine wpAny_bind (wpAny_isInstance (T:="set") (b:=true) hT (by rw[isSubtype_type];kernel_rfl) ?_);refine wpAny_ite_split (λ hab=>absurd hab (by decide)) (λ _=>?_);refine wpAny_ite_split (λ _=>?_) (λ hab=>absurd (by decide +kernel) hab);refine wpAny_bind (wpAny_typeOf hT ?_);exact wpAny_pure h
theorem Zm9 {S L I:Addr}(rz:Bool){fp:List Addr}{n:Nat}{P:Nat->Value->Prop}{St:Nat->Heap->Prop}{R:Result->Shared->Prop}(W:Walks prog w A.in1 I fp [I] n P St)(hn:n<=sizeLine)(hLf:L∉fp)(hSL:S≠L)(st:St 0 s.heap)(hT:s.TypeIs (.ref S) "set")(hL:s.heap.get? L=some { cls:=.type "list",data:=.seq #[] 0 })(hR:∀ h' tk acc' c',(∀ b o,b≠L->b≠I->s.heap.get? b=some o->h'.get? b=some o)->h'.get? L=some { cls:=.type "list",dict:=none,data:=.seq acc' c',slots := #[] }->ItemsOf P acc' n->R (.ok (.ret (.ref L))) { s with heap:=h',toks:=tk }) :
    wpAny (model prog w) A.in1 (do
      let room <- holding [.ref I] (Builtin.List.listLengthHint (.ref S))
      if room || rz then rule "list.extend.makes-room";Builtin.List.listTouch (.ref L)
      again (.builtin "list.extend.loop" ⟨[.ref L, .ref I, .ref L],[]⟩))
      (λ fin s'=>match fin with|.done f=>R (.ok f) s'|.again c'=>c'.quiet=true/\codeAny (model prog w) A c' R s') (λ e s'=>R (.error e) s') s:=by
  have key:∀(h:Heap)(c₁ tk:Nat),St 0 h->(∀ b o,b≠L->s.heap.get? b=some o->h.get? b=some o) ->
      h.get? L=some { cls:=.type "list",data:=.seq #[] c₁ }->codeAny (model prog w) A (.builtin "list.extend.loop" ⟨[.ref L, .ref I, .ref L],[]⟩) R { s with heap:=h,toks:=tk }:=by
    intro h c₁ tk hst hk hS₁;refine codeAny_extend_loopS W.toS hn L hLf (.ref L) n 0 _ #[] c₁ rfl (zero_le _) hst hS₁ (ItemsOf.nil _) λ s' acc' c' hm hS' hacc=>?_;rw[Moved.eq_with hm];refine hR s'.heap s'.toks acc' c' (λ b o hb hbI e=>hm.heap b o (λ hmem=>?_) (hk b o hb e)) hS' hacc;rcases List.mem_cons.mp hmem with e'|hmem
    . exact hb e'
    . exact hbI (List.mem_singleton.mp hmem)
  refine wpAny_bind (wpAny_holding (Zm0 hT ?_));refine wpAny_ite_split (λ _=>?_) (λ _=>wpAny_pure ⟨plainId_quiet PySem.F.plain_extend_loop _,key _ 0 _ st (λ b o _ e=>e) hL⟩);refine wpAny_bind (wpAny_rule ?_);refine wpAny_bind ?_;show wpAny _ _ (updateSeq L (·.push .none) >>= λ _=>updateSeq L (·.pop)) _ _ _;refine wpAny_bind (wpAny_updateSeq hL rfl ?_);have hS₂:=Heap.get?_update_self (Obj.mapSeq (·.push Value.none)) hL rfl;refine wpAny_updateSeq (hz:=by seq_fits) hS₂ rfl ?_;have hS₃:=Heap.get?_update_self (Obj.mapSeq (·.pop)) hS₂ rfl;refine wpAny_pure ⟨plainId_quiet PySem.F.plain_extend_loop _,key _ _ _ ?_ (λ b o hb e=>?_) hS₃⟩
  . refine W.frame 0 _ _ st λ b hb o e=>?_;have hbS:b≠L:=λ h=>hLf (h▸hb);exact(Heap.get?_update_other _ _ (Ne.symm hbS)).trans ((Heap.get?_update_other _ _ (Ne.symm hbS)).trans e)
  . exact(Heap.get?_update_other _ _ (Ne.symm hb)).trans ((Heap.get?_update_other _ _ (Ne.symm hb)).trans e)
variable {S:Addr}{ks:List Str}
theorem ZhW {es:Array (Int×Value)}{vals:List Value}(hel:∀ e∈es.toList,Ent w e)(hpm:(es.toList.map kOf).Perm ks)(hv:vals.Perm (es.toList.map (·.2))):∃ ps,StrsAre vals ps/\ps.Perm ks:=by
  refine⟨vals.map λ v=>kOf (0,v),Zj2 (by rw[length_map]) λ j u e=>?_,?_⟩
  . have hm:u∈es.toList.map (·.2):=hv.mem_iff.mp (mem_of_getElem? e);obtain⟨e0,h0,rfl⟩:=List.mem_map.mp hm;obtain⟨t,h1⟩:=hel e0 h0;refine⟨kOf e0,t,?_,by rw[h1];rfl⟩;rw[getElem?_map,e];rfl
  . refine(hv.map _).trans ?_;rw[map_map];exact hpm
theorem fm_eq {α β:Type}(f:α->β)(g:α->Option β):∀(l:List α),(∀ x∈l,g x=some (f x))->l.map f=l.filterMap g
  |[],_=>rfl
  | x::r,h=>by
    rw[map_cons,filterMap_cons,h x (mem_cons_self ..)];dsimp only;rw[fm_eq f g r λ y hy=>h y (mem_cons_of_mem _ hy)]
theorem ZiZ {h:Heap}{o:Obj}(ho:o.isFreed=false){n:Nat}(e:n=h.objs.size):(h.push o).get? n=some o:=by
 subst e;exact Heap.get?_push_size _ ho
theorem Zks {L:Addr}{R:Result->Shared->Prop}(hh:A.handled=none)(hS:ZcC w s.heap S ks (!byT w))(hne:S≠L)(hL:s.heap.get? L=some { cls:=.type "list",data:=.seq #[] 0 })(hR:∀ h' d' tk acc' c',(∀ b o,b≠L->s.heap.get? b=some o->h'.get? b=some o)->h'.get? L=some { cls:=.type "list",dict:=none,data:=.seq acc' c',slots := #[] }->(∃ ps,StrsAre acc'.toList ps/\ps.Perm ks)->R (.ok (.ret (.ref L))) { s with heap:=h',drawn:=d',toks:=tk }) :
    wpAny (model prog w) A.in1 (Builtin.List.listExtendWith (.ref L) (.ref S) (.ref L))
      (λ fin s'=>match fin with|.done f=>R (.ok f) s'|.again c'=>c'.quiet=true/\codeAny (model prog w) A c' R s') (λ e s'=>R (.error e) s') s:=by
  obtain⟨es,ep,t,ho,hel,hpm,hnd,hlen,hf,hled,hpl⟩:=hS;have hSn:S<s.heap.objs.size:=Heap.lt_size ho;have hLn:L<s.heap.objs.size:=Heap.lt_size hL;have hsz:es.size=ks.length:=by rw[<- hpm.length_eq,length_map,length_toList]
  have hz:es.size<=sizeLine:=by rw[hsz,sizeLine_eq];omega
  have acc_of:∀(vals:List Value),vals.length=es.size->vals.Perm (es.toList.map (·.2))->∀ acc':Array Value,ItemsOf (λ i v=>vals[i]? = some v) acc' es.size->∃ ps,StrsAre acc'.toList ps/\ps.Perm ks:=by
    intro vals hvl hvp acc' hi;have e:acc'.toList=vals:=by
      refine List.ext_getElem (by rw[length_toList,hi.1,hvl]) λ j h1 h2=>?_;have z:=hi.2 j acc'.toList[j] (by rw[<- getElem?_toList];exact getElem?_eq_getElem h1);have z:vals[j]? = some acc'.toList[j]:=z;rw[getElem?_eq_getElem h2]at z;exact(Option.some.inj z).symm
    rw[e];exact ZhW hel hpm hvp
  unfold Builtin.List.listExtendWith;refine wpAny_bind (wpAny_typeOf (T:="set") ⟨_,ho,rfl⟩ ?_);have h1:Builtin.List.listSameRef (.ref L) (.ref S)=false:=by simp[Builtin.List.listSameRef,Ne.symm hne]
  have h2:(Value.type "set" == Value.type "list")=false:=by decide
  have h3:(Value.type "set" == Value.type "tuple")=false:=by decide
  simp only[h1,h2,h3,Bool.or_false,false_eq_true,if_false];refine wpAny_bind (Znz ho hf hz (λ c1 c2 c3 ord d' hp=>?_) λ c=>?_)
  . have hl:ord.length=es.size:=by rw[hp.length_eq,length_range]
    have W:=Zl6 (prog:=prog) (w:=w) (A:=A.in1) (by simp[hh]) (s.heap.objs.size+1) S s.heap.objs.size (ne_of_lt (lt_succ_of_lt hSn)) (ne_of_lt (lt_succ_self _)) es ep t hf ord hp;generalize hHh:(s.heap.push (TpO ord)).push (ItO S (.ref s.heap.objs.size) 0 es.size ep)=hB;have hkP:∀ b o,s.heap.get? b=some o->hB.get? b=some o:=λ b o e=>by rw[<- hHh];exact Heap.get?_push_of_some _ (Heap.get?_push_of_some _ e)
    have hI0:hB.get? (s.heap.objs.size+1)=some (ItO S (.ref s.heap.objs.size) 0 es.size ep):=by rw[<- hHh];exact ZiZ rfl (by rw[Heap.size_push])
    have hT0:hB.get? s.heap.objs.size=some (TpO ord):=by rw[<- hHh];exact Heap.get?_push_of_some _ (Heap.get?_push_size _ rfl)
    refine Zm9 (s:={ s with heap:=hB,drawn:=d' }) _ W hz ?_ hne ⟨hI0,hkP _ _ ho,hT0⟩ ⟨_,hkP _ _ ho,rfl⟩ (hkP _ _ hL) ?_
    . simp only[mem_cons,not_mem_nil,or_false,not_or];exact⟨ne_of_lt (lt_succ_of_lt hLn),λ e=>hne e.symm,ne_of_lt hLn⟩
    . intro h' tk acc' c' hk hL' hi;refine hR h' d' tk acc' c' (λ b o hb e=>hk b o hb (ne_of_lt (lt_succ_of_lt (Heap.lt_size e))) (hkP _ _ e)) hL' (acc_of _ (by rw[length_map,hl]) ?_ acc' hi)
      . refine(hp.map _).trans ?_;have z:=filterMap_getElem?_range es;rw[<- z,List.map_filterMap];refine List.Perm.of_eq (fm_eq _ _ _ λ x hx=>?_);rw[Array.getElem?_eq_getElem (List.mem_range.mp hx)];rfl
  . generalize hHh:s.heap.push (ItO S (.int 0 0) 0 es.size ep)=hB;have hkP:∀ b o,s.heap.get? b=some o->hB.get? b=some o:=λ b o e=>by rw[<- hHh];exact Heap.get?_push_of_some _ e
    have hI0:hB.get? s.heap.objs.size=some (ItO S (.int 0 0) 0 es.size ep):=by rw[<- hHh];exact Heap.get?_push_size _ rfl
    have go:∃(vals:List Value)(sl:Nat->Nat),sl 0=0/\vals.length=es.size/\vals.Perm (es.toList.map (·.2))/\(∀(A:Around)(E:Value->Shared->Prop)(Q:Option (Value×Nat)->Shared->Prop)(s:Shared)(i:Nat),i<=es.size->s.heap.get? S=some (Zbb es ep t)->Q (vals[i]?.map λ v=>(v,sl (i+1))) s->wpAny (model prog w) A (setNext S (sl i) i ep) Q E s):=by
      cases hb:byT w with
      |true=>
        have hpk:=Zlu (w.params.setOrder S ep) es;refine⟨(pickOrder (w.params.setOrder S ep) es).toList.map (·.2),λ _=>0,rfl,?_,hpk.map _,λ A E Q s i _ h q=>ZlF hb hf A E Q s i h q⟩;rw[length_map,hpk.length_eq,length_toList]
      |false=>
        have h1:es.size<=1:=by
          rcases c with c|c|c
          . rw[hb]at c;cases c
          . cases hn:es.size with
            |zero=>omega
            |succ k=>have:=hpl (by omega);rw[this]at c;cases c
          . exact c
        refine⟨es.toList.map (·.2),λ i=>if i=0 then 0 else t.place.getD 0 0+1,rfl,by rw[length_map,length_toList],List.Perm.refl _,λ A E Q s i hi h q=>ZmE hb hf (by rw[hled,hb];rfl) h1 A E Q s i hi h q⟩
    obtain⟨vals,sl,hsl,hvl,hvp,hN⟩:=go;have W:=Zl8 (prog:=prog) (w:=w) (A:=A.in1) (by simp[hh]) s.heap.objs.size S (ne_of_lt hSn) es ep t hf vals hvl sl hN;have hI1:hB.get? s.heap.objs.size=some (ItO S (.int (sl 0) 0) 0 es.size ep):=by rw[hsl];exact hI0
    refine Zm9 (s:={ s with heap:=hB }) _ W hz ?_ hne ⟨hI1,hkP _ _ ho⟩ ⟨_,hkP _ _ ho,rfl⟩ (hkP _ _ hL) ?_
    . simp only[mem_cons,not_mem_nil,or_false,not_or];exact⟨ne_of_lt hLn,λ e=>hne e.symm⟩
    . intro h' tk acc' c' hk hL' hi;refine hR h' s.drawn tk acc' c' (λ b o hb e=>hk b o hb (ne_of_lt (Heap.lt_size e)) (hkP _ _ e)) hL' (acc_of _ hvl hvp acc' hi)
theorem ZjT {R:List Value->Shared->Prop}(hh:A.handled=none)(hS:ZcC w s.heap S ks (!byT w))(h:∀ h' d' tk (vs:List Value),(∀ b o,s.heap.get? b=some o->h'.get? b=some o)->(∃ ps,StrsAre vs ps/\ps.Perm ks)->R vs { s with heap:=h',drawn:=d',toks:=tk }) :
    wpAny (model prog w) A (collect (.ref S)) R E s:=by
  have hlt:S<s.heap.objs.size:=by obtain⟨_,_,_,ho,_⟩:=hS;exact Heap.lt_size ho
  unfold collect;refine wpAny_bind (wpAny_runValue (codeAny_builtin entry_proto_collect' ?_));rw[Around.under_plainId PySem.F.plain_proto_collect _];show wpAny _ A.in1 (newList [] >>= λ l=>again (.builtin "list.__iadd__" ⟨[l, .ref S],[]⟩)) _ _ s;refine wpAny_bind (wpAny_newObj_type ?_);refine wpAny_pure ⟨plainId_quiet PySem.F.plain_list_iadd _,codeAny_builtin entry_list_iadd' ?_⟩;rw[Around.under_plainId PySem.F.plain_list_iadd _];have hS₁:(s.heap.push { cls:=.type "list",data:=.seq ([]:List Value).toArray }).get? s.heap.objs.size=some { cls:=.type "list",data:=.seq #[] }:=Heap.get?_push_size _ rfl;show wpAny _ A.in1 (Builtin.List.listExtendWith (.ref s.heap.objs.size) (.ref S) (.ref s.heap.objs.size)) _ _ _;have key:=Zks (prog:=prog) (A:=A) (s:={ s with heap:=s.heap.push { cls:=.type "list",data:=.seq ([]:List Value).toArray } }) (R:=(λ(q:Result)(s':Shared)=>∃(h':Heap)(d':Drawn)(tk:Nat)(acc':Array Value)(c':Nat),q = .ok (.ret (.ref s.heap.objs.size))/\s' = { s with heap:=h',drawn:=d',toks:=tk }/\(∀ b o,s.heap.get? b=some o->h'.get? b=some o)/\h'.get? s.heap.objs.size=some { cls:=.type "list",dict:=none,data:=.seq acc' c',slots := #[] }/\∃ ps,StrsAre acc'.toList ps/\ps.Perm ks)) hh (hS.at λ o e=>Heap.get?_push_of_some _ e) (ne_of_lt hlt) hS₁
    (λ h' d' tk acc' c' hk hL hacc=>⟨h',d',tk,acc',c',rfl,rfl,λ b o e=>hk b o (ne_of_lt (Heap.lt_size e)) (Heap.get?_push_of_some _ e),hL,hacc⟩)
  refine wpAny_mono key (λ fin s' x=>?_) λ e s' x=>?_
  . cases fin with
    |done f=>
      obtain⟨h',d',tk,acc',c',e,rfl,hk,hS',hacc⟩:=x;cases e;show wpAny _ A (load s.heap.objs.size >>= _) _ _ _;refine wpAny_bind (wpAny_load hS' ?_);exact wpAny_pure (h h' d' tk _ hk hacc)
    |again c₁=>
      refine⟨x.1,codeAny_mono x.2 λ q s₂ y=>?_⟩;obtain⟨h',d',tk,acc',c',rfl,rfl,hk,hS',hacc⟩:=y;show wpAny _ A (load s.heap.objs.size >>= _) _ _ _;refine wpAny_bind (wpAny_load hS' ?_);exact wpAny_pure (h h' d' tk _ hk hacc)
  . obtain⟨_,_,_,_,_,e',_⟩:=x;cases e'
end
end L2
namespace L2
open PySem PySem.Spec PyProof.Rows PySem.W
noncomputable def SetO (w:World)(a:Addr)(ks:List Str):HO:=.ext λ h=>ZcC w h a ks (!byT w)
noncomputable def rSortS (w:World):List V->Hp->VK->Prop:=λ xs H Q=>∃(a:Addr)(ks:List Str),xs=[.ref a]/\H a=some (SetO w a ks)/\ks.length<64 /\
 ∀(ss':List Str)(l:Addr),ss'.Perm ks->sortedS ss'=true->H l=none->Q (.ref l) (upd H l (.lst (ss'.map V.str)))
theorem Inv.drew {X:Cx}{pins:List (Addr×Obj)}{σ:List (Option V)}{H:Hp}{s:Shared}(I:Inv X pins σ H s)(d':Drawn):Inv X pins σ H { s with drawn:=d' }:=
 ⟨I.ok,I.os,I.bare,I.base,I.loc,I.cell,I.free,I.freeC,I.pin,I.hok,I.len⟩
section
variable {X:Cx}
theorem ZlY (hc:X.calm=true):Xt X (.type "set") (λ xs H Q=>∃(l:Addr)(ns:List Str),xs=[.ref l]/\SqL X.K H l (ns.map V.str)/\ns.length<1000/\∀ a,H a=none->Q (.ref a) (upd H a (SetO X.w a (ddl ns)))):=by
  intro pins s σ H xs us Q I r h;obtain⟨l,ns,rfl,hq,hn,q⟩:=h;obtain⟨u,rfl,rx⟩:=Js r;cases rx;obtain⟨its,rv,pl,hz⟩:=I.list hq;have hl:its.length=ns.length:=by rw[<- rv.length,length_map]
  refine ZlX (ns:=ns) (I.ok.hd hc) pl.isList (λ i v e=>?_) (by rw[size_toArray,hl]) (by omega) λ h' tk hS hk=>?_
  . have e':its[i]? = some v:=by simpa using e
    have hi:i<ns.length:=by rw[<- hl];exact(List.getElem?_eq_some_iff.mp e').1
    obtain⟨u,hu,ru⟩:=rv.get (i:=i) (x:=.str ns[i]) (by rw[getElem?_map,getElem?_eq_getElem hi];rfl);rw[e']at hu;cases hu;obtain⟨t,rfl⟩:=ru;exact⟨t,by rw[List.getD_eq_getElem?_getD,getElem?_eq_getElem hi];rfl⟩
  . refine⟨.ref s.heap.objs.size,_,I.laid (t':=tk) (o:=SetO X.w s.heap.objs.size (ddl ns)) (λ b o e=>hk b o (Heap.lt_size e) e) (le_refl _) ⟨hS,?_,λ h1 h2 x k=>ZcC.at x k⟩,rfl,q _ (I.hok.fresh (le_refl _))⟩;obtain⟨_,_,_,e,_⟩:=hS;exact⟨_,e⟩
theorem Zkx (hc:X.calm=true):Xt X (.builtin "sorted") (rSortS X.w):=by
  intro pins s σ H xs us Q I r h;obtain⟨a,ks,rfl,ha,h64,q⟩:=h;obtain⟨u,rfl,rx⟩:=Js r;cases rx;have hS:ZcC X.w s.heap a ks (!byT X.w):=(I.hok a _ ha).1;refine Calls.call_function_entry kind_sorted plain_sorted entry_sorted (args_sorted1 _) ?_;unfold Builtin.«sorted»;refine wpAny_bind (m:=checkCount "sorted" 1 1 _) (wpAny_pure ?_);refine wpAny_bind (ZjT (A:=X.A.in1) (I.ok.hd hc) hS λ h' d' tk vs hkp hps=>?_);obtain⟨ps,hP,hpm⟩:=hps;have I1:Inv X pins σ H { s with heap:=h',drawn:=d',toks:=tk }:=(I.drew d').kept (h':=h') (t':=tk) hkp;have hl:vs.length=ks.length:=by
    have z:vs.length=ps.length:=by
      clear hpm
      induction hP with
      |nil=>rfl
      |cons y t _ ih=>rw[length_cons,length_cons,ih]
    rw[z,hpm.length_eq]
  refine wpAny_bind (wpAny_newList ?_ (by rw[hl,sizeLine_eq];omega));have hoL:(h'.push { cls:=.type "list",data:=.seq vs.toArray }).get? h'.objs.size=some (seqObj "list" vs.toArray 0):=Heap.get?_push_size _ rfl;refine wpAny_bind (wpAny_holding (wpAny_call_entry slot_list_sort ⟨_,hoL,rfl⟩ entry_list_sort (list_sort_treeK strKind_oneLt hoL hP.keysOf (λ v₁ v₂ Zew e=>keyKind_strs (by rw[<- e];exact hP)) (by rw[hl];exact h64) λ st' a1 a2=>⟨_,rfl,?_⟩) (args_list_sort _)));obtain⟨ss',b1,b2,b3⟩:=sorted_out_str hP a1 a2;refine wpAny_pure ⟨_,rfl,?_⟩;have fr:H h'.objs.size=none:=I1.fresh;refine⟨.ref h'.objs.size,upd H h'.objs.size (.lst (ss'.map V.str)),?_,rfl,q ss' _ (b2.trans hpm) b3 fr⟩;obtain⟨en,hen⟩:=sortedHeap_at (a:=h'.objs.size) (vs:=vs) (out:=(arrOf st').map (·.2)) hoL;refine I1.laid (t':=tk) (λ b u e=>?_) (le_refl _) ⟨?_,_,en,Zlg b1,?_⟩
  . have hlt:b<h'.objs.size:=Heap.lt_size e;exact(sortedHeap_old (ne_of_lt hlt) (by rw[Heap.size_push];exact lt_succ_of_lt hlt)).trans (Heap.get?_push_of_some _ e)
  . rw[length_map,(b2.trans hpm).length_eq,sizeLine_eq];omega
  . rw[Array.toArray_toList];exact hen
end
end L2
namespace L2
open PySem PySem.Spec
noncomputable def Ho.nm:Ho->Str
  |.one n=>n
  |.kids n _=>n
noncomputable def Zam (h:Ho)(ts:List Atm):List Atm:=match h with
  |.one n=>ts++[.born n]
  |.kids _ _=>ts
noncomputable def isHg (S:Mo)(t:Atm):Bool:=decide (t.stand S=("hangs":Str))
noncomputable def XZ (S:Mo)(h:Ho)(ts:List Atm):List Atm:=(Zam h ts).filter (isHg S)
noncomputable def whS (S:Mo)(h:Ho)(ts:List Atm)(os:List Str):Str:=match h with
  |.one _=>Yk ((Zam h ts).map (Atm.stand S))
  |.kids n a=>if Yk (ts.map (Atm.stand S))=("failed":Str) then "failed" else Yk [Yk (ts.map (Atm.stand S)),clS S n a os]
noncomputable def Yv (S:Mo)(n:Str):Int:=(Yl n:Int) - (Yl (nr S.bs n):Int)
noncomputable def XO (S:Mo)(F tm:Int):Atm->Bool
  |.year y=>decide (F+tm<y)
  |.comes _=>true
  |.born n=>if Yv S n=1 then false else decide (Yv S n>1)
  |.dead n=>if Yv S n=1 then true else decide (Yv S n>1)
  |.age n a=>if Yv S n=1 then decide (a>tm) else decide (Yv S n>1)
noncomputable def Zdu (S:Mo)(tm:Int):Ho->Bool
  |.one _=>false
  |.kids n a=>if has S.bs n=false then true else al S.bs S.ds n && decide (a>tm)
noncomputable def Za5 (S:Mo)(h:Ho)(ts:List Atm)(F tm:Int):Bool:=(XZ S h ts).any (XO S F tm) || Zdu S tm h
noncomputable def ydl:Nat->List Int
  |0=>[]
  |n+1=>if n+1<=60 then [(n:Int)+1] else 60::ydl (n+1 - 60)
termination_by n=>n
theorem ZfE {n:Nat}(h:0<n):ydl n=(if (n:Int)<60 then (n:Int) else 60)::ydl (n - 60):=by
  cases n with
  |zero=>omega
  |succ k=>
    rw[ydl]
    by_cases c:k+1<=60
    . rw[if_pos c];have e:k+1 - 60=0:=by omega
      rw[e,ydl]
      by_cases c2:((k+1:Nat):Int)<60
      . rw[if_pos c2];rfl
      . rw[if_neg c2];have:(k:Int)+1=60:=by omega
        rw[this]
    . rw[if_neg c,if_neg (by omega)]
theorem Zdw:∀(k n:Nat),n<=k->(ydl n).length<=n
  |_,0,_=>by rw[ydl];exact le_refl _
  |0,n+1,h=>by omega
  | k+1,n+1,h=>by
    rw[ZfE (by omega),length_cons];have:=Zdw k (n+1 - 60) (by omega);omega
theorem ZhU:∀(k n:Nat),n<=k->∀ x∈ydl n,1<=x/\x<=60
  |_,0,_,x,h=>by rw[ydl]at h;cases h
  |0,n+1,h,_,_=>by omega
  | k+1,n+1,h,x,hx=>by
    rw[ZfE (by omega)]at hx;rcases List.mem_cons.mp hx with e|e
    . rw[e];split <;> omega
    . exact ZhU k (n+1 - 60) (by omega) x e
theorem iv_99:∀ k∈List.range 99,1<=iv (ts (k+1))/\iv (ts (k+1))<=99:=by decide +kernel
theorem iv_ts {i:Nat}(h:i<99):1<=iv (toString ((i:Int)+1):Str)/\iv (toString ((i:Int)+1):Str)<=99:=iv_99 i (List.mem_range.mpr h)
theorem nms_iv:∀(k:Nat)(x:Str),x.length<=k->pok x=true->∀ p∈nms x,1<=iv p/\iv p<=99:=by
  intro k
  induction k with
  |zero=>intro x hx hp;exact absurd (by omega) (ZF hp)
  |succ k ih=>
    intro x hx hp p hm;rcases Jm hp with hg|⟨n,i,hi,rfl,pn,hd⟩
    . rw[Zkj hg]at hm;cases hm
    . rw[Zco]at hm;rcases List.mem_append.mp hm with hm|hm
      . refine ih n ?_ pn p hm;have:=Zbh (Zcq n i);rw[ZhY]at this;omega
      . rw[List.mem_singleton.mp hm];exact iv_ts hi
theorem Zd8 {bs ds:List (Str×Int)}(W:Wf bs ds):∀(k:Nat)(x:Str),x.length<=k->pok x=true->has bs x=false->nr bs x≠Str.empty->Yl (nr bs x)<Yl x:=by
  intro k
  induction k with
  |zero=>intro x hx hp;exact absurd (by omega) (ZF hp)
  |succ k ih=>
    intro x hx hp hn hne;rcases Jm hp with hg|⟨n,i,hi,rfl,pn,hd⟩
    . exact absurd (ZgJ hg hn) hne
    . rw[YT,if_neg (by rw[hn];decide)]at hne ⊢;rw[Zed];cases hb:has bs n with
      |true=>rw[Z2 (ZF pn) hb];omega
      |false=>
        have:=Zbh (Zcq n i);rw[ZhY]at this;have:=ih n (by omega) pn hb hne;omega
noncomputable def vI:V->Int
  |.int k=>k
  |_=>0
noncomputable def ctn (S:Mo)(n:Str):Int:=((pvl n)[Yl (nr S.bs n)+1]?.map vI).getD 0
theorem ct_at {S:Mo}{n:Str}(W:Wf S.bs S.ds)(ok:okN S n)(h:has S.bs n=false):(pvl n)[Yl (nr S.bs n)+1]? = some (.int (ctn S n))/\1<=ctn S n/\ctn S n<=99:=by
  have hd:=Zd8 W n.length n (le_refl _) ok.1 h ok.2;rw[Y5 n]at hd;have e:(pvl n)[Yl (nr S.bs n)+1]? = some (.int (iv (nms n)[Yl (nr S.bs n)])):=by
    unfold pvl;rw[List.getElem?_cons_succ,getElem?_map,getElem?_eq_getElem hd];rfl
  have e2:ctn S n=iv (nms n)[Yl (nr S.bs n)]:=by unfold ctn;rw[e];rfl
  rw[e2];exact⟨e,nms_iv n.length n (le_refl _) ok.1 _ (getElem_mem hd)⟩
noncomputable def Y1 (S:Mo)(h:Ho)(ts:List Atm):List Str:=(XZ S h ts).filterMap Atm.who
noncomputable def prs (S:Mo)(h:Ho)(ts:List Atm):List (Str×Int):=
  ((Y1 S h ts).filter λ n => !has S.bs n).map (λ n=>(nr S.bs n,ctn S n))++(match h with
    |.one _=>[]
    |.kids n _=>if al S.bs S.ds n=true then [(n,(nk S.bs n:Int)+1)] else if has S.bs n=false then [(nr S.bs n,ctn S n)] else [])
noncomputable def Zhe (m:List (Str×Int))(p:Str)(v:Int):List (Str×Int):=if has m p=true then m.map (λ q=>if q.1=p then (q.1,v) else q) else m++[(p,v)]
noncomputable def Yh (m:List (Str×Int))(q:Str×Int):List (Str×Int):=Zhe m q.1 (if (yr m q.1).getD 0>q.2 then (yr m q.1).getD 0 else q.2)
noncomputable def mst (S:Mo)(h:Ho)(ts:List Atm):List (Str×Int):=(prs S h ts).foldl Yh []
theorem Zmo (m:List (Str×Int))(p:Str)(v:Int):Zdd (yrs m) (Sum.inr p:Key) (.int v)=yrs (Zhe m p v):=by
  have ha:((yrs m).any λ kv=>decide (kv.1=(Sum.inr p:Key)))=has m p:=by
    rw[Zdy,YN];unfold has;cases yr m p <;> rfl
  unfold Zdd Zhe;rw[ha]
  by_cases c:has m p=true
  . rw[if_pos c,if_pos c];unfold yrs;rw[map_map,map_map];refine map_congr_left λ q _=>?_
    by_cases e:q.1=p
    . simp[e]
    . simp[e]
  . rw[if_neg c,if_neg c];unfold yrs;rw[map_append];rfl
noncomputable def mOk (S:Mo)(m:List (Str×Int)):Prop:=∀ q∈m,has S.bs q.1=true/\0<=q.2/\q.2<=100
theorem ZjZ {m:List (Str×Int)}{p:Str}{v:Int}(h:yr m p=some v):(p,v)∈m:=by
 unfold yr at h;obtain⟨q,e1,e2⟩:=Option.map_eq_some_iff.mp h;have:=List.mem_of_find?_eq_some e1;have e3:=List.find?_some e1;have e4:q.1=p:=of_decide_eq_true e3;rw[<- e4,<- e2];exact this
theorem mOk.step {S:Mo}{m:List (Str×Int)}(h:mOk S m){q:Str×Int}(hq:has S.bs q.1=true/\0<=q.2/\q.2<=100):mOk S (Yh m q):=by
  have hv:0<=(if (yr m q.1).getD 0>q.2 then (yr m q.1).getD 0 else q.2)/\(if (yr m q.1).getD 0>q.2 then (yr m q.1).getD 0 else q.2)<=100:=by
    cases e:yr m q.1 with
    |none=>simp only[Option.getD_none];split <;> omega
    |some v=>
      have:=h _ (ZjZ e);simp only[Option.getD_some];split <;> omega
  intro x hx;unfold Yh Zhe at hx;split at hx
  . obtain⟨y,h1,h2⟩:=List.mem_map.mp hx
    by_cases c:y.1=q.1
    . rw[if_pos c]at h2;rw[<- h2];exact⟨by rw[c];exact hq.1,hv⟩
    . rw[if_neg c]at h2;rw[<- h2];exact h y h1
  . rcases List.mem_append.mp hx with hx|hx
    . exact h x hx
    . rw[List.mem_singleton.mp hx];exact⟨hq.1,hv⟩
theorem ZeI (m:List (Str×Int))(q:Str×Int):(Yh m q).length<=m.length+1:=by
  unfold Yh Zhe;split
  . rw[length_map];omega
  . rw[length_append];exact le_refl _
theorem Zdx {S:Mo}{h:Ho}{ts:List Atm}(oh:h.ok S)(ok:∀ t∈ts,t.ok S):∀ t∈Zam h ts,t.ok S:=by
  intro t ht;cases h with
  |one n=>
    rcases List.mem_append.mp ht with ht|ht
    . exact ok t ht
    . rw[List.mem_singleton.mp ht];exact oh
  |kids n a=>exact ok t ht
theorem ZfJ {S:Mo}{h:Ho}{ts:List Atm}(oh:h.ok S)(ok:∀ t∈ts,t.ok S):∀ t∈XZ S h ts,t.ok S:=λ t ht=>Zdx oh ok t (List.mem_filter.mp ht).1
theorem ZfO (h:Ho)(ts:List Atm):(Zam h ts).length<=ts.length+1:=by
  cases h with
  |one n=>show(ts++[_]).length<=_;rw[length_append];exact le_refl _
  |kids n a=>exact le_succ _
theorem Zeb (S:Mo)(h:Ho)(ts:List Atm):(XZ S h ts).length<=ts.length+1:=le_trans (length_filter_le _ _) (ZfO h ts)
theorem Zl4 {S:Mo}{h:Ho}{ts:List Atm}(oh:h.ok S)(ok:∀ t∈ts,t.ok S):∀ n∈Y1 S h ts,okN S n:=λ n hn=>by
 obtain⟨t,h1,h2⟩:=List.mem_filterMap.mp hn;exact Atm.ok_who (ZfJ oh ok t h1) h2
theorem ZhV (S:Mo)(h:Ho)(ts:List Atm):(Y1 S h ts).length<=ts.length+1:=le_trans (List.length_filterMap_le _ _) (Zeb S h ts)
theorem Zie {S:Mo}{h:Ho}{ts:List Atm}(W:Wf S.bs S.ds)(hl:S.bs.length<=98)(oh:h.ok S)(ok:∀ t∈ts,t.ok S):∀ q∈prs S h ts,has S.bs q.1=true/\0<=q.2/\q.2<=100:=by
  intro q hq;have one:∀ n,okN S n->has S.bs n=false->has S.bs (nr S.bs n)=true/\0<=ctn S n/\ctn S n<=100:=λ n o hn=>by
    have:=ct_at W o hn;exact⟨Zcm o,by omega,by omega⟩
  rcases List.mem_append.mp hq with hq|hq
  . obtain⟨n,h1,rfl⟩:=List.mem_map.mp hq;obtain⟨h1,h2⟩:=List.mem_filter.mp h1;exact one n (Zl4 oh ok n h1) (by simpa using h2)
  . cases h with
    |one n=>cases hq
    |kids n a=>
      have hq:q∈(if al S.bs S.ds n=true then [(n,(nk S.bs n:Int)+1)] else if has S.bs n=false then [(nr S.bs n,ctn S n)] else []):=hq;split at hq
      . rename_i c;rw[List.mem_singleton.mp hq];have:=W.few n;unfold al at c;rw[and_eq_true]at c;exact⟨c.1,by show(0:Int)<=(nk S.bs n:Int)+1;omega,by show(nk S.bs n:Int)+1<=100;omega⟩
      . split at hq
        . rename_i c;rw[List.mem_singleton.mp hq];exact one n oh.1 c
        . cases hq
theorem Zd1 (S:Mo)(h:Ho)(ts:List Atm):(prs S h ts).length<=ts.length+2:=by
  have h1:(((Y1 S h ts).filter λ n => !has S.bs n).map (λ n=>(nr S.bs n,ctn S n))).length<=ts.length+1:=by
    rw[length_map];exact le_trans (length_filter_le _ _) (ZhV S h ts)
  unfold prs;rw[length_append];have h2:(match h with
    |.one _=>([]:List (Str×Int))
    |.kids n _=>if al S.bs S.ds n=true then [(n,(nk S.bs n:Int)+1)] else if has S.bs n=false then [(nr S.bs n,ctn S n)] else []).length<=1:=by
    cases h with
    |one n=>exact zero_le _
    |kids n a=>
      show(if al S.bs S.ds n=true then [(n,(nk S.bs n:Int)+1)] else if has S.bs n=false then [(nr S.bs n,ctn S n)] else []).length<=1;split
      . exact le_refl _
      . split
        . exact le_refl _
        . exact zero_le _
  omega
noncomputable def Y0 (S:Mo)(m:List (Str×Int)):List Deed:=m.flatMap λ q=>List.replicate (q.2 - (nk S.bs q.1:Int)).toNat (Deed.birth q.1)
noncomputable def Zbd (S:Mo):List Deed:=(S.bs.filter λ p => !has S.ds p.1).map λ p=>Deed.death p.1
noncomputable def Zbi (S:Mo)(h:Ho)(ts:List Atm)(F tm:Int):List Deed:=
 (ydl (F - S.y).toNat).map Deed.years++Y0 S (mst S h ts)++Zbd S++(ydl tm.toNat).map Deed.years
noncomputable def namL (S:Mo)(h:Ho)(ts:List Atm):List Str:=(Y1 S h ts).map (nr S.bs)++(match h with
  |.one _=>[]
  |.kids n a=>ZH S n a (Z5 S n)++(if al S.bs S.ds n=true then [n] else []))
theorem ZfL {S:Mo}{h:Ho}{ts:List Atm}{F:Int}(D:Dated S)(oh:h.ok S)(ok:∀ t∈ts,t.ok S)(W:Wf S.bs S.ds)(e:ZcD S h ts F):S.y<=F/\F<=S.y+120:=by
  obtain⟨e,he,hm,hl⟩:=e;refine⟨hl S.y (by simp),?_⟩;have bl:∀ n,has S.bs n=true->Xf S n<=S.y:=λ n hn=>by
    obtain⟨y,hy⟩:=XD hn;rw[Zeh hy];exact D.b n y hy
  rcases List.mem_cons.mp hm with rfl|hm
  . omega
  rcases List.mem_cons.mp hm with rfl|hm
  . cases h with
    |one n=>have z:F=S.y:=he;omega
    |kids n a=>
      have z:Zho S n a F:=he
      by_cases c:(al S.bs S.ds (nr S.bs n) || Ye S n a (Z5 S n))=true\/ZH S n a (Z5 S n)=[]
      . have:=z.1 c;omega
      . rw[not_or]at c;obtain⟨b,h1,h2,rfl⟩:=z.2 (Bool.eq_false_iff.mpr c.1) c.2;obtain⟨x,hx,rfl⟩:=List.mem_map.mp h1;have:=bl x (Z4 W (Zhp hx));have:=oh.2.2;omega
  . unfold agL at hm;obtain⟨t,h1,rfl⟩:=List.mem_map.mp hm;obtain⟨h1,h2⟩:=List.mem_filter.mp h1;cases t with
    |age n a=>
      have o:=ok _ h1;have z:al S.bs S.ds n=true:=h2;unfold al at z;rw[and_eq_true]at z;have:=bl n z.1;have:=o.2.2;show Xf S n+a<=_;omega
    |_=>cases h2
theorem AtmsAt.flt {H H':Hp}{l D:Addr}{tl:List Atm}{ps:List Addr}(A:AtmsAt H l tl ps)(s:Zj H H')(f:Atm->Bool)(h:H' D=some (.lst ((fl (λ i=>(tl[i]?.map f).getD false) tl.length).map (λ i=>((ps.map V.ref)[i]?).getD .non)))) :
    ∃ ps',AtmsAt H' D (tl.filter f) ps':=by
  suffices z:∀ k,k<=tl.length->∃ ps':List Addr,(fl (λ i=>(tl[i]?.map f).getD false) k).map (λ i=>((ps.map V.ref)[i]?).getD .non)=ps'.map V.ref/\ps'.length=((tl.take k).filter f).length/\(∀(i:Nat)(p:Addr)(t:Atm),ps'[i]? = some p->((tl.take k).filter f)[i]? = some t->H' p=some (.tup t.vals)) by
    obtain⟨ps',e1,e2,e3⟩:=z tl.length (le_refl _);rw[take_length]at e2 e3;exact⟨ps',by rw[h,e1],e2,e3⟩
  intro k
  induction k with
  |zero=>intro _;exact⟨[],rfl,rfl,λ i p t e=>by cases e⟩
  |succ k ih=>
    intro hk;obtain⟨ps',e1,e2,e3⟩:=ih (by omega);have ht:tl[k]? = some tl[k]:=getElem?_eq_getElem (by omega);have hp:ps[k]? = some (ps[k]'(by rw[A.len];omega)):=getElem?_eq_getElem (by rw[A.len];omega);rw[ZiO,take_succ,ht,filter_append,map_append,e1];rw[show(some tl[k]).toList=[tl[k]] from rfl];cases c:f tl[k] with
    |false=>
      rw[if_neg (by rw[map_some,Option.getD_some,c];decide),filter_cons_of_neg (by rw[c];decide)];exact⟨ps',by simp,by simp[e2],by simpa using e3⟩
    |true=>
      rw[if_pos (by rw[map_some,Option.getD_some,c]),filter_cons_of_pos c];refine⟨ps'++[ps[k]'(by rw[A.len];omega)],?_,by simp[e2],λ i p t h1 h2=>?_⟩
      . rw[map_append];congr 1;rw[List.map_singleton,List.map_singleton,getElem?_map,hp];rfl
      . rcases lt_or_ge i ps'.length with hi|hi
        . rw[getElem?_append_left hi]at h1;rw[getElem?_append_left (by omega)]at h2;exact e3 i p t h1 h2
        . have hi2:i=ps'.length:=by
            have:=(List.getElem?_eq_some_iff.mp h1).1;rw[length_append]at this;simp at this;omega
          subst hi2;rw[getElem?_append_right (le_refl _),sub_self]at h1;rw[getElem?_append_right (by omega),show ps'.length - (List.filter f (List.take k tl)).length=0 by omega]at h2;cases h1;cases h2;exact s _ _ (A.at_ k _ _ hp ht)
theorem AtmsAt.snoc {H:Hp}{l l' p:Addr}{t:Atm}{tl:List Atm}{ps:List Addr}(A:AtmsAt H l tl ps)(hp:H p=some (.tup t.vals))(hl:H l'=some (.lst (ps.map V.ref++[V.ref p]))):AtmsAt H l' (tl++[t]) (ps++[p]):=by
  refine⟨by rw[hl,map_append];rfl,by simp[A.len],λ i q u h1 h2=>?_⟩;rcases lt_or_ge i ps.length with hi|hi
  . rw[getElem?_append_left hi]at h1;rw[getElem?_append_left (by rw[<- A.len];exact hi)]at h2;exact A.at_ i q u h1 h2
  . have hi2:i=ps.length:=by
      have:=(List.getElem?_eq_some_iff.mp h1).1;rw[length_append]at this;simp at this;omega
    subst hi2;rw[getElem?_append_right (le_refl _),sub_self]at h1;rw[getElem?_append_right (by rw[A.len];exact le_refl _),A.len,sub_self]at h2;cases h1;cases h2;exact hp
theorem DeedsAt.app {H:Hp}{l1 l2 l3:Addr}{d1 d2:List Deed}{p1 p2:List Addr}(A:DeedsAt H l1 d1 p1)(B:DeedsAt H l2 d2 p2){H':Hp}(hl:H' l3=some (.lst (p1.map V.ref++p2.map V.ref)))(hk:∀ p∈p1++p2,∀ o,H p=some o->H' p=some o):DeedsAt H' l3 (d1++d2) (p1++p2):=by
  refine⟨by rw[hl,map_append],by simp[A.len,B.len],λ i q u h1 h2=>?_⟩;refine hk q (mem_of_getElem? h1) _ ?_;rcases lt_or_ge i p1.length with hi|hi
  . rw[getElem?_append_left hi]at h1;rw[getElem?_append_left (by rw[<- A.len];exact hi)]at h2;exact A.at_ i q u h1 h2
  . rw[getElem?_append_right hi]at h1;rw[getElem?_append_right (by rw[<- A.len];exact hi),<- A.len]at h2;exact B.at_ _ q u h1 h2
section
variable {K:Frag}{caps:List (Str×Nat)}{tt:TT}{tl te:TE}{ta:TA}{σ:St}{H:Hp}{Q:VK}
theorem lcLvA {α:Type}(A:Addr->Hp->α->Prop)(xs:α->List V)(htl:∀ R:VK,(∀ a H1 d,A a H1 d->R (.ref a) H1)->tl σ H R)(hA:∀ a H1 d,A a H1 d->SqL K H1 a (xs d))(hn:∀ a H1 d,A a H1 d->(xs d).length<=900)(f:Nat->Bool)(g:α->Nat->V)(step:∀ a H1 d i x H2,A a H1 d->(xs d)[i]? = some x->Zj H1 H2->∀ R:Bool->Hp->Prop,(∀ H3,Zj H2 H3->R (f i) H3)->tt (some x::Z9 caps σ) H2 R)(elt:∀ a H1 d i x H2,A a H1 d->(xs d)[i]? = some x->f i=true->Zj H1 H2->∀ R:VK,(∀ H3,Zj H2 H3->R (g d i) H3)->te (some x::Z9 caps σ) H2 R)(q:∀ a H1 d D H2,A a H1 d->H1 D=none->Zj H1 H2->H2 D=some (.lst ((fl f (xs d).length).map (g d)))->Q (.ref D) H2):tLC caps (Zff K tl) tt te σ H Q:=
 htl _ λ a H1 d h=>⟨a,rfl,⟨xs d,hA a H1 d h⟩,lcLv (hA a H1 d h) (hn a H1 d h) f (g d) (λ i x H2=>step a H1 d i x H2 h) (λ i x H2=>elt a H1 d i x H2 h) (λ D H2=>q a H1 d D H2 h)⟩
theorem ZmN {tl':List Atm}(htl:∀ R:VK,(∀ a ps' H1,Zj H H1->H a=none->AtmsAt H1 a tl' ps'->R (.ref a) H1)->tl σ H R)(hn:tl'.length<=900)(f:Atm->Bool)(g:Atm->V)(step:∀ p t H2,Zj H H2->t∈tl'->H2 p=some (.tup t.vals)->∀ R:Bool->Hp->Prop,(∀ H3,Zj H2 H3->R (f t) H3)->tt (some (.ref p)::Z9 caps σ) H2 R)(elt:∀ p t H2,Zj H H2->t∈tl'->f t=true->H2 p=some (.tup t.vals)->∀ R:VK,(∀ H3,Zj H2 H3->R (g t) H3)->te (some (.ref p)::Z9 caps σ) H2 R)(q:∀ D H2,Zj H H2->H D=none->H2 D=some (.lst ((tl'.filter f).map g))->Q (.ref D) H2):tLC caps (Zff K tl) tt te σ H Q:=by
  refine lcLvA (α:=List Addr) (λ a H1 ps'=>Zj H H1/\H a=none/\AtmsAt H1 a tl' ps') (λ ps'=>ps'.map V.ref) (λ R r=>htl R λ a ps' H1 s f A=>r a H1 ps' ⟨s,f,A⟩) (λ a H1 d h=>SqL.of h.2.2.lst) (λ a H1 d h=>by rw[length_map,h.2.2.len];exact hn)
    (λ i=>(tl'[i]?.map f).getD false) (λ _ i=>(tl'[i]?.map g).getD .non) ?_ ?_ ?_
  . rintro a H1 d i x H2 ⟨s1,_,A⟩ hx s R r;obtain⟨p,t,rfl,ht,hp⟩:=(A.same s).at' hx;rw[ht]at r;exact step p t H2 (s1.trans s) (mem_of_getElem? ht) hp R r
  . rintro a H1 d i x H2 ⟨s1,_,A⟩ hx hf s R r;obtain⟨p,t,rfl,ht,hp⟩:=(A.same s).at' hx;rw[ht]at r hf;exact elt p t H2 (s1.trans s) (mem_of_getElem? ht) hf hp R r
  . rintro a H1 d D H2 ⟨s1,_,A⟩ hD s h;have e:=ZiP tl' f g false .non tl'.length (le_refl _);rw[take_length]at e;rw[length_map,A.len,e]at h;exact q D H2 (s1.trans s) (s1.free hD) h
theorem lcAtR {tl':List Atm}(htl:∀ R:VK,(∀ a ps' H1,Zj H H1->H a=none->AtmsAt H1 a tl' ps'->R (.ref a) H1)->tl σ H R)(hn:tl'.length<=900)(f:Atm->Bool)(step:∀ p t H2,Zj H H2->t∈tl'->H2 p=some (.tup t.vals)->∀ R:Bool->Hp->Prop,(∀ H3,Zj H2 H3->R (f t) H3)->tt (some (.ref p)::Z9 caps σ) H2 R)(elt:∀ x H2,Zj H H2->∀ R:VK,(∀ H3,Zj H2 H3->R x H3)->te (some x::Z9 caps σ) H2 R)(q:∀ D ps' H2,Zj H H2->H D=none->AtmsAt H2 D (tl'.filter f) ps'->Q (.ref D) H2):tLC caps (Zff K tl) tt te σ H Q:=by
  refine lcLvA (α:=List Addr) (λ a H1 ps'=>Zj H H1/\H a=none/\AtmsAt H1 a tl' ps') (λ ps'=>ps'.map V.ref) (λ R r=>htl R λ a ps' H1 s f A=>r a H1 ps' ⟨s,f,A⟩) (λ a H1 d h=>SqL.of h.2.2.lst) (λ a H1 d h=>by rw[length_map,h.2.2.len];exact hn)
    (λ i=>(tl'[i]?.map f).getD false) (λ d i=>((d.map V.ref)[i]?).getD .non) ?_ ?_ ?_
  . rintro a H1 d i x H2 ⟨s1,_,A⟩ hx s R r;obtain⟨p,t,rfl,ht,hp⟩:=(A.same s).at' hx;rw[ht]at r;exact step p t H2 (s1.trans s) (mem_of_getElem? ht) hp R r
  . rintro a H1 d i x H2 ⟨s1,_,A⟩ hx hf s R r;rw[hx]at r;exact elt x H2 (s1.trans s) R r
  . rintro a H1 d D H2 ⟨s1,_,A⟩ hD s h;rw[length_map,A.len]at h;obtain⟨ps',A2⟩:=A.flt s f h;exact q D ps' H2 (s1.trans s) (s1.free hD) A2
end
theorem Zm8 (bs:List Bool):(bs.map V.bl).all ZcK=true:=by
 rw[List.all_map,List.all_eq_true];intro b _;rfl
theorem ZnV (bs:List Bool):inV (.bl true) (bs.map V.bl)=bs.any id:=by
 unfold inV;rw[List.any_map];congr 1;funext b;cases b <;> rfl
theorem ZkC {β:Type}(l:List Atm)(g:Str->β)(d:Str):(l.filter λ t=>t.who.isSome).map (λ t=>g (t.who.getD d))=(l.filterMap Atm.who).map g:=by
  induction l with
  |nil=>rfl
  |cons t r ih=>
    cases e:t.who with
    |none=>rw[filter_cons_of_neg (by rw[e];decide),filterMap_cons,e,ih]
    |some n=>rw[filter_cons_of_pos (by rw[e];rfl),map_cons,filterMap_cons,e,ih];rfl
theorem ZgR (m:List (Str×Int))(p:Str):has m p=true↔p∈m.map (·.1):=by
 unfold has yr;rw[isSome_map];rw[List.find?_isSome];simp only[decide_eq_true_eq,mem_map]
theorem Zlr {m:List (Str×Int)}{p:Str}{v:Int}(h:(m.map (·.1)).Nodup):((Zhe m p v).map (·.1)).Nodup:=by
  unfold Zhe;split
  . rw[map_map];have e:m.map ((·.1)∘λ q=>if q.1=p then (q.1,v) else q)=m.map (·.1):=map_congr_left λ q _=>by
      show(if q.1=p then (q.1,v) else q).1=q.1;split <;> rfl
    rw[e];exact h
  . rename_i c;rw[map_append,nodup_append];refine⟨h,by simp,λ a ha b hb e=>c ?_⟩;simp at hb;rw[ZgR,<- hb,<- e];exact ha
theorem ZhG:∀(l m:List (Str×Int)),(m.map (·.1)).Nodup->((l.foldl Yh m).map (·.1)).Nodup
  |[],_,h=>h
  |q::r,m,h=>ZhG r (Yh m q) (Zlr h)
theorem ZiN {S:Mo}:∀(l m:List (Str×Int)),mOk S m->(∀ q∈l,has S.bs q.1=true/\0<=q.2/\q.2<=100)->mOk S (l.foldl Yh m)
  |[],_,h,_=>h
  |q::r,m,h,hl=>ZiN r (Yh m q) (h.step (hl q (by simp))) λ x hx=>hl x (mem_cons_of_mem _ hx)
theorem ZgU:∀(l m:List (Str×Int)),(l.foldl Yh m).length<=m.length+l.length
  |[],m=>le_refl _
  | q::r,m=>by
    have:=ZgU r (Yh m q);have:=ZeI m q;rw[foldl_cons,length_cons];omega
theorem Zi0:∀ {m:List (Str×Int)} {q:Str×Int},(m.map (·.1)).Nodup->q∈m->yr m q.1=some q.2
  | x::r,q,h,hq=>by
    rw[map_cons,List.nodup_cons]at h;unfold yr;rw[find?_cons]
    by_cases e:x.1=q.1
    . rw[decide_eq_true e];rcases List.mem_cons.mp hq with rfl|hq
      . rfl
      . exact absurd (List.mem_map.mpr ⟨q,hq,e.symm⟩) h.1
    . rw[decide_eq_false e];rcases List.mem_cons.mp hq with rfl|hq
      . exact absurd rfl e
      . exact Zi0 h.2 hq
theorem ZlI (S:Mo)(h:Ho)(ts:List Atm):((mst S h ts).map (·.1)).Nodup:=ZhG _ [] List.nodup_nil
theorem Zl1 {S:Mo}{m:List (Str×Int)}{i:Nat}{q:Str×Int}(e:m[i]? = some q):Y0 S (m.take (i+1))=Y0 S (m.take i)++List.replicate (q.2 - (nk S.bs q.1:Int)).toNat (Deed.birth q.1):=by
 unfold Y0;rw[take_succ,e,List.flatMap_append];congr 1;show List.flatMap _ [q]=_;simp
theorem Zg6 {S:Mo}{m:List (Str×Int)}(h:mOk S m):(Y0 S m).length<=m.length * 100:=by
  induction m with
  |nil=>exact le_refl _
  |cons q r ih=>
    unfold Y0 at ih ⊢;rw[List.flatMap_cons,length_append,length_replicate,length_cons];have:=ih λ x hx=>h x (mem_cons_of_mem _ hx);have:=h q (by simp);omega
theorem DeedsAt.tup_of {H:Hp}{l:Addr}{ds:List Deed}{ps:List Addr}(D:DeedsAt H l ds ps){p:Addr}(h:p∈ps):∃ vs,H p=some (.tup vs):=by
 obtain⟨i,hi⟩:=List.mem_iff_getElem?.mp h;have hj:i<ds.length:=by rw[<- D.len];exact(List.getElem?_eq_some_iff.mp hi).1
 exact⟨_,D.at_ i p _ hi (getElem?_eq_getElem hj)⟩
theorem DeedsAt.ext {H:Hp}{l1 l2:Addr}{d1 d2:List Deed}{p1 p2:List Addr}(A:DeedsAt H l1 d1 p1)(B:DeedsAt H l2 d2 p2):DeedsAt (upd H l1 (.lst (p1.map V.ref++p2.map V.ref))) l1 (d1++d2) (p1++p2):=by
  refine A.app B Ze λ p hp o e=>?_;rw[Zh ?_]
  . exact e
  . rintro rfl;rcases List.mem_append.mp hp with hp|hp
    . obtain⟨vs,z⟩:=A.tup_of hp;rw[A.lst]at z;cases z
    . obtain⟨vs,z⟩:=B.tup_of hp;rw[A.lst]at z;cases z
theorem Zkt {H:Hp}{l p:Addr}{d:Deed}{k:Nat}(hp:H p=some (.tup d.vals))(hl:H l=some (.lst (List.replicate k [V.ref p]).flatten)):DeedsAt H l (List.replicate k d) (List.replicate k p):=by
  refine⟨?_,by rw[length_replicate,length_replicate],λ i q u h1 h2=>?_⟩
  . rw[hl,List.map_replicate];congr 2;clear hl
    induction k with
    |zero=>rfl
    |succ k ih=>rw[replicate_succ,flatten_cons,ih,replicate_succ];rfl
  . have e1:=List.eq_of_mem_replicate (mem_of_getElem? h1);have e2:=List.eq_of_mem_replicate (mem_of_getElem? h2);rw[e1,e2];exact hp
theorem Zhl {H:Hp}{l:Addr}{ds:List Deed}{ps:List Addr}(T:TupsAt H l (ds.map Deed.vals) ps):DeedsAt H l ds ps:=
 ⟨T.lst,by rw[T.len,length_map],λ i p d h1 h2=>T.at_ i p _ h1 (by rw[getElem?_map,h2];rfl)⟩
structure DtX (H:Hp)(S:Mo)(xs:Unit)(RX:List Addr):Prop where
  d:Dated S
  e:RX=[]
noncomputable def YdI (H:Hp)(n:Int)(l:Addr)(m:Nat)(σ:St)(H2:Hp):Prop:=∃(j:Int)(ds:List Deed)(ps:List Addr),σ=[some (.int j),some (.ref l)]/\m=j.toNat/\j<=500/\Zj H H2/\H l=none/\DeedsAt H2 l ds ps/\(∀ x∈ps,H x=none)/\ds.length+j.toNat<=500/\(ydl n.toNat).map Deed.years=ds++(ydl j.toNat).map Deed.years
noncomputable def Zlf (H:Hp)(r l:Addr)(S:Mo)(h:Ho)(ts:List Atm)(tm:Int):Prop:=
 (whS S h ts (h.out S)≠("hangs":Str)/\H r=some (.tup [.str "sure", .ref l])/\H l=some (.lst [])) \/
 (whS S h ts (h.out S)=("hangs":Str)/\∃ F ps,ZcD S h ts F/\Za5 S h ts F tm=true/\H r=some (.tup [.str "late", .ref l])/\DeedsAt H l (Zbi S h ts F tm) ps) \/
 (whS S h ts (h.out S)=("hangs":Str)/\∃ F ss,ZcD S h ts F/\Za5 S h ts F tm=false/\ss.Perm (ddl (namL S h ts))/\PyProof.Rows.sortedS ss=true/\H r=some (.tup [.str "sure", .ref l])/\H l=some (.lst (ss.map V.str)))
structure JsAt (H:Hp)(lp:Addr)(S:Mo)(h:Ho)(ts:List Atm)(tms:List Int)(rs:List (Addr×Addr)):Prop where
  lst:H lp=some (.lst (rs.map λ q=>V.ref q.1))
  len:rs.length=tms.length
  at_:∀(i:Nat)(q:Addr×Addr)(t:Int),rs[i]? = some q->tms[i]? = some t->Zlf H q.1 q.2 S h ts t
  ne:∀ q∈rs,q.2≠lp
end L2
namespace L2
open PySem PySem.Spec
section
variable {S:Mo}{n c:Str}{a:Int}{os:List Str}
theorem ZiY (W:Wf S.bs S.ds)(hk:has S.bs c=true):(Atm.age c a).stand S=("met":Str)↔a<=Xp S c:=by
  obtain⟨y,hy⟩:=XD hk;rw[YS hy];have ea:Xs S c y=Xp S c:=Zg7 hy;unfold YC;rw[ea];constructor
  . intro h
    by_cases z:a<=Xp S c
    . exact z
    . rw[if_neg z]at h;split at h
      . exact absurd h (by decide +kernel)
      . exact absurd h (by decide +kernel)
  . intro h;rw[if_pos h]
theorem ZhK (on:okN S n)(h:al S.bs S.ds (nr S.bs n)=false):(Atm.dead n).stand S≠("hangs":Str)/\(Atm.dead n).since S=((yr S.ds (nr S.bs n)).map V.int).getD .non:=by
  have nk:=Zcm on;have hd:has S.ds (nr S.bs n)=true:=by
    rw[YR nk]at h;cases e:has S.ds (nr S.bs n) with
    |true=>rfl
    |false=>rw[e]at h;cases h
  cases hk:has S.bs n with
  |true=>
    have e:=Z2 (ZF on.1) hk;rw[e]at hd ⊢;have hs:(Atm.dead n).stand S=("met":Str):=by rw[Y3,if_pos hk,if_pos hd]
    have hn:(Atm.dead n).stand S≠("hangs":Str):=by rw[hs];exact Zaz
    exact⟨hn,Zj4 hk hn⟩
  |false=>
    have hs:(Atm.dead n).stand S=("failed":Str):=by
      rw[Y3,hk,if_neg (by decide)];unfold ZX;rw[h];rfl
    have hn:(Atm.dead n).stand S≠("hangs":Str):=by rw[hs];exact Zhz
    exact⟨hn,Zj3 rfl hk hn⟩
theorem ZiB (on:okN S n)(h:(Atm.dead n).stand S≠("hangs":Str)):al S.bs S.ds (nr S.bs n)=false:=by
  cases hk:has S.bs n with
  |true=>
    rw[Z2 (ZF on.1) hk,YR hk];rw[Y3,if_pos hk]at h;cases e:has S.ds n with
    |true=>rfl
    |false=>rw[e]at h;exact absurd rfl h
  |false=>
    rw[Y3,hk,if_neg (by decide)]at h;unfold ZX at h;cases e:al S.bs S.ds (nr S.bs n) with
    |false=>rfl
    |true=>rw[e]at h;exact absurd rfl h
end
theorem Zkw {S:Mo}{n:Str}{a:Int}{os:List Str}{far:Int}{d:Deed}{k:Nat}(O:S.Ok k)(D:Dated S)(hk:k<98)(hg:S.good far d)(on:okN S n)(h0:0<=a)(h1:a<=120)(hs:clS S n a os≠"hangs") :
    clS (S.step d) n a os=clS S n a os/\ZbD (S.step d) n a os=ZbD S n a os/\∀ day M,Csin S n a os day M->Csin (S.step d) n a os day M:=by
  have W:=O.wf;have W':=(O.step hg hk).wf;have on':=on.step W d;obtain⟨hal,hwt⟩:=Zdt hs;have nd:=ZlG on hs;have ek:Yd (S.step d) n=Yd S n:=by
    unfold Yd;cases d with
    |arrive w b=>rw[show nk (S.step (.arrive w b)).bs n=nk S.bs n from Zd9 hg.1 n]
    |birth m=>
      rw[show nk (S.step (.birth m)).bs n=_ from Zcp W (by have:=O.lb;omega) n,if_neg];rintro rfl;have e:=Z2 (ZF on.1) hg.1;rw[e,hg.2.1]at nd;cases nd.2
    |death m=>rfl
    |comes w=>rfl
    |years j=>rfl
  have em:YI (S.step d) n os=YI S n os:=by unfold YI;rw[ek]
  have km:∀ c∈YI S n os,Kept S (S.step d) (.age c a):=λ c hc=>(ZfS (t:=.age c a) O D hk hg ⟨ZiG W (Z4 W (YQ hc)),h0,h1⟩).resolve_right λ z=>Zfa W hs hc z.1;have ag:∀ c∈YI S n os,decide (a<=Xp (S.step d) c)=decide (a<=Xp S c):=λ c hc=>by
    have k1:=Z4 W (YQ hc);have m1:=ZiY (a:=a) W k1;have m2:=ZiY (a:=a) W' (S.step_bs d c k1);rw[(km c hc).1]at m2;exact decide_eq_decide.mpr (m2.symm.trans m1)
  obtain⟨dn,ds⟩:=ZhK on hal;have kd:=(ZfS (t:=.dead n) O D hk hg on).resolve_right λ z=>dn z.1;have dn':(Atm.dead n).stand (S.step d)≠("hangs":Str):=by rw[kd.1];exact dn
  have hal':=ZiB on' dn';obtain⟨_,ds'⟩:=ZhK on' hal';have ey:yr (S.step d).ds (nr (S.step d).bs n)=yr S.ds (nr S.bs n):=by
    have e:=ds'.symm.trans (kd.2.trans ds);obtain⟨y,hy⟩:=XD nd.2;rw[hy]at e ⊢;cases z:yr (S.step d).ds (nr (S.step d).bs n) with
    |none=>rw[z]at e;cases e
    |some y'=>rw[z]at e;have e':V.int y'=V.int y:=e;injection e' with e';rw[e']
  have es:ZbD (S.step d) n a os=ZbD S n a os:=by
    unfold ZbD;rw[em];exact List.filter_congr ag
  have eh:Ye (S.step d) n a os=Ye S n a os:=by rw[Zh3,Zh3,es]
  have ew:ZH (S.step d) n a os=[]:=by
    unfold ZH;rw[em,List.filter_eq_nil_iff];intro c hc e;have k1:=S.step_bs d c (Z4 W (YQ hc));obtain⟨y,hy⟩:=XD k1;have z:=Zbk (a:=a) hy;rw[e]at z;have hh:YC (S.step d) c y a="hangs":=by
      have:=of_decide_eq_true z;injection this
    have st:(Atm.age c a).stand (S.step d)=("hangs":Str):=by rw[YS hy];exact hh
    rw[(km c hc).1]at st;exact Zfa W hs hc st
  have ec:clS (S.step d) n a os=clS S n a os:=by
    unfold clS;rw[hal',ew,hal,hwt,eh]
  refine⟨ec,es,λ day M h=>?_⟩;have ecy:cyL (S.step d) n a os day=cyL S n a os day:=by
    unfold cyL;rw[ey,em];congr 2;refine map_congr_left λ c hc=>?_;unfold sy;rw[(km c hc).2]
  refine⟨by rw[ec];exact h.1,?_,?_⟩
  . rw[ecy];exact h.2.1
  . rw[ecy];exact h.2.2
open PySem PySem.Spec
noncomputable def Wc (S:Mo)(c:Cl)(s:Str)(v:V)(ss:List Str):Prop:=s=clS S c.n c.a c.os/\ss=ZbD S c.n c.a c.os/\((s="hangs"/\v = .non)\/(s≠"hangs"/\∃ M,v = .int M/\Csin S c.n c.a c.os 0 M))
section
variable {S:Mo}{c:Cl}{s s':Str}{v v':V}{ss ss':List Str}
end
structure Td where
  s:Str
  v:V
  ss:List Str
  p:Addr
  l:Addr
structure ToldAt (H:Hp)(lt:Addr)(td:List Td):Prop where
  lst:H lt=some (.lst (td.map λ t=>V.ref t.p))
  at_:∀ t∈td,H t.p=some (.tup [.str t.s,t.v, .ref t.l])/\H t.l=some (.lst (t.ss.map V.str))
  ne:∀ t∈td,t.l≠lt
noncomputable def trg (lt:Addr)(td:List Td):List Addr:=lt::td.map (·.p)++td.map (·.l)
section
variable {H H':Hp}{lt:Addr}{td:List Td}{t:Td}{i:Nat}{X:List Addr}
end
open PySem PySem.Spec
structure TX (H:Hp)(lm lt:Addr)(S:Mo)(i:Nat)(xs:List Cl×List Td)(RX:List Addr):Prop where
  ex:∃ qs,MadeAt (λ _=>[]) H lm xs.1 qs/\RX=rgn lm qs++trg lt xs.2/\lt∉rgn lm qs/\lm∉trg lt xs.2
  td:ToldAt H lt xs.2
  ok:∀ c∈xs.1,c.ok S
  few:xs.1.length<=2 * i
  le:xs.2.length<=xs.1.length
  good:∀(k:Nat)(t:Td)(c:Cl),xs.2[k]? = some t->xs.1[k]? = some c->t.s="hangs"\/Wc S c t.s t.v t.ss
  dat:Dated S
  nod:(S.ds.map (·.1)).Nodup
section
variable {H H':Hp}{lm lt:Addr}{S:Mo}{i:Nat}{xs:List Cl×List Td}{RX X:List Addr}
theorem TX.mono {j:Nat}(E:TX H lm lt S i xs RX)(h:i<=j):TX H lm lt S j xs RX:=⟨E.ex,E.td,E.ok,by have:=E.few;omega,E.le,E.good,E.dat,E.nod⟩
end
end L2
namespace L2
open PySem PySem.Spec
theorem JV {ss:List Str}:Yk ss=("hangs":Str)↔("failed":Str)∉ss/\("hangs":Str)∈ss:=by
  unfold Yk
  by_cases c:("failed":Str)∈ss
  . rw[if_pos c];exact⟨λ z=>absurd z (by decide +kernel),λ z=>absurd c z.1⟩
  . rw[if_neg c]
    by_cases c2:("hangs":Str)∈ss
    . rw[if_pos c2];exact⟨λ _=>⟨c,c2⟩,λ _=>rfl⟩
    . rw[if_neg c2];exact⟨λ z=>absurd z (by decide +kernel),λ z=>absurd z.2 c2⟩
theorem Jj {ss:List Str}:Yk ss=("failed":Str)↔("failed":Str)∈ss:=by
  unfold Yk
  by_cases c:("failed":Str)∈ss
  . rw[if_pos c];exact⟨λ _=>c,λ _=>rfl⟩
  . rw[if_neg c];refine⟨λ z=>?_,λ z=>absurd z c⟩
    by_cases c2:("hangs":Str)∈ss
    . rw[if_pos c2]at z;exact absurd z (by decide +kernel)
    . rw[if_neg c2]at z;exact absurd z (by decide +kernel)
section
variable {S:Mo}{h:Ho}{ts ts':List Atm}
noncomputable def TagJ (S:Mo)(h:Ho)(ts:List Atm)(tm:Int)(g:Str):Prop:=
 (g="late"/\whS S h ts (h.out S)=("hangs":Str)/\∃ F,ZcD S h ts F/\Za5 S h ts F tm=true)\/(g="sure"/\(whS S h ts (h.out S)≠("hangs":Str)\/∃ F,ZcD S h ts F/\Za5 S h ts F tm=false))
theorem Zlf.tagJ {H:Hp}{r l:Addr}{tm:Int}(J:Zlf H r l S h ts tm):∃ g,H r=some (.tup [.str g, .ref l])/\TagJ S h ts tm g:=by
  rcases J with J|J|J
  . exact⟨"sure",J.2.1, .inr ⟨rfl, .inl J.1⟩⟩
  . obtain⟨a,F,ps,b,c,d,e⟩:=J;exact⟨"late",d, .inl ⟨rfl,a,F,b,c⟩⟩
  . obtain⟨a,F,ss,b,c,d,e,f,g⟩:=J;exact⟨"sure",f, .inr ⟨rfl, .inr ⟨F,b,c⟩⟩⟩
theorem Znk {n:Str}{a tm:Int}{os:List Str}(W:Wf S.bs S.ds)(on:okN S n)(h:Zdu S tm (.kids n a)=true)(hf:clS S n a os≠("failed":Str)):clS S n a os=("hangs":Str):=by
  have h':(if has S.bs n=false then true else al S.bs S.ds n && decide (a>tm))=true:=h;have key:al S.bs S.ds (nr S.bs n)=true->clS S n a os=("hangs":Str):=λ z=>by unfold clS;rw[z,Bool.true_or,if_pos rfl]
  cases hk:has S.bs n with
  |true=>
    rw[if_neg (by rw[hk];decide),and_eq_true]at h';refine key ?_;rw[Z2 (ZF on.1) hk];exact h'.1
  |false=>
    cases ha:al S.bs S.ds (nr S.bs n) with
    |true=>exact key ha
    |false=>
      refine absurd ?_ hf;have e1:ZH S n a os=[]:=by unfold ZH YI;rw[XY W hk];rfl
      have e2:Ye S n a os=false:=by unfold Ye YI;rw[XY W hk];rfl
      unfold clS;rw[ha,e1,e2];rfl
theorem Zns {n:Str}{a:Int}{os:List Str}:whS S (.kids n a) ts os=("hangs":Str)↔(∀ t∈ts,t.stand S≠("failed":Str))/\clS S n a os≠("failed":Str)/\((∃ t∈ts,t.stand S=("hangs":Str))\/clS S n a os=("hangs":Str)):=by
  have e:whS S (.kids n a) ts os=(if Yk (ts.map (Atm.stand S))=("failed":Str) then ("failed":Str) else Yk [Yk (ts.map (Atm.stand S)),clS S n a os]):=rfl;have hfl:Yk (ts.map (Atm.stand S))=("failed":Str)↔∃ t∈ts,t.stand S=("failed":Str):=by rw[Jj,mem_map]
  have hhg:Yk (ts.map (Atm.stand S))=("hangs":Str)↔(∀ t∈ts,t.stand S≠("failed":Str))/\∃ t∈ts,t.stand S=("hangs":Str):=by
    rw[JV,mem_map,mem_map];exact⟨λ⟨a,b⟩=>⟨λ t ht z=>a ⟨t,ht,z⟩,b⟩,λ⟨a,b⟩=>⟨λ⟨t,ht,z⟩=>a t ht z,b⟩⟩
  rw[e]
  by_cases c:Yk (ts.map (Atm.stand S))=("failed":Str)
  . rw[if_pos c];refine⟨λ z=>absurd z (by decide +kernel),λ z=>?_⟩;obtain⟨t,h1,h2⟩:=hfl.mp c;exact absurd h2 (z.1 t h1)
  . rw[if_neg c,JV];have nf:∀ t∈ts,t.stand S≠("failed":Str):=λ t ht z=>c (hfl.mpr ⟨t,ht,z⟩);simp only[mem_cons,List.mem_nil_iff,or_false,not_or];constructor
    . rintro⟨⟨_,h2⟩,h3⟩;refine⟨nf,λ z=>h2 z.symm,?_⟩;rcases h3 with h3|h3
      . exact .inl (hhg.mp h3.symm).2
      . exact .inr h3.symm
    . rintro⟨_,h2,h3⟩;refine⟨⟨λ z=>c z.symm,λ z=>h2 z.symm⟩,?_⟩;rcases h3 with h3|h3
      . exact .inl (hhg.mpr ⟨nf,h3⟩).symm
      . exact .inr h3.symm
theorem Zec {t:Atm}:t∈XZ S h ts↔t∈Zam h ts/\t.stand S=("hangs":Str):=by
 unfold XZ;rw[List.mem_filter];exact⟨λ z=>⟨z.1,of_decide_eq_true z.2⟩,λ z=>⟨z.1,decide_eq_true z.2⟩⟩
end
open PySem PySem.Spec
theorem Zng (xs:List V)(k:Nat):Zku xs none (some (k:Int))=xs.take k:=by
  unfold Zku;rw[HT.sIx_none,HT.sIx_nat,List.drop_zero,Nat.sub_zero];rcases Nat.le_total k xs.length with h|h
  . rw[Nat.min_eq_left h]
  . rw[Nat.min_eq_right h,take_length,List.take_of_length_le h]
theorem AtmsAt.take {H H':Hp}{l l':Addr}{tl:List Atm}{ps:List Addr}{k:Nat}(A:AtmsAt H l tl ps)(s:Zj H H')(h:H' l'=some (.lst ((ps.map V.ref).take k))):AtmsAt H' l' (tl.take k) (ps.take k):=
  ⟨by rw[h,List.map_take],by rw[length_take,length_take,A.len],λ i p t h1 h2=>by
    have hi:i<k:=by
      have:=(List.getElem?_eq_some_iff.mp h1).1;rw[length_take]at this;omega
    rw[List.getElem?_take,if_pos hi]at h1 h2;exact s _ _ (A.at_ i p t h1 h2)⟩
section
variable {K:Frag}{caps:List (Str×Nat)}{tt:TT}{tl te:TE}{σ:St}{H:Hp}{Q:VK}
end
open PySem PySem.Spec PyProof.Rows
section
variable {X:Cx}{e st:Expr}{te ts:TE}{p2 pos:Pos}
end
end L2
namespace L2
open PySem PySem.Spec
noncomputable def Kb (S:Mo):Prop:=∀ n i b d,yr S.bs (kid n i)=some b->yr S.ds n=some d->b<=d
theorem JI {l:List (Str×Int)}{n:Str}{y:Int}(h:yr l n=some y):has l n=true:=by unfold has;rw[h];rfl
theorem ZaE {l:List (Str×Int)}{m n:Str}{y z:Int}(h:yr l n=some z):yr (l++[(m,y)]) n=some z:=by rw[Zek,h];rfl
structure Aft (S0 S:Mo):Prop where
  y:S0.y<=S.y
  b:∀ n y,yr S0.bs n=some y->yr S.bs n=some y
  d:∀ n y,yr S0.ds n=some y->yr S.ds n=some y
  k:∀ n,has S0.ds n=true->nk S.bs n=nk S0.bs n
  ok:∀ t:Atm,t.ok S0->t.ok S
  st:∀ t:Atm,t.ok S0->t.stand S0≠("hangs":Str)->t.stand S=t.stand S0
  cl:∀ n a os,okN S0 n->0<=a->a<=120->clS S0 n a os≠("hangs":Str)->clS S n a os=clS S0 n a os
theorem Aft.refl (S:Mo):Aft S S:=⟨Int.le_refl _,λ _ _ h=>h,λ _ _ h=>h,λ _ _=>rfl,λ _ h=>h,λ _ _ _=>rfl,λ _ _ _ _ _ _ _=>rfl⟩
theorem Aft.hb {S0 S:Mo}(A:Aft S0 S){n:Str}(h:has S0.bs n=true):has S.bs n=true:=by
 obtain⟨y,e⟩:=XD h;exact JI (A.b n y e)
theorem Aft.hd {S0 S:Mo}(A:Aft S0 S){n:Str}(h:has S0.ds n=true):has S.ds n=true:=by
 obtain⟨y,e⟩:=XD h;exact JI (A.d n y e)
theorem Aft.step {S0 S:Mo}{far:Int}{d:Deed}{k:Nat}(A:Aft S0 S)(O:S.Ok k)(D:Dated S)(hk:k<98)(hg:S.good far d):Aft S0 (S.step d):=by
  refine⟨?_,λ n y h=>?_,λ n y h=>?_,λ n h=>?_,λ t h=>Atm.ok.step O.wf d (A.ok t h),λ t h hs=>?_,λ n a os on h0 h1 hs=>?_⟩
  . cases d with
    |years j=>have:=A.y;have:=hg.1;show S0.y<=S.y+j;omega
    |_=>exact A.y
  . have e:=A.b n y h;cases d with
    |arrive w a=>exact ZaE e
    |birth m=>exact ZaE e
    |_=>exact e
  . have e:=A.d n y h;cases d with
    |death m=>exact ZaE e
    |_=>exact e
  . have e:=A.k n h;cases d with
    |arrive w a=>exact(Zd9 hg.1 n).trans e
    |birth m=>
      rw[show nk (S.step (.birth m)).bs n=_ from Zcp O.wf (by have:=O.lb;omega) n,if_neg]
      . exact e
      . rintro rfl;have:=A.hd h;rw[hg.2.1]at this;cases this
    |_=>exact e
  . have e:=A.st t h hs;rcases ZfS O D hk hg (A.ok t h) with z|z
    . exact z.1.trans e
    . exact absurd z.1 (by rw[e];exact hs)
  . have e:=A.cl n a os on h0 h1 hs;exact(Zkw O D hk hg (A.ok (.born n) on) h0 h1 (by rw[e];exact hs)).1.trans e
noncomputable def plS (S:Mo)(h:Ho)(ts:List Atm)(os:List Str):List Str:=(Zam h ts).map (Atm.stand S)++(match h with|.one _=>[]|.kids n a=>[clS S n a os])
theorem wh_pl (S:Mo)(h:Ho)(ts:List Atm)(os:List Str):whS S h ts os=Yk (plS S h ts os):=by
  cases h with
  |one n=>show Yk _=Yk (_++[]);rw[append_nil]
  |kids n a=>
    have e:whS S (.kids n a) ts os=(if Yk (ts.map (Atm.stand S))=("failed":Str) then ("failed":Str) else Yk [Yk (ts.map (Atm.stand S)),clS S n a os]):=rfl;have e2:plS S (.kids n a) ts os=ts.map (Atm.stand S)++[clS S n a os]:=rfl;rw[e,e2];generalize clS S n a os=c;generalize ts.map (Atm.stand S)=l
    by_cases c1:("failed":Str)∈l
    . rw[if_pos (Jj.mpr c1)];exact(Jj.mpr (mem_append_left _ c1)).symm
    . rw[if_neg (λ z=>c1 (Jj.mp z))];unfold Yk;simp only[mem_append,mem_cons,List.mem_nil_iff,or_false,c1,false_or,if_false]
      by_cases c2:("hangs":Str)∈l
      . simp only[c2,if_true,true_or]
        by_cases c3:("failed":Str)=c
        . rw[if_pos (.inr c3),if_pos c3]
        . rw[if_neg (λ z=>z.elim (by decide +kernel) c3),if_neg c3]
      . simp only[c2,if_false,false_or]
        by_cases c3:("failed":Str)=c
        . rw[if_pos (.inr c3),if_pos c3]
        . rw[if_neg (λ z=>z.elim (by decide +kernel) c3),if_neg c3]
          by_cases c4:("hangs":Str)=c
          . rw[if_pos (.inr c4),if_pos c4]
          . rw[if_neg (λ z=>z.elim (by decide +kernel) c4),if_neg c4]
section
variable {S0 S:Mo}{h:Ho}{ts:List Atm}{tm F:Int}{os:List Str}
theorem Zgm {x:Str}:x∈plS S h ts os↔(∃ t∈Zam h ts,t.stand S=x)\/(∃ n a,h = .kids n a/\clS S n a os=x):=by
  unfold plS;rw[mem_append,mem_map];cases h with
  |one n=>exact or_congr Iff.rfl ⟨(λ z=>by cases z),(λ⟨_,_,z,_⟩=>by cases z)⟩
  |kids n a=>exact or_congr Iff.rfl ⟨(λ z=>⟨n,a,rfl,(List.mem_singleton.mp z).symm⟩),(λ⟨_,_,z,e⟩=>by cases z;exact List.mem_singleton.mpr e.symm)⟩
theorem ZkZ {t:Atm}{n:Str}(hw:t.who=some n)(ok:t.ok S)(hs:t.stand S=("hangs":Str)):al S.bs S.ds (nr S.bs n)=true:=by
  have on:=Atm.ok_who ok hw;have none_:has S.bs n=false->ZX S n=("hangs":Str)->al S.bs S.ds (nr S.bs n)=true:=λ _ e=>by
    unfold ZX at e;split at e
    . assumption
    . exact absurd e Zhz
  have known:has S.bs n=true->has S.ds n=false->al S.bs S.ds (nr S.bs n)=true:=λ e1 e2=>by
    rw[Z2 (ZF on.1) e1,YR e1,e2];rfl
  cases t with
  |year y=>cases hw
  |comes w=>cases hw
  |born m=>
    cases hw;rw[ZdA]at hs;split at hs
    . exact absurd hs Zaz
    . rename_i e;exact none_ (Bool.eq_false_iff.mpr e) hs
  |dead m=>
    cases hw;rw[Y3]at hs;split at hs
    . split at hs
      . exact absurd hs Zaz
      . rename_i e1 e2;exact known e1 (Bool.eq_false_iff.mpr e2)
    . rename_i e;exact none_ (Bool.eq_false_iff.mpr e) hs
  |age m a=>
    cases hw;cases e:yr S.bs n with
    |none=>
      have z:ZX S n=("hangs":Str):=by
        have:(Atm.age n a).stand S=ZX S n:=by show(match yr S.bs n with|some y=>YC S n y a|none=>ZX S n)=_;rw[e]
        rw[<- this];exact hs
      exact none_ (Zm2 e) z
    |some y=>
      rw[YS e]at hs;unfold YC at hs;split at hs
      . exact absurd hs Zaz
      . split at hs
        . exact absurd hs Zhz
        . rename_i e2;exact known (JI e) (Bool.eq_false_iff.mpr e2)
theorem Aft.born (A:Aft S0 S){c:Str}(hk:has S0.bs c=true):Xf S c=Xf S0 c:=by
 obtain⟨y,e⟩:=XD hk;unfold Xf;rw[e,A.b c y e]
theorem ZjW {c:Str}(hd:has S.ds c=false):Xp S c=S.y - Xf S c:=by unfold Xp;rw[Xb hd];rfl
theorem Zch {c:Str}{d:Int}(hd:yr S.ds c=some d):Xp S c=d - Xf S c:=by unfold Xp;rw[hd];rfl
theorem ZlK (A:Aft S0 S){n:Str}(hd:has S0.ds n=true):YI S n os=YI S0 n os:=by
 unfold YI Yd;rw[A.k n hd]
structure Sr (S0:Mo)(h:Ho)(ts:List Atm)(ss:List Str)(tm:Int):Prop where
  oh:h.ok S0
  ok:∀ t∈ts,t.ok S0
  al:∀ c∈ss,al S0.bs S0.ds c=true
  su:whS S0 h ts (h.out S0)≠("hangs":Str)\/∃ F,ZcD S0 h ts F/\Za5 S0 h ts F tm=false/\∀ c∈namL S0 h ts,c∈ss
end
end L2
namespace L2
open PySem PySem.Spec
theorem Ys.off {H:Hp}{m x:Addr}{S:Mo}{R:List Addr}(M:Ys H m S R)(hx:x∈R):(∃ c e1 e2 e3,H x=some (.tup [.ref c, .ref e1, .ref e2, .ref e3])/\H c=some (.lst [.int S.y]))\/H x=some (.lst [.int S.y])\/∃ es,H x=some (.dK es):=by
  obtain⟨c,e1,e2,e3,B,rfl⟩:=M.ex;unfold Jf at hx;rcases List.mem_cons.mp hx with rfl|hx
  . exact .inl ⟨c,e1,e2,e3,B.tup,B.clk⟩
  rcases List.mem_cons.mp hx with rfl|hx
  . exact .inr (.inl B.clk)
  rcases List.mem_cons.mp hx with rfl|hx
  . exact .inr (.inr ⟨_,B.h1⟩)
  rcases List.mem_cons.mp hx with rfl|hx
  . exact .inr (.inr ⟨_,B.h2⟩)
  rcases List.mem_cons.mp hx with rfl|hx
  . exact .inr (.inr ⟨_,B.h3⟩)
  . cases hx
section
variable {H H':Hp}{m x:Addr}{S:Mo}{R:List Addr}
theorem Ys.off_tup {s:Str}{vs:List V}(M:Ys H m S R)(k:Yz R H H')(e:H x=some (.tup (.str s::vs))):H' x=some (.tup (.str s::vs)):=by
 refine k.1 x _ (λ hx=>?_) e;rcases M.off hx with ⟨c,e1,e2,e3,z,_⟩|z|⟨es,z⟩ <;> rw[e]at z <;> cases z
theorem Ys.off_refs {ps:List Addr}(M:Ys H m S R)(k:Yz R H H')(e:H x=some (.lst (ps.map V.ref))):H' x=some (.lst (ps.map V.ref)):=by
  refine k.1 x _ (λ hx=>?_) e;rcases M.off hx with ⟨c,e1,e2,e3,z,_⟩|z|⟨es,z⟩
  . rw[e]at z;cases z
  . rw[e]at z;cases ps with
    |nil=>cases z
    |cons a r=>cases z
  . rw[e]at z;cases z
theorem ZlT (d:Deed):∃ s vs,d.vals = .str s::vs:=by cases d <;> exact⟨_,_,rfl⟩
theorem DeedsAt.off {l:Addr}{ds:List Deed}{ps:List Addr}(A:DeedsAt H l ds ps)(M:Ys H m S R)(k:Yz R H H'):DeedsAt H' l ds ps:=
  ⟨M.off_refs k A.lst,A.len,λ i p t e1 e2=>by
    obtain⟨s,vs,e⟩:=ZlT t;have:=A.at_ i p t e1 e2;rw[e]at this ⊢;exact M.off_tup k this⟩
end
structure Rw where
  p:Addr
  ph:Addr
  la:Addr
  lo:Addr
  ln:Addr
  ps:List Addr
  h:Ho
  ts:List Atm
  os:List Str
  ss:List Str
structure Rw.At (H:Hp)(r:Rw):Prop where
  tp:H r.p=some (.tup [.ref r.ph, .ref r.la, .ref r.lo, .ref r.ln])
  ho:H r.ph=some (.tup r.h.vals)
  at_:AtmsAt H r.la r.ts r.ps
  ou:H r.lo=some (.lst (r.os.map V.str))
  nm:H r.ln=some (.lst (r.ss.map V.str))
structure RowsAt (H:Hp)(l:Addr)(rs:List Rw):Prop where
  lst:H l=some (.lst ((rs.map (·.p)).map V.ref))
  at_:∀ r∈rs,r.At H
theorem RowsAt.nil {H:Hp}{l:Addr}(h:H l=some (.lst [])):RowsAt H l []:=⟨h,λ _ hr=>by cases hr⟩
noncomputable def Seq (far:Int):Mo->List Deed->Prop
  |_,[]=>True
  |S,d::r=>S.good far d/\Seq far (S.step d) r
noncomputable def Zv (S:Mo)(ds:List Deed):Mo:=ds.foldl Mo.step S
theorem Seq.app {far:Int}:∀ {ds es:List Deed} {S:Mo},Seq far S ds->Seq far (Zv S ds) es->Seq far S (ds++es)
  |[],_,_,_,h=>h
  |d::r,es,S,h,h'=>⟨h.1,Seq.app h.2 h'⟩
theorem Seq.at_ {far:Int}:∀ {ds:List Deed} {S:Mo} {i:Nat} {d:Deed},Seq far S ds->ds[i]? = some d->(Zv S (ds.take i)).good far d
  |[],_,_,_,_,h=>by cases h
  |d::r,S,0,_,h,e=>by cases e;exact h.1
  |d::r,S,i+1,x,h,e=>Seq.at_ (ds:=r) (S:=S.step d) h.2 e
theorem Zcl {ds:List Deed}{S:Mo}{i:Nat}{d:Deed}(e:ds[i]? = some d):Zv S (ds.take (i+1))=(Zv S (ds.take i)).step d:=by
 unfold Zv;rw[take_succ,e,List.foldl_append];rfl
noncomputable def lastD (S:Mo)(pool:List Str)(tm:Int):List Deed:=((pool.filter λ c => !has S.ds c && decide (Yl c<5)).map Deed.birth++(pool.filter λ c => !has S.ds c).map Deed.death)++(if tm>0 then [.years tm] else [])
structure Told (S0:Mo)(tm:Int)(rs:List Rw):Prop where
  su:∀ r∈rs,Sr S0 r.h r.ts r.ss tm
  ou:∀ r∈rs,r.os=r.h.out S0
  tl:∀ r∈rs,r.ts.length<=6
structure Lv (H:Hp)(m lr lp lc:Addr)(RM:List Addr)(S0 S:Mo)(tm:Int)(rs:List Rw)(pool:List Str)(cs:List Int)(i:Nat):Prop where
  mo:Ys H m S RM
  rw:RowsAt H lr rs
  po:H lp=some (.lst (pool.map V.str))
  ce:H lc=some (.lst (cs.map V.int))
  nc:lc∉RM
  td:Told S0 tm rs
  af:Aft S0 S
  w0:Wf S0.bs S0.ds
  ok:S.Ok i
  da:Dated S
  kb:Kb S
  kn:∀ c∈pool,has S.bs c=true
  nd:pool.Nodup
section
variable {H H':Hp}{m lr lp lc:Addr}{RM:List Addr}{S0 S:Mo}{tm:Int}{rs:List Rw}{pool:List Str}{cs:List Int}{i:Nat}
end
theorem DeedsAt.onR {H:Hp}{l:Addr}{ds:List Deed}{ps:List Addr}(D:DeedsAt H l ds ps){i:Nat}{v:V}(h:(ps.map V.ref)[i]? = some v):∃ p d,v = .ref p/\ds[i]? = some d/\H p=some (.tup d.vals):=by
  rw[getElem?_map]at h;cases e:ps[i]? with
  |none=>rw[e]at h;cases h
  |some p=>
    rw[e]at h;cases h;have hi:i<ds.length:=by rw[<- D.len];exact(List.getElem?_eq_some_iff.mp e).1
    exact⟨p,ds[i],rfl,getElem?_eq_getElem hi,D.at_ i p _ e (getElem?_eq_getElem hi)⟩
end L2
namespace L2
open PySem PySem.Spec
noncomputable def hgs (S:Mo)(t:Atm):Bool:=decide (t.stand S=("hangs":Str))
noncomputable def hgL (S:Mo)(ts:List Atm):List V:=ts.map λ t=>V.bl (hgs S t)
noncomputable def Deed.short:Deed->Prop
  |.years k=>k=1
  |_=>True
theorem Mo.Ok.years {S:Mo}{k:Nat}{j:Int}(O:S.Ok k):(S.step (.years j)).Ok k:=⟨O.wf,O.cw,O.lb,O.ld,O.lc⟩
noncomputable def Singles (d:Deed)(ds:List Deed):Prop:=(∃ k:Nat,d = .years k/\ds=List.replicate k (.years 1))\/((∀ k,d ≠ .years k)/\ds=[d])
structure HX (H:Hp)(lw lh:Addr)(S:Mo)(xs:List Atm×List Addr)(RX:List Addr):Prop where
  at_:AtmsAt H lw xs.1 xs.2
  hg:H lh=some (.lst (hgL S xs.1))
  ne:lh≠lw
  ok:∀ t∈xs.1,t.ok S
  few:xs.1.length<=6
  rx:RX=lw::lh::xs.2
  dat:Dated S
section
variable {H H':Hp}{lw lh:Addr}{S:Mo}{xs:List Atm×List Addr}{RX X:List Addr}
end
open PySem PySem.Spec
theorem Mo.Ok.up {S:Mo}{k j:Nat}(O:S.Ok k)(h:k<=j):S.Ok j:=⟨O.wf,O.cw,le_trans O.lb h,le_trans O.ld h,le_trans O.lc h⟩
noncomputable def wl (k:Nat):Nat:=if k=0 then 0 else if k<=7 then 4 else 6
section
variable {H H':Hp}{lw lh:Addr}{S:Mo}{xs:List Atm×List Addr}{RX X R R' RM:List Addr}
end
end L2
namespace L2
open PySem PySem.Spec
theorem sto_ok {S:Mo}{h:Ho}{ts:List Atm}{F tm:Int}:∀ d∈Zbi S h ts F tm,(∃ k,d = .years k/\1<=k/\k<=60)\/(∃ n,d = .birth n)\/∃ n,d = .death n:=by
  intro d hd;have yr':∀ n,d∈(ydl n).map Deed.years->∃ k,d = .years k/\1<=k/\k<=60:=λ n z=>by
    obtain⟨k,h1,rfl⟩:=List.mem_map.mp z;exact⟨k,rfl,ZhU n n (le_refl _) k h1⟩
  rcases List.mem_append.mp hd with hd|hd
  . rcases List.mem_append.mp hd with hd|hd
    . rcases List.mem_append.mp hd with hd|hd
      . exact .inl (yr' _ hd)
      . unfold Y0 at hd;obtain⟨q,_,h2⟩:=List.mem_flatMap.mp hd;exact .inr (.inl ⟨q.1,List.eq_of_mem_replicate h2⟩)
    . unfold Zbd at hd;obtain⟨q,_,rfl⟩:=List.mem_map.mp hd;exact .inr (.inr ⟨q.1,rfl⟩)
  . exact .inl (yr' _ hd)
theorem Znx {S:Mo}{h:Ho}{ts:List Atm}{F tm:Int}(D:Dated S)(W:Wf S.bs S.ds)(hl:S.bs.length<=98)(oh:h.ok S)(ok:∀ t∈ts,t.ok S)(tl:ts.length<=20)(htm:tm<=100)(e:ZcD S h ts F):(Zbi S h ts F tm).length<=4000:=by
 have f:=ZfL D oh ok W e;have y1:=Zdw (F - S.y).toNat (F - S.y).toNat (le_refl _);have y2:=Zdw tm.toNat tm.toNat (le_refl _);have mo:=ZiN (S:=S) (prs S h ts) [] (λ _ z=>by cases z) (Zie W hl oh ok);have ml:=ZgU (prs S h ts) [];have pl:=Zd1 S h ts;have bl:(Y0 S (mst S h ts)).length<=(mst S h ts).length * 100:=Zg6 mo;have ml2:(mst S h ts).length<=22:=by show((prs S h ts).foldl Yh []).length<=22;simp only[List.length_nil,Nat.zero_add]at ml;omega
 have dl:(Zbd S).length<=98:=by unfold Zbd;rw[length_map];exact le_trans (length_filter_le _ _) hl
 unfold Zbi;rw[length_append,length_append,length_append,length_map,length_map];omega
end L2
namespace L2
open PySem PySem.Spec
noncomputable def XR (S:Mo):List Deed->Prop
  |[]=>S.Ok 90/\Dated S
  |d::r=>(S.Ok 90/\Dated S)/\S.good 60 d/\XR (S.step d) r
theorem XR.app:∀ {a b:List Deed} {S:Mo},XR S a->XR (Zv S a) b->XR S (a++b)
  |[],_,_,_,h=>h
  |d::r,b,S,h1,h2=>⟨h1.1,h1.2.1,XR.app (a:=r) h1.2.2 h2⟩
theorem XR.last:∀ {ds:List Deed} {S:Mo},XR S ds->(Zv S ds).Ok 90/\Dated (Zv S ds)
  |[],_,h=>h
  |d::r,S,h=>XR.last (ds:=r) (S:=S.step d) h.2.2
theorem XR.at_:∀ {ds:List Deed} {S:Mo} {i:Nat} {d:Deed},XR S ds->ds[i]? = some d->(Zv S (ds.take i)).Ok 90/\Dated (Zv S (ds.take i))/\(Zv S (ds.take i)).good 60 d
  |[],_,_,_,_,h=>by cases h
  |e::r,S,0,d,h,h2=>by cases h2;exact⟨h.1.1,h.1.2,h.2.1⟩
  |e::r,S,i+1,d,h,h2=>XR.at_ (ds:=r) (S:=S.step e) (i:=i) h.2.2 h2
theorem XR.aft:∀ {ds:List Deed} {S0 S:Mo},Aft S0 S->XR S ds->Aft S0 (Zv S ds)
  |[],_,_,A,_=>A
  |d::r,S0,S,A,h=>XR.aft (ds:=r) (A.step h.1.1 h.1.2 (by decide) h.2.1) h.2.2
theorem ZdZ (S:Mo)(a b:List Deed):Zv S (a++b)=Zv (Zv S a) b:=List.foldl_append ..
theorem Mo.Ok.low {S:Mo}{k j:Nat}(O:S.Ok k)(h1:S.bs.length<=j)(h2:S.ds.length<=j)(h3:S.cs.length<=j):S.Ok j:=⟨O.wf,O.cw,h1,h2,h3⟩
theorem Zdk:∀(l:List Int)(S:Mo),S.Ok 90->Dated S->(∀ x∈l,1<=x/\x<=60)->XR S (l.map Deed.years)/\Zv S (l.map Deed.years) = { S with y:=S.y+l.sum }
  |[],S,O,D,_=>⟨⟨O,D⟩,by show S=_;rw[List.sum_nil,Int.add_zero]⟩
  | x::r,S,O,D,h=>by
    have hx:S.good 60 (.years x):=h x (by simp);obtain⟨z1,z2⟩:=Zdk r (S.step (.years x)) O.years (D.step hx) (λ y hy=>h y (by simp[hy]));refine⟨⟨⟨O,D⟩,hx,z1⟩,?_⟩;show Zv (S.step (.years x)) (r.map Deed.years)=_;rw[z2];show Mo.mk (S.y+x+r.sum) S.bs S.ds S.cs=Mo.mk (S.y+(x::r).sum) S.bs S.ds S.cs;rw[List.sum_cons,Int.add_assoc]
theorem ZhT:∀(k n:Nat),n<=k->(ydl n).sum=(n:Int)
  |_,0,_=>by rw[ydl];rfl
  |0,n+1,h=>by omega
  | k+1,n+1,h=>by
    rw[ZfE (by omega),List.sum_cons,ZhT k (n+1 - 60) (by omega)];split <;> omega
structure Bt (S T:Mo)(F:Int):Prop where
  ok:T.Ok 90
  dt:Dated T
  y:T.y=F
  ds:T.ds=S.ds
  cs:T.cs=S.cs
  old:∀ n y,yr S.bs n=some y->yr T.bs n=some y
  new:∀ n,has S.bs n=false->has T.bs n=true->yr T.bs n=some F/\∃ p i,n=kid p i/\has S.bs p=true
section
variable {S T:Mo}{F:Int}{p:Str}
theorem Bt.birth (B:Bt S T F)(hp:al S.bs S.ds p=true)(hd:Yl p<5)(hl:T.bs.length+1<=90):T.good 60 (.birth p)/\Bt S (T.step (.birth p)) F/\(∀ m,nk (T.step (.birth p)).bs m=if m=p then nk T.bs p+1 else nk T.bs m)/\(T.step (.birth p)).bs.length=T.bs.length+1:=by
  unfold al at hp;rw[and_eq_true]at hp;obtain⟨y,ey⟩:=XD hp.1;have hb:=JI (B.old p y ey);have g:T.good 60 (.birth p):=⟨hb,by rw[B.ds];simpa using hp.2,hd⟩;have len:(T.step (.birth p)).bs.length=T.bs.length+1:=by show(T.bs++[_]).length=_;simp
  refine⟨g,⟨(B.ok.step g (by decide)).low (by omega) B.ok.ld B.ok.lc,B.dt.step g,B.y,B.ds,B.cs,λ n z e=>ZaE (B.old n z e),λ n h1 h2=>?_⟩,λ m=>Zcp B.ok.wf (by have:=B.ok.lb;omega) m,len⟩
  by_cases c:kid p (nk T.bs p)=n
  . have hn:=B.ok.wf.no_kid p;rw[<- c];refine⟨?_,p,_,rfl,hp.1⟩;show yr (T.bs++[(kid p (nk T.bs p),T.y)]) _=_;rw[ZaF hn,B.y]
  . have e:yr (T.step (.birth p)).bs n=yr T.bs n:=XE c;have h3:has T.bs n=true:=by unfold has at h2 ⊢;rw[e]at h2;exact h2
    obtain⟨z1,z2⟩:=B.new n h1 h3;exact⟨by rw[e];exact z1,z2⟩
theorem Bt.reps (hp:al S.bs S.ds p=true)(hd:Yl p<5):∀(c:Nat){T:Mo},Bt S T F->T.bs.length+c<=90->XR T (List.replicate c (Deed.birth p))/\Bt S (Zv T (List.replicate c (Deed.birth p))) F/\nk (Zv T (List.replicate c (Deed.birth p))).bs p=nk T.bs p+c/\(∀ m,nk T.bs m<=nk (Zv T (List.replicate c (Deed.birth p))).bs m)/\(Zv T (List.replicate c (Deed.birth p))).bs.length=T.bs.length+c
  |0,T,B,_=>⟨⟨B.ok,B.dt⟩,B,rfl,λ _=>le_refl _,rfl⟩
  | c+1,T,B,hl=>by
    obtain⟨g,B1,k1,l1⟩:=B.birth hp hd (by omega);obtain⟨z1,z2,z3,z4,z5⟩:=Bt.reps hp hd c B1 (by omega);rw[replicate_succ];refine⟨⟨⟨B.ok,B.dt⟩,g,z1⟩,z2,?_,λ m=>?_,?_⟩
    . show nk (Zv (T.step (.birth p)) _).bs p=_;rw[z3,k1 p,if_pos rfl];omega
    . refine le_trans ?_ (z4 m);rw[k1 m];split
      . rename_i e;rw[e];omega
      . exact le_refl _
    . show(Zv (T.step (.birth p)) _).bs.length=_;rw[z5,l1];omega
theorem Bt.all_:∀(m:List (Str×Int)){T:Mo},Bt S T F->(∀ n,nk S.bs n<=nk T.bs n)->(∀ q∈m,al S.bs S.ds q.1=true/\Yl q.1<5)->T.bs.length+(Y0 S m).length<=90->XR T (Y0 S m)/\Bt S (Zv T (Y0 S m)) F/\(∀ n,nk T.bs n<=nk (Zv T (Y0 S m)).bs n)/\∀ q∈m,q.2<=(nk (Zv T (Y0 S m)).bs q.1:Int)
  |[],T,B,_,_,_=>⟨⟨B.ok,B.dt⟩,B,λ _=>le_refl _,λ q hq=>by cases hq⟩
  | q::m,T,B,hk,h,hl=>by
    have e:Y0 S (q::m)=List.replicate (q.2 - (nk S.bs q.1:Int)).toNat (Deed.birth q.1)++Y0 S m:=by unfold Y0;rw[List.flatMap_cons]
    rw[e,length_append,length_replicate]at hl;obtain⟨a,d⟩:=h q (by simp);obtain⟨z1,z2,z3,z4,z5⟩:=Bt.reps a d _ B (show T.bs.length+(q.2 - (nk S.bs q.1:Int)).toNat<=90 by omega);obtain⟨y1,y2,y3,y4⟩:=Bt.all_ m z2 (λ n=>le_trans (hk n) (z4 n)) (λ r hr=>h r (by simp[hr])) (by rw[z5];omega);rw[e,ZdZ];refine⟨z1.app y1,y2,λ n=>le_trans (z4 n) (y3 n),λ r hr=>?_⟩;rcases List.mem_cons.mp hr with rfl|hr
    . have:=y3 r.1;rw[z3]at this;have:=hk r.1;omega
    . exact y4 r hr
theorem Zfg:∀(l:List Str)(T:Mo),T.Ok 90->Dated T->l.Nodup->(∀ n∈l,has T.bs n=true/\has T.ds n=false)->T.ds.length+l.length<=90->XR T (l.map Deed.death)/\Zv T (l.map Deed.death) = { T with ds:=T.ds++l.map λ n=>(n,T.y) }
  |[],T,O,D,_,_,_=>⟨⟨O,D⟩,by show T=_;rw[map_nil,append_nil]⟩
  | x::r,T,O,D,nd,h,hl=>by
    have g:T.good 60 (.death x):=h x (by simp);rw[length_cons]at hl;rw[List.nodup_cons]at nd;have l1:(T.step (.death x)).ds.length=T.ds.length+1:=by show(T.ds++[_]).length=_;simp
    obtain⟨z1,z2⟩:=Zfg r (T.step (.death x)) ((O.step g (by decide)).low O.lb (by omega) O.lc) (D.step g) nd.2 (λ n hn=>⟨(h n (by simp[hn])).1,by
      show has (T.ds++[(x,T.y)]) n=false;rw[ZV,(h n (by simp[hn])).2,Bool.false_or];exact decide_eq_false λ e=>nd.1 (by rw[e];exact hn)⟩) (by omega)
    refine⟨⟨⟨O,D⟩,g,z1⟩,?_⟩;show Zv (T.step (.death x)) (r.map Deed.death)=_;rw[z2];show Mo.mk T.y T.bs ((T.ds++[(x,T.y)])++r.map λ n=>(n,T.y)) T.cs=_;rw[append_assoc];rfl
theorem ZkB (l:List (Str×Int))(L:List Str)(F:Int)(n:Str):yr (l++L.map λ n=>(n,F)) n=(yr l n).or (if n∈L then some F else none):=by
  have e2:yr (L.map λ n=>(n,F)) n=if n∈L then some F else none:=by
    induction L with
    |nil=>rfl
    |cons x r ih=>
      unfold yr at ih ⊢;rw[map_cons,find?_cons]
      by_cases c:x=n
      . rw[decide_eq_true c,if_pos (by rw[c];simp)];rfl
      . rw[decide_eq_false c];rw[ih]
        by_cases c2:n∈r
        . rw[if_pos c2,if_pos (by simp[c2])]
        . rw[if_neg c2,if_neg (by simp[c2];exact λ z=>c z.symm)]
  rw[<- e2];unfold yr;rw[List.find?_append];cases List.find? (λ p=>decide (p.1=n)) l <;> rfl
end
structure Ende (S T:Mo)(F tm:Int):Prop where
  a:Aft S T
  w:Wf T.bs T.ds
  y:T.y=F+tm
  cs:T.cs=S.cs
  dl:∀ n,al S.bs S.ds n=true->yr T.ds n=some F
  dn:∀ n,has T.ds n=true->has S.bs n=true
  new:∀ n,has S.bs n=false->has T.bs n=true->yr T.bs n=some F/\∃ p i,n=kid p i/\has S.bs p=true
section
theorem ZmW:∀ k∈List.range 99,iv (ts (k+1))=(k:Int)+1:=by decide +kernel
variable {S T:Mo}{F tm:Int}{n:Str}{h:Ho}{ts:List Atm}
theorem Zkv {p:Str}{i:Nat}(hi:i<99)(hp:has S.bs p=true)(pp:pok p=true)(hn:has S.bs (kid p i)=false):nr S.bs (kid p i)=p/\ctn S (kid p i)=(i:Int)+1:=by
 have e:nr S.bs (kid p i)=p:=by rw[YT,if_neg (by rw[hn];decide),Z2 (ZF pp) hp]
 refine⟨e,?_⟩;unfold ctn;rw[e];unfold pvl;rw[List.getElem?_cons_succ,Zco,map_append,getElem?_append_right (by rw[length_map,Y5];exact le_refl _),length_map,Y5,sub_self];exact ZmW i (List.mem_range.mpr hi)
theorem Zni {p:Str}{i:Nat}(W:Wf S.bs S.ds)(pp:pok p=true)(hp:has S.bs p=false)(on:okN S (kid p i))(hn:has S.bs (kid p i)=false):nr S.bs (kid p i)=nr S.bs p/\ctn S (kid p i)=ctn S p/\okN S p:=by
 have e:nr S.bs (kid p i)=nr S.bs p:=by rw[YT,if_neg (by rw[hn];decide)]
 have o:okN S p:=⟨pp,by rw[<- e];exact on.2⟩;refine⟨e,?_,o⟩;have hd:=Zd8 W p.length p (le_refl _) pp hp o.2;rw[Y5 p]at hd;unfold ctn;rw[e];unfold pvl;rw[List.getElem?_cons_succ,List.getElem?_cons_succ,Zco,map_append,getElem?_append_left (by rw[length_map];exact hd)]
theorem Ende.near (E:Ende S T F tm)(W:Wf S.bs S.ds):∀(k:Nat)(n:Str),n.length<=k->okN S n->has S.bs n=false->ctn S n<=(nk T.bs (nr S.bs n):Int)->al T.bs T.ds (nr T.bs n)=true/\(Yv S n=1->has T.bs n=true):=by
  intro k
  induction k with
  |zero=>intro n hk on;exact absurd (by omega) (ZF on.1)
  |succ k ih=>
    intro n hk on hn hc;have alv:∀ x,has S.bs x=false->has T.bs x=true->al T.bs T.ds x=true:=λ x h1 h2=>by
      rw[YR h2];cases e:has T.ds x with
      |false=>rfl
      |true=>rw[E.dn x e]at h1;cases h1
    rcases Jm on.1 with hg|⟨p,i,hi,rfl,pp,hd⟩
    . exact absurd (ZgJ hg hn) on.2
    . cases hp:has S.bs p with
      |true=>
        obtain⟨e1,e2⟩:=Zkv hi hp pp hn;rw[e1,e2]at hc;have ht:has T.bs (kid p i)=true:=(E.w.cnt p i (by omega)).mpr (by omega);refine⟨?_,λ _=>ht⟩;rw[Z2 (ZF on.1) ht];exact alv _ hn ht
      |false=>
        obtain⟨e1,e2,o⟩:=Zni W pp hp on hn;rw[e1,e2]at hc;have:=Zbh (Zcq p i);rw[ZhY]at this;obtain⟨z,_⟩:=ih p (by omega) o hp hc;refine⟨?_,λ e=>?_⟩
        . rw[YT];split
          . rename_i ht;exact alv _ hn ht
          . exact z
        . exfalso;have:=Zd8 W p.length p (le_refl _) pp hp o.2;unfold Yv at e;rw[e1,Zed]at e;omega
theorem Ende.far (E:Ende S T F tm)(W:Wf S.bs S.ds)(on:okN S n)(hn:has S.bs n=false)(ha:Yv S n≠1):has T.bs n=false:=by
  cases e:has T.bs n with
  |false=>rfl
  |true=>
    obtain⟨_,p,i,rfl,hp⟩:=E.new n hn e;exfalso;have pp:=W.wrt p hp;apply ha;unfold Yv;rw[YT,if_neg (by rw[hn];decide),Z2 (ZF pp) hp,Zed];omega
theorem YK:("hangs":Str)≠"failed":=by decide +kernel
theorem Jl:("met":Str)≠"failed":=by decide +kernel
theorem ZaG (h:al T.bs T.ds (nr T.bs n)=true):ZX T n=("hangs":Str):=by unfold ZX;rw[if_pos h]
theorem Ende.atom (E:Ende S T F tm)(W:Wf S.bs S.ds)(tm0:0<=tm){t:Atm}(ok:t.ok S)(hs:t.stand S=("hangs":Str))(hF:∀ n a,t = .age n a->al S.bs S.ds n=true->Xf S n+a<=F)(hc:∀ n,t.who=some n->has S.bs n=false->ctn S n<=(nk T.bs (nr S.bs n):Int)):t.stand T≠("failed":Str)/\(XO S F tm t=true->t.stand T=("hangs":Str)):=by
  cases t with
  |year y=>
    rw[Zh0,E.y];refine⟨by split;exact Jl;exact YK,λ hl=>?_⟩;have:F+tm<y:=of_decide_eq_true hl;rw[if_neg (by omega)]
  |comes w=>
    rw[Zbj]at hs ⊢;rw[E.cs,hs];exact⟨YK,λ _=>rfl⟩
  |born n=>
    have on:okN S n:=ok;have hn:has S.bs n=false:=by
      rw[ZdA]at hs;cases e:has S.bs n with
      |false=>rfl
      |true=>rw[if_pos e]at hs;exact absurd hs Zaz
    obtain⟨z1,z2⟩:=E.near W n.length n (le_refl _) on hn (hc n rfl hn);have e:(Atm.born n).stand T=if has T.bs n=true then ("met":Str) else ("hangs":Str):=by rw[ZdA,ZaG z1]
    rw[e];refine⟨by split;exact Jl;exact YK,λ hl=>?_⟩;have hl:(if Yv S n=1 then false else decide (Yv S n>1))=true:=hl
    by_cases c:Yv S n=1
    . rw[if_pos c]at hl;cases hl
    . rw[E.far W on hn c];rfl
  |dead n=>
    have on:okN S n:=ok;cases hn:has S.bs n with
    |true=>
      have hk:=E.a.hb hn;have hd:has S.ds n=false:=by
        rw[Y3,if_pos hn]at hs;cases e:has S.ds n with
        |false=>rfl
        |true=>rw[if_pos e]at hs;exact absurd hs Zaz
      have:=E.dl n (by rw[YR hn,hd];rfl);rw[Y3,if_pos hk,if_pos (JI this)];refine⟨Jl,λ hl=>?_⟩;have e:Yv S n=0:=by unfold Yv;rw[Z2 (ZF on.1) hn];omega
      have hl:(if Yv S n=1 then true else decide (Yv S n>1))=true:=hl;rw[e]at hl;cases hl
    |false=>
      obtain⟨z1,z2⟩:=E.near W n.length n (le_refl _) on hn (hc n rfl hn);have e:(Atm.dead n).stand T=("hangs":Str):=by
        rw[Y3,ZaG z1];cases e:has T.bs n with
        |false=>rfl
        |true=>
          rw[if_pos rfl];cases e2:has T.ds n with
          |false=>rfl
          |true=>rw[E.dn n e2]at hn;cases hn
      rw[e];exact⟨YK,λ _=>rfl⟩
  |age n a=>
    have on:okN S n:=ok.1;cases hn:has S.bs n with
    |true=>
      have hk:=E.a.hb hn;have hal:al S.bs S.ds n=true:=by
        have z:=ZkZ (t:=.age n a) rfl ok hs;rw[Z2 (ZF on.1) hn]at z;exact z
      have hd:=E.dl n hal;have m:(Atm.age n a).stand T=("met":Str):=by
        rw[ZiY E.w hk,Zch hd,E.a.born hn];have:=hF n a rfl hal;omega
      rw[m];refine⟨Jl,λ hl=>?_⟩;have e:Yv S n=0:=by unfold Yv;rw[Z2 (ZF on.1) hn];omega
      have hl:(if Yv S n=1 then decide (a>tm) else decide (Yv S n>1))=true:=hl;rw[e]at hl;cases hl
    |false=>
      obtain⟨z1,z2⟩:=E.near W n.length n (le_refl _) on hn (hc n rfl hn);cases e:yr T.bs n with
      |none=>
        have:(Atm.age n a).stand T=("hangs":Str):=by
          show(match yr T.bs n with|some y=>YC T n y a|none=>ZX T n)=_;rw[e];exact ZaG z1
        rw[this];exact⟨YK,λ _=>rfl⟩
      |some y=>
        have ey:=(E.new n hn (JI e)).1;rw[e]at ey;cases ey;have nd:has T.ds n=false:=by
          cases e2:has T.ds n with
          |false=>rfl
          |true=>rw[E.dn n e2]at hn;cases hn
        rw[YS e];unfold YC Xs;rw[nd,Xb nd,Option.getD_none,E.y];refine⟨by split;exact Jl;exact YK,λ hl=>?_⟩;have hl:(if Yv S n=1 then decide (a>tm) else decide (Yv S n>1))=true:=hl
        by_cases c:Yv S n=1
        . rw[if_pos c]at hl;have:=of_decide_eq_true hl;rw[if_neg (by omega)];rfl
        . rw[E.far W on hn c |> Xb]at e;cases e
theorem ZiT {a:Int}{os:List Str}{c:Str}(hm:c∈YI T n os)(hs:a<=Xp T c):clS T n a os≠("failed":Str):=by
  have e:Ye T n a os=true:=List.any_eq_true.mpr ⟨c,hm,decide_eq_true hs⟩;unfold clS;rw[e];split
  . exact YK
  . exact Jl
theorem Ende.cls (E:Ende S T F tm)(W:Wf S.bs S.ds)(D:Dated S)(tm0:0<=tm)(SF:S.y<=F){a:Int}(on:okN S n)(hs:clS S n a (Z5 S n)≠("failed":Str))(hF:Zho S n a F\/∃ e,Zho S n a e/\e<=F)(hc:has S.bs n=false->ctn S n<=(nk T.bs (nr S.bs n):Int))(hk:al S.bs S.ds n=true->nk S.bs n+1<=nk T.bs n):clS T n a (Z5 S n)≠("failed":Str)/\(Zdu S tm (.kids n a)=true->clS T n a (Z5 S n)=("hangs":Str)):=by
  have key:al T.bs T.ds (nr T.bs n)=true->clS T n a (Z5 S n)≠("failed":Str)/\(Zdu S tm (.kids n a)=true->clS T n a (Z5 S n)=("hangs":Str)):=λ z=>by
    have e:clS T n a (Z5 S n)=("hangs":Str):=by unfold clS;rw[z,Bool.true_or,if_pos rfl]
    exact⟨by rw[e];exact YK,λ _=>e⟩
  cases hn:has S.bs n with
  |false=>exact key (E.near W n.length n (le_refl _) on hn (hc hn)).1
  |true=>
    have hl0:Zdu S tm (.kids n a)=(al S.bs S.ds n && decide (a>tm)):=by
      show(if has S.bs n=false then true else al S.bs S.ds n && decide (a>tm))=_;rw[if_neg (by rw[hn];decide)]
    cases hd:has S.ds n with
    |false=>
      have hal:al S.bs S.ds n=true:=by rw[YR hn,hd];rfl
      have hk:=hk hal;have nokid:=W.no_kid n;have nl:=W.few n;have lim:=W.lim;have kb:has T.bs (kid n (nk S.bs n))=true:=(E.w.cnt n _ (by omega)).mpr (by omega);have kin:kid n (nk S.bs n)∈Yd T n:=by
        unfold Yd kidL;exact List.mem_map.mpr ⟨nk S.bs n,List.mem_range.mpr (by omega),rfl⟩
      have kno:kid n (nk S.bs n)∉Z5 S n:=λ z=>by rw[Z4 W (Zmv z)]at nokid;cases nokid
      have km:kid n (nk S.bs n)∈YI T n (Z5 S n):=List.mem_filter.mpr ⟨kin,by rw[decide_eq_false kno];rfl⟩;have ey:=(E.new _ nokid kb).1;have kd:has T.ds (kid n (nk S.bs n))=false:=by
        cases e2:has T.ds (kid n (nk S.bs n)) with
        |false=>rfl
        |true=>rw[E.dn _ e2]at nokid;cases nokid
      have ag:Xp T (kid n (nk S.bs n))=tm:=by rw[ZjW kd,Zeh ey,E.y];omega
      by_cases c:a<=tm
      . refine⟨ZiT km (by rw[ag];exact c),λ hl=>?_⟩;rw[hl0,and_eq_true]at hl;have:=of_decide_eq_true hl.2;omega
      . have e:clS T n a (Z5 S n)=("hangs":Str):=by
          have wi:kid n (nk S.bs n)∈ZH T n a (Z5 S n):=List.mem_filter.mpr ⟨km,by rw[ag,decide_eq_false c,kd];rfl⟩;unfold clS;cases e:ZH T n a (Z5 S n) with
          |nil=>rw[e]at wi;cases wi
          |cons x r=>rw[show(!(x::r).isEmpty)=true from rfl,Bool.or_true,if_pos rfl]
        exact⟨by rw[e];exact YK,λ _=>e⟩
    |true=>
      have hal:al S.bs S.ds n=false:=by rw[YR hn,hd];rfl
      refine⟨?_,λ hl=>by rw[hl0,hal]at hl;cases hl⟩;have mem:=ZlK (os:=Z5 S n) E.a hd;have born:∀ c∈YI S n (Z5 S n),Xf T c=Xf S c:=λ c hc=>E.a.born (Z4 W (YQ hc));cases hseat:Ye S n a (Z5 S n) with
      |true=>
        obtain⟨c,m1,m2⟩:=List.any_eq_true.mp hseat;have m2:=of_decide_eq_true m2;refine ZiT (by rw[mem];exact m1) ?_;have kc:=Z4 W (YQ m1);cases hdc:has S.ds c with
        |true=>
          obtain⟨d,ed⟩:=XD hdc;rw[Zch (E.a.d c d ed),born c m1];rw[Zch ed]at m2;exact m2
        |false=>
          rw[Zch (E.dl c (by rw[YR kc,hdc];rfl)),born c m1];rw[ZjW hdc]at m2;omega
      |false=>
        have naln:al S.bs S.ds (nr S.bs n)=false:=by rw[Z2 (ZF on.1) hn];exact hal
        by_cases wn:ZH S n a (Z5 S n)=[]
        . exfalso;apply hs;unfold clS;rw[naln,wn,hseat];rfl
        . obtain⟨e,he,heF⟩:∃ e,Zho S n a e/\e<=F:=by
            rcases hF with z|z
            . exact⟨F,z,Int.le_refl _⟩
            . exact z
          obtain⟨b,h1,h2,rfl⟩:=he.2 (by rw[naln,hseat];rfl) wn;obtain⟨c,hc,rfl⟩:=List.mem_map.mp h1;have hm:=(List.mem_filter.mp hc).1;have hw:=(List.mem_filter.mp hc).2;rw[and_eq_true]at hw;refine ZiT (by rw[mem];exact hm) ?_;have kc:=Z4 W (YQ hm);rw[Zch (E.dl c (by rw[YR kc];exact hw.2)),born c hm];omega
theorem prs_at (hn:n∈Y1 S h ts)(hb:has S.bs n=false):(nr S.bs n,ctn S n)∈prs S h ts:=by
 unfold prs;refine mem_append_left _ (List.mem_map.mpr ⟨n,List.mem_filter.mpr ⟨hn,?_⟩,rfl⟩);rw[hb];rfl
theorem ZnF {a:Int}(hal:al S.bs S.ds n=true):(n,(nk S.bs n:Int)+1)∈prs S (.kids n a) ts:=by
 unfold prs;refine mem_append_right _ ?_;show _∈(if al S.bs S.ds n=true then [(n,(nk S.bs n:Int)+1)] else if has S.bs n=false then [(nr S.bs n,ctn S n)] else []);rw[if_pos hal];exact List.mem_singleton.mpr rfl
theorem ZnE {a:Int}(hb:has S.bs n=false):(nr S.bs n,ctn S n)∈prs S (.kids n a) ts:=by
 unfold prs;refine mem_append_right _ ?_;show _∈(if al S.bs S.ds n=true then [(n,(nk S.bs n:Int)+1)] else if has S.bs n=false then [(nr S.bs n,ctn S n)] else []);rw[if_neg (by unfold al;rw[hb,Bool.false_and];decide),if_pos hb];exact List.mem_singleton.mpr rfl
theorem Ende.hangs (E:Ende S T F tm)(W:Wf S.bs S.ds)(D:Dated S)(tm0:0<=tm)(oh:h.ok S)(ok:∀ t∈ts,t.ok S)(hF:ZcD S h ts F)(hw:whS S h ts (h.out S)=("hangs":Str))(hl:Za5 S h ts F tm=true)(hp:∀ q∈prs S h ts,q.2<=(nk T.bs q.1:Int)):whS T h ts (h.out S)=("hangs":Str):=by
  obtain⟨e,he,hm,hmax⟩:=hF;have SF:S.y<=F:=hmax _ (by simp);have eF:e<=F:=hmax _ (by simp);have okw:=Zdx oh ok;rw[wh_pl]at hw ⊢;obtain⟨nf,_⟩:=JV.mp hw;have ages:∀ t∈Zam h ts,∀ n a,t=Atm.age n a->al S.bs S.ds n=true->Xf S n+a<=F:=λ t ht n a et hal=>by
    subst et;have hin:Atm.age n a∈ts:=by
      cases h with
      |one m=>
        rcases List.mem_append.mp ht with z|z
        . exact z
        . cases List.mem_singleton.mp z
      |kids m b=>exact ht
    refine hmax _ (mem_cons_of_mem _ (mem_cons_of_mem _ ?_));unfold agL;exact List.mem_map.mpr ⟨_,List.mem_filter.mpr ⟨hin,hal⟩,rfl⟩
  have at_:∀ t∈Zam h ts,t.stand T≠("failed":Str)/\(t∈XZ S h ts->XO S F tm t=true->t.stand T=("hangs":Str)):=λ t ht=>by
    by_cases c:t.stand S=("hangs":Str)
    . have hin:=Zec.mpr ⟨ht,c⟩;obtain⟨z1,z2⟩:=E.atom W tm0 (okw t ht) c (ages t ht) (λ n hn hb=>hp (nr S.bs n,ctn S n) (prs_at (List.mem_filterMap.mpr ⟨t,hin,hn⟩) hb));exact⟨z1,λ _=>z2⟩
    . refine⟨?_,λ z=>absurd (Zec.mp z).2 c⟩;rw[E.a.st t (okw t ht) c];exact λ z=>nf (Zgm.mpr (.inl ⟨t,ht,z⟩))
  have cl_:∀ n a,h = .kids n a->clS T n a (h.out S)≠("failed":Str)/\(Zdu S tm h=true->clS T n a (h.out S)=("hangs":Str)):=λ n a eh=>by
    subst eh;refine E.cls W D tm0 SF oh.1 (λ z=>nf (Zgm.mpr (.inr ⟨n,a,rfl,z⟩))) (.inr ⟨e,he,eF⟩) (λ hb=>?_) (λ hal=>?_)
    . exact hp (nr S.bs n,ctn S n) (ZnE hb)
    . have z:(nk S.bs n:Int)+1<=(nk T.bs n:Int):=hp (n,(nk S.bs n:Int)+1) (ZnF hal);omega
  refine JV.mpr ⟨λ z=>?_,?_⟩
  . rcases Zgm.mp z with ⟨t,h1,h2⟩|⟨n,a,eh,h2⟩
    . exact(at_ t h1).1 h2
    . exact(cl_ n a eh).1 h2
  . unfold Za5 at hl;rw[or_eq_true,List.any_eq_true]at hl;rcases hl with ⟨t,h1,h2⟩|hl
    . exact Zgm.mpr (.inl ⟨t,(Zec.mp h1).1,(at_ t (Zec.mp h1).1).2 h1 h2⟩)
    . cases h with
      |one m=>cases hl
      |kids n a=>exact Zgm.mpr (.inr ⟨n,a,rfl,(cl_ n a rfl).2 hl⟩)
theorem ZkA (v:Int)(p n:Str):∀ m:List (Str×Int),yr (m.map λ q=>if q.1=p then (q.1,v) else q) n=if n=p then (if has m p=true then some v else none) else yr m n
  |[]=>by split <;> rfl
  | x::r=>by
    have ih:=ZkA v p n r;have key:(if x.1=p then (x.1,v) else x).1=x.1:=by split <;> rfl
    unfold has yr at ih ⊢;rw[map_cons,find?_cons,find?_cons,find?_cons,key]
    by_cases c:x.1=n
    . rw[decide_eq_true c]
      by_cases c2:n=p
      . rw[if_pos c2,if_pos (c.trans c2),decide_eq_true (c.trans c2)];rfl
      . rw[if_neg c2,if_neg (λ z=>c2 (c.symm.trans z))]
    . rw[decide_eq_false c];show Option.map _ (List.find? _ _)=_;rw[ih]
      by_cases c2:n=p
      . rw[if_pos c2,if_pos c2,decide_eq_false (λ z=>c (z.trans c2.symm))]
      . rw[if_neg c2,if_neg c2]
theorem Zkz (m:List (Str×Int))(p:Str)(v:Int)(n:Str):yr (Zhe m p v) n=if n=p then some v else yr m n:=by
  unfold Zhe
  by_cases c:has m p=true
  . rw[if_pos c,ZkA,c,if_pos rfl]
  . rw[if_neg c,Zek]
    by_cases e:n=p
    . subst e;rw[if_pos rfl,if_pos rfl,Xb (Bool.eq_false_iff.mpr c)];rfl
    . rw[if_neg e,if_neg (λ z=>e z.symm),Option.or_none]
theorem ZmH:∀(l m:List (Str×Int)),(∀ p v,yr m p=some v->∃ v',yr (l.foldl Yh m) p=some v'/\v<=v')/\∀ q∈l,∃ v',yr (l.foldl Yh m) q.1=some v'/\q.2<=v'
  |[],m=>⟨λ p v e=>⟨v,e,Int.le_refl _⟩,λ q hq=>by cases hq⟩
  | r::l,m=>by
    obtain⟨z1,z2⟩:=ZmH l (Yh m r);have st:∀ p v,yr m p=some v->∃ v',yr (Yh m r) p=some v'/\v<=v':=λ p v e=>by
      unfold Yh;rw[Zkz]
      by_cases c:p=r.1
      . rw[if_pos c];refine⟨_,rfl,?_⟩;rw[<- c,e];show v<=if v>r.2 then v else r.2
        split <;> omega
      . rw[if_neg c];exact⟨v,e,Int.le_refl _⟩
    have st2:∃ v',yr (Yh m r) r.1=some v'/\r.2<=v':=by
      unfold Yh;rw[Zkz,if_pos rfl];refine⟨_,rfl,?_⟩;split <;> omega
    refine⟨λ p v e=>?_,λ q hq=>?_⟩
    . obtain⟨v',e',h'⟩:=st p v e;obtain⟨v'',e'',h''⟩:=z1 p v' e';exact⟨v'',e'',by omega⟩
    . rcases List.mem_cons.mp hq with rfl|hq
      . obtain⟨v',e',h'⟩:=st2;obtain⟨v'',e'',h''⟩:=z1 _ v' e';exact⟨v'',e'',by omega⟩
      . exact z2 q hq
theorem ZkQ:∀(l m:List (Str×Int)),(∀ q∈l,0<=q.2)->∀ q∈l.foldl Yh m,q∈m\/q∈l
  |[],m,_,q,hq => .inl hq
  | r::l,m,h,q,hq=>by
    have h0:=h r (by simp);rcases ZkQ l (Yh m r) (λ x hx=>h x (by simp[hx])) q hq with z|z
    . have hv:∀ w,(if (yr m r.1).getD 0>r.2 then (yr m r.1).getD 0 else r.2)=w->(r.1,w)∈m\/(r.1,w)=r:=λ w e=>by
        cases ey:yr m r.1 with
        |none=>
          rw[ey,Option.getD_none,if_neg (by omega)]at e;right;rw[<- e]
        |some v=>
          rw[ey,Option.getD_some]at e;split at e
          . left;rw[<- e];exact ZjZ ey
          . right;rw[<- e]
      unfold Yh Zhe at z;split at z
      . obtain⟨x,h1,h2⟩:=List.mem_map.mp z
        by_cases c:x.1=r.1
        . rw[if_pos c,c]at h2;rcases hv _ rfl with g|g
          . left;rw[<- h2];exact g
          . right;rw[<- h2,g];simp
        . rw[if_neg c]at h2;left;rw[<- h2];exact h1
      . rcases List.mem_append.mp z with z|z
        . exact .inl z
        . rw[mem_singleton]at z;rcases hv _ rfl with g|g
          . left;rw[z];exact g
          . right;rw[z,g];simp
    . exact .inr (by simp[z])
theorem ZnQ (S:Mo)(h:Ho)(ts:List Atm):(mst S h ts).length<=ts.length+2:=by
  have:∀(l m:List (Str×Int)),(l.foldl Yh m).length<=m.length+l.length:=λ l=>by
    induction l with
    |nil=>exact λ m=>le_refl _
    |cons r l ih=>
      intro m;have:=ih (Yh m r);have:=ZeI m r;rw[foldl_cons,length_cons];omega
  have:=this (prs S h ts) [];have:=Zd1 S h ts;unfold mst;simp only[List.length_nil]at *;omega
theorem Zla {S:Mo}{c:Nat}:∀ m:List (Str×Int),(∀ q∈m,q.2<=(nk S.bs q.1:Int)+c)->(Y0 S m).length<=m.length * c
  |[],_=>zero_le _
  | q::m,h=>by
    have ih:=Zla m (λ x hx=>h x (by simp[hx]));have:=h q (by simp);have e:Y0 S (q::m)=List.replicate (q.2 - (nk S.bs q.1:Int)).toNat (Deed.birth q.1)++Y0 S m:=by unfold Y0;rw[List.flatMap_cons]
    rw[e,length_append,length_replicate,length_cons,Nat.succ_mul];omega
noncomputable def near8 (S:Mo)(n:Str):Prop:=has S.bs n=false->ctn S n<=(nk S.bs (nr S.bs n):Int)+8
structure Fit8 (S:Mo)(h:Ho)(ts:List Atm):Prop where
  ho:near8 S h.nm
  at_:∀ t∈ts,∀ n,t.who=some n->near8 S n
  dk:∀ n a,h = .kids n a->Yl n<5
theorem Zmp (hp:pok n=true):Yl n<=5:=by
 unfold pok at hp;rw[and_eq_true,and_eq_true]at hp;rw[Y5];exact of_decide_eq_true hp.1.2
theorem ZnG (W:Wf S.bs S.ds)(oh:h.ok S)(ok:∀ t∈ts,t.ok S)(hw:whS S h ts (h.out S)=("hangs":Str))(f:Fit8 S h ts):∀ q∈prs S h ts,(al S.bs S.ds q.1=true/\Yl q.1<5)/\q.2<=(nk S.bs q.1:Int)+8:=by
  have okw:=Zdx oh ok;have dn:∀ n,okN S n->has S.bs n=false->Yl (nr S.bs n)<5:=λ n on hb=>by
    have:=Zd8 W n.length n (le_refl _) on.1 hb on.2;have:=Zmp on.1;omega
  intro q hq;rcases List.mem_append.mp hq with hq|hq
  . obtain⟨n,h1,rfl⟩:=List.mem_map.mp hq;obtain⟨h1,h2⟩:=List.mem_filter.mp h1;have hb:has S.bs n=false:=by simpa using h2
    obtain⟨t,h3,h4⟩:=List.mem_filterMap.mp h1;obtain⟨h5,h6⟩:=Zec.mp h3;refine⟨⟨ZkZ h4 (okw t h5) h6,dn n (Atm.ok_who (okw t h5) h4) hb⟩,?_⟩;cases h with
    |one m=>
      rcases List.mem_append.mp h5 with z|z
      . exact f.at_ t z n h4 hb
      . rw[List.mem_singleton.mp z]at h4;cases h4;exact f.ho hb
    |kids m a=>exact f.at_ t h5 n h4 hb
  . cases h with
    |one m=>cases hq
    |kids n a=>
      have hq:q∈(if al S.bs S.ds n=true then [(n,(nk S.bs n:Int)+1)] else if has S.bs n=false then [(nr S.bs n,ctn S n)] else []):=hq
      by_cases c:al S.bs S.ds n=true
      . rw[if_pos c,mem_singleton]at hq;rw[hq];exact⟨⟨c,f.dk n a rfl⟩,by show(nk S.bs n:Int)+1<=(nk S.bs n:Int)+8;omega⟩
      . rw[if_neg c]at hq
        by_cases c2:has S.bs n=false
        . rw[if_pos c2,mem_singleton]at hq;rw[hq];refine⟨⟨?_,dn n oh.1 c2⟩,f.ho c2⟩;have nc:=(Zns.mp hw).2.1;have:=Znk (tm:=0) W oh.1 (by show(if has S.bs n=false then true else al S.bs S.ds n && decide (a>0))=true;rw[if_pos c2]) nc;cases ha:al S.bs S.ds (nr S.bs n) with
          |true=>rfl
          |false=>
            exfalso;have e1:ZH S n a (Z5 S n)=[]:=by unfold ZH YI;rw[XY W c2];rfl
            have e2:Ye S n a (Z5 S n)=false:=by unfold Ye YI;rw[XY W c2];rfl
            apply nc;show clS S n a (Z5 S n)=_;unfold clS;rw[ha,e1,e2];rfl
        . rw[if_neg c2]at hq;cases hq
theorem Zko (O:S.Ok 25)(D:Dated S)(tm0:0<=tm)(htm:tm<=100)(tl:ts.length<=6)(oh:h.ok S)(ok:∀ t∈ts,t.ok S)(hF:ZcD S h ts F)(hw:whS S h ts (h.out S)=("hangs":Str))(hl:Za5 S h ts F tm=true)(f:Fit8 S h ts) :
    XR S (Zbi S h ts F tm)/\Ende S (Zv S (Zbi S h ts F tm)) F tm/\whS (Zv S (Zbi S h ts F tm)) h ts (h.out S)=("hangs":Str):=by
  have W:=O.wf;have pf:=ZnG W oh ok hw f;have p0:=Zie W (by have:=O.lb;omega) oh ok;have SF:=ZfL D oh ok W hF;have msub:∀ q∈mst S h ts,q∈prs S h ts:=λ q hq=>(ZkQ (prs S h ts) [] (λ q hq=>(p0 q hq).2.1) q hq).elim (λ z=>by cases z) id;have bl:(Y0 S (mst S h ts)).length<=64:=by
    have:=Zla (c:=8) (mst S h ts) (λ q hq=>(pf q (msub q hq)).2);have:=ZnQ S h ts;omega
  have O90:S.Ok 90:=O.low (by have:=O.lb;omega) (by have:=O.ld;omega) (by have:=O.lc;omega);obtain⟨g1,e1⟩:=Zdk (ydl (F - S.y).toNat) S O90 D (ZhU _ _ (le_refl _));rw[ZhT _ _ (le_refl _)]at e1;have eF:S.y+((F - S.y).toNat:Int)=F:=by omega
  rw[eF]at e1;have D1:Dated (Zv S ((ydl (F - S.y).toNat).map Deed.years)):=by
    rw[e1];exact⟨λ n y e=>by have:=D.b n y e;show y<=F;omega,λ n y e=>by have:=D.d n y e;show y<=F;omega,λ n y e=>by have:=D.c n y e;show y<=F;omega⟩
  have B1:Bt S (Zv S ((ydl (F - S.y).toNat).map Deed.years)) F:=by
    rw[e1]at D1 ⊢;exact⟨O90.years (j:=0) |> λ z=>⟨z.wf,z.cw,z.lb,z.ld,z.lc⟩,D1,rfl,rfl,rfl,λ n y e=>e,λ n h1 h2=>by rw[show has _ n=has S.bs n from rfl,h1]at h2;cases h2⟩
  have b1:(Zv S ((ydl (F - S.y).toNat).map Deed.years)).bs=S.bs:=by rw[e1]
  generalize eT1:Zv S ((ydl (F - S.y).toNat).map Deed.years)=T1 at e1 D1 B1 b1;obtain⟨g2,B2,k2,m2⟩:=Bt.all_ (mst S h ts) B1 (λ n=>by rw[b1];exact le_refl _) (λ q hq=>(pf q (msub q hq)).1) (by rw[b1];have:=O.lb;omega);have kp:∀ q∈prs S h ts,q.2<=(nk (Zv T1 (Y0 S (mst S h ts))).bs q.1:Int):=λ q hq=>by
    obtain⟨v,ev,hv⟩:=(ZmH (prs S h ts) []).2 q hq;have z:v<=_:=m2 _ (ZjZ ev);have z:v<=(nk (Zv T1 (Y0 S (mst S h ts))).bs q.1:Int):=z;omega
  have r2:Zv S ((ydl (F - S.y).toNat).map Deed.years++Y0 S (mst S h ts))=Zv T1 (Y0 S (mst S h ts)):=by rw[ZdZ,eT1]
  have G2:=XR.app g1 (eT1▸g2);generalize Zv T1 (Y0 S (mst S h ts))=T2 at g2 B2 k2 m2 kp r2;have ndl:((S.bs.filter λ p => !has S.ds p.1).map (·.1)).Nodup:=(List.Sublist.map _ (List.filter_sublist ..)).nodup W.nod;have inl:∀ n,n∈(S.bs.filter λ p => !has S.ds p.1).map (·.1)↔al S.bs S.ds n=true:=λ n=>by
    unfold al;rw[mem_map,and_eq_true,ZgR];constructor
    . rintro⟨p,h1,rfl⟩;obtain⟨h1,h2⟩:=List.mem_filter.mp h1;exact⟨List.mem_map.mpr ⟨p,h1,rfl⟩,h2⟩
    . rintro⟨h1,h2⟩;obtain⟨p,h3,rfl⟩:=List.mem_map.mp h1;exact⟨p,List.mem_filter.mpr ⟨h3,h2⟩,rfl⟩
  have ed:Zbd S=((S.bs.filter λ p => !has S.ds p.1).map (·.1)).map Deed.death:=by unfold Zbd;rw[map_map];rfl
  have ll:((S.bs.filter λ p => !has S.ds p.1).map (·.1)).length<=25:=by rw[length_map];have:=length_filter_le (λ p => !has S.ds p.1) S.bs;have:=O.lb;omega
  generalize (S.bs.filter λ p => !has S.ds p.1).map (·.1)=L at ndl inl ed ll;obtain⟨g3,e3⟩:=Zfg L T2 B2.ok B2.dt ndl (λ n hn=>by
    have z:=(inl n).mp hn;unfold al at z;rw[and_eq_true]at z;obtain⟨y,ey⟩:=XD z.1;exact⟨JI (B2.old n y ey),by rw[B2.ds];simpa using z.2⟩) (by rw[B2.ds];have:=O.ld;omega)
  rw[<- ed]at g3 e3;have G3:=XR.app G2 (by rw[r2];exact g3);have r3:Zv S ((ydl (F - S.y).toNat).map Deed.years++Y0 S (mst S h ts)++Zbd S)=Zv T2 (Zbd S):=by rw[ZdZ,r2]
  have ok3:(Zv T2 (Zbd S)).Ok 90/\Dated (Zv T2 (Zbd S)):=XR.last g3;obtain⟨g4,e4⟩:=Zdk (ydl tm.toNat) (Zv T2 (Zbd S)) ok3.1 ok3.2 (ZhU _ _ (le_refl _));rw[ZhT _ _ (le_refl _)]at e4;have G4:XR S (Zbi S h ts F tm):=XR.app G3 (by rw[r3];exact g4);have r4:Zv S (Zbi S h ts F tm) = { Zv T2 (Zbd S) with y:=(Zv T2 (Zbd S)).y+(tm.toNat:Int) }:=by
    unfold Zbi;rw[ZdZ,r3,e4]
  have A:Aft S (Zv S (Zbi S h ts F tm)):=XR.aft (Aft.refl S) G4;rw[e3]at r4;have bsT:(Zv S (Zbi S h ts F tm)).bs=T2.bs:=by rw[r4]
  have dsT:(Zv S (Zbi S h ts F tm)).ds=S.ds++L.map λ n=>(n,F):=by rw[r4,<- B2.ds,<- B2.y]
  have E:Ende S (Zv S (Zbi S h ts F tm)) F tm:=by
    refine⟨A,(XR.last G4).1.wf,?_,?_,λ n hn=>?_,λ n hn=>?_,λ n h1 h2=>?_⟩
    . rw[r4];show T2.y+(tm.toNat:Int)=_;rw[B2.y];omega
    . rw[r4];exact B2.cs
    . rw[dsT,ZkB,if_pos ((inl n).mpr hn)];unfold al at hn;rw[and_eq_true]at hn;rw[Xb (show has S.ds n=false by simpa using hn.2)];rfl
    . unfold has at hn;rw[dsT,ZkB]at hn
      by_cases c:has S.ds n=true
      . exact W.sub n c
      . rw[Xb (Bool.eq_false_iff.mpr c)]at hn
        by_cases c2:n∈L
        . have z:=(inl n).mp c2;unfold al at z;rw[and_eq_true]at z;exact z.1
        . rw[if_neg c2]at hn;cases hn
    . rw[bsT]at h2 ⊢;exact B2.new n h1 h2
  exact⟨G4,E,E.hangs W D tm0 oh ok hF hw hl (by rw[bsT];exact kp)⟩
noncomputable def JF (S:Mo)(n:Str):Prop:=has S.bs n=false->ctn S n<=3
theorem JF.near8 {S:Mo}{n:Str}(h:JF S n):near8 S n:=λ e=>by have:=h e;omega
theorem JF.known {S:Mo}{n:Str}(h:has S.bs n=true):JF S n:=λ e=>by rw[h]at e;cases e
theorem JF.kid {S:Mo}{n:Str}{j:Nat}(W:Wf S.bs S.ds)(hp:pok n=true)(hn:nr S.bs n≠Str.empty)(h:JF S n)(hj:j<3):JF S (kid n j):=λ e=>by
  cases hb:has S.bs n with
  |true=>rw[(Zkv (by omega) hb hp e).2];omega
  |false=>
    by_cases hd:pok (L2.kid n j)=true
    . rw[(Zni W hp hb ⟨hd,by rw[YT,if_neg (by rw[e];decide)];exact hn⟩ e).2.1];exact h hb
    . have e1:nr S.bs (L2.kid n j)=nr S.bs n:=by rw[YT,if_neg (by rw[e];decide)]
      have hd:=Zd8 W n.length n (le_refl _) hp hb hn;have:=h hb;rw[Y5 n]at hd;unfold ctn at this ⊢;rw[e1];unfold pvl at this ⊢;rw[List.getElem?_cons_succ]at this ⊢;rw[Zco,map_append,getElem?_append_left (by rw[length_map];exact hd)];exact this
noncomputable def Atm.ok8 (S:Mo)(t:Atm):Prop:=t.ok S/\∀ n,t.who=some n->near8 S n
noncomputable def Ho.ok8 (S:Mo)(h:Ho):Prop:=h.ok S/\near8 S h.nm/\∀ n a,h = .kids n a->Yl n<5
theorem fit8 {S:Mo}{h:Ho}{ts:List Atm}(oh:h.ok8 S)(ok:∀ t∈ts,t.ok8 S):Fit8 S h ts:=⟨oh.2.1,λ t ht=>(ok t ht).2,oh.2.2⟩
theorem grand {S:Mo}{n:Str}{j:Nat}(W:Wf S.bs S.ds)(hl:S.bs.length<=25)(hn:has S.bs n=true)(hd:Yl n<4)(hj:j<8):okN S (L2.kid (L2.kid n (nk S.bs n+j)) 0)/\near8 S (L2.kid (L2.kid n (nk S.bs n+j)) 0):=by
  have pn:=W.wrt n hn;have nl:=W.few n;have p1:pok (L2.kid n (nk S.bs n+j))=true:=ZfG pn (by omega) (by omega);have p2:pok (L2.kid (L2.kid n (nk S.bs n+j)) 0)=true:=ZfG p1 (by rw[Zed];omega) (by omega);have h1:has S.bs (L2.kid n (nk S.bs n+j))=false:=by
    cases e:has S.bs (L2.kid n (nk S.bs n+j)) with
    |false=>rfl
    |true=>have:=(W.cnt n _ (by omega)).mp e;omega
  have h2:has S.bs (L2.kid (L2.kid n (nk S.bs n+j)) 0)=false:=by
    cases e:has S.bs (L2.kid (L2.kid n (nk S.bs n+j)) 0) with
    |false=>rfl
    |true=>rw[W.par _ _ e]at h1;cases h1
  obtain⟨e1,e2⟩:=Zkv (by omega) hn pn h1;have o1:okN S (L2.kid n (nk S.bs n+j)):=⟨p1,by rw[e1];exact λ z=>ZF pn (by rw[z];rfl)⟩;have e3:nr S.bs (L2.kid (L2.kid n (nk S.bs n+j)) 0)=nr S.bs (L2.kid n (nk S.bs n+j)):=by rw[YT,if_neg (by rw[h2];decide)]
  have o2:okN S (L2.kid (L2.kid n (nk S.bs n+j)) 0):=⟨p2,by rw[e3];exact o1.2⟩;refine⟨o2,λ _=>?_⟩;obtain⟨_,e4,_⟩:=Zni W p1 h1 o2 h2;rw[e4,e3,e1,e2];omega
end
theorem Zm3 {S:Mo}{d:Deed}{a b:Int}(h:S.good a d)(ab:a<=b):S.good b d:=by
  cases d with
  |years k=>exact⟨h.1,Int.le_trans h.2 ab⟩
  |arrive w a=>exact h
  |birth n=>exact h
  |death n=>exact h
  |comes w=>exact h
theorem First.seq {was:List (Str×Int)}(F:First was)(y:Int):∀ i,i<=was.length->Seq 60 (mo0 y) ((was.map arr).take i)/\(Zv (mo0 y) ((was.map arr).take i)).bs.map (·.1)=(was.take i).map (·.1)
  |0,_=>⟨trivial,rfl⟩
  | i+1,h=>by
    obtain⟨z1,z2⟩:=F.seq y i (by omega);obtain⟨g1,g2⟩:=F.good (i:=i) (by omega) z2 (far:=60);have e:(was.map arr)[i]? = some (arr was[i]):=by rw[getElem?_map,getElem?_eq_getElem (by omega)];rfl
    refine⟨?_,by rw[Zcl e];exact g2⟩;rw[take_succ,e];exact Seq.app z1 ⟨g1,trivial⟩
theorem Seq.ok {far:Int}:∀ {ds:List Deed} {S:Mo} {k:Nat},Seq far S ds->S.Ok k->Dated S->k+ds.length<=98->(Zv S ds).Ok (k+ds.length)/\Dated (Zv S ds)
  |[],_,_,_,O,D,_=>⟨O,D⟩
  | d::r,S,k,h,O,D,hl=>by
    rw[length_cons]at hl;have z:=Seq.ok (ds:=r) (S:=S.step d) (k:=k+1) h.2 (O.step h.1 (by omega)) (D.step h.1) (by omega);rw[show k+(d::r).length=k+1+r.length by rw[length_cons];omega];exact z
theorem Seq.ok0 {far y:Int}{ds:List Deed}(h:Seq far (mo0 y) ds)(hl:ds.length<=98):(Zv (mo0 y) ds).Ok ds.length/\Dated (Zv (mo0 y) ds):=by
 have z:=Seq.ok h (Mo.Ok.zero y) (Dated.zero y) (by omega);rw[Nat.zero_add]at z;exact z
theorem Seq.snoc {far:Int}{S:Mo}{ds:List Deed}{d:Deed}(h:Seq far S ds)(hg:(Zv S ds).good far d):Seq far S (ds++[d]):=Seq.app h ⟨hg,trivial⟩
theorem Zjh (S:Mo)(ds:List Deed)(d:Deed):Zv S (ds++[d])=(Zv S ds).step d:=ZdZ S ds [d]
theorem ZkT {bs ds:List (Str×Int)}{x:Str}(h:x∈ZgL bs ds):has bs x=true/\has ds x=false:=by
 unfold ZgL at h;obtain⟨p,h1,rfl⟩:=List.mem_map.mp h;obtain⟨h1,h2⟩:=List.mem_filter.mp h1;exact⟨(ZgR _ _).mpr (List.mem_map.mpr ⟨p,h1,rfl⟩),by simpa using h2⟩
theorem ix_mod (l:List Str)(k:Int)(h0:0<l.length):∃ x∈l,atI (l.map V.str) (k % ((l.map V.str).length:Int))=some (.str x):=by
 rw[length_map];have h1:=emod_nonneg k (show(l.length:Int)≠0 by omega);have h2:=emod_lt_of_pos k (show(0:Int)<(l.length:Int) by omega);obtain⟨j,hj⟩:=Int.eq_ofNat_of_zero_le h1;rw[hj];have hjl:j<l.length:=by omega
 exact⟨l[j],getElem_mem hjl,JY (by rw[getElem?_map,getElem?_eq_getElem hjl];rfl)⟩
end L2
namespace L2
open PySem PySem.Spec PyProof.Rows
theorem us0 (us:List Value)(h:us.length=0):us=[]:=List.eq_nil_of_length_eq_zero h
theorem us1 (us:List Value)(h:us.length=1):∃ a0,us=[a0]:=by
  cases us with
  |nil=>cases h
  |cons a0 us=>exact⟨a0,by rw[us0 us (Nat.succ.inj h)]⟩
theorem us2 (us:List Value)(h:us.length=2):∃ a0 a1,us=[a0,a1]:=by
  cases us with
  |nil=>cases h
  |cons a0 us=>
    obtain⟨a1,e⟩:=us1 us (Nat.succ.inj h);exact⟨a0,a1,by rw[e]⟩
theorem us3 (us:List Value)(h:us.length=3):∃ a0 a1 a2,us=[a0,a1,a2]:=by
  cases us with
  |nil=>cases h
  |cons a0 us=>
    obtain⟨a1,a2,e⟩:=us2 us (Nat.succ.inj h);exact⟨a0,a1,a2,by rw[e]⟩
theorem us4 (us:List Value)(h:us.length=4):∃ a0 a1 a2 a3,us=[a0,a1,a2,a3]:=by
  cases us with
  |nil=>cases h
  |cons a0 us=>
    obtain⟨a1,a2,a3,e⟩:=us3 us (Nat.succ.inj h);exact⟨a0,a1,a2,a3,by rw[e]⟩
theorem us5 (us:List Value)(h:us.length=5):∃ a0 a1 a2 a3 a4,us=[a0,a1,a2,a3,a4]:=by
  cases us with
  |nil=>cases h
  |cons a0 us=>
    obtain⟨a1,a2,a3,a4,e⟩:=us4 us (Nat.succ.inj h);exact⟨a0,a1,a2,a3,a4,by rw[e]⟩
theorem us6 (us:List Value)(h:us.length=6):∃ a0 a1 a2 a3 a4 a5,us=[a0,a1,a2,a3,a4,a5]:=by
  cases us with
  |nil=>cases h
  |cons a0 us=>
    obtain⟨a1,a2,a3,a4,a5,e⟩:=us5 us (Nat.succ.inj h);exact⟨a0,a1,a2,a3,a4,a5,by rw[e]⟩
theorem us7 (us:List Value)(h:us.length=7):∃ a0 a1 a2 a3 a4 a5 a6,us=[a0,a1,a2,a3,a4,a5,a6]:=by
  cases us with
  |nil=>cases h
  |cons a0 us=>
    obtain⟨a1,a2,a3,a4,a5,a6,e⟩:=us6 us (Nat.succ.inj h);exact⟨a0,a1,a2,a3,a4,a5,a6,by rw[e]⟩
theorem h_ {j k:Nat}{A:Around}(h:Room k A)(e:j<=k:=by decide):Room j A:=h.mono e
noncomputable def GlP (K:Frag)(x:Str)(st:Stmt):Prop:=∃ f,nsIn K mainGlobals x=some (some (.ref f))/\∃ fd,Fun K x x st f fd
noncomputable def MtP (K:Frag)(C:Addr)(x q:Str)(st:Stmt):Prop:=∃ f,findIn K (.ref C) x=some (some (.ref f))/\isFn K (.ref f)=true/\∃ fd,Fun K x q st f fd
section
variable {K:Frag}{x q:Str}{st:Stmt}{f C:Addr}{oc:Value}{od an:Option Addr}{osl:Array (Option Value)}{kV doc pm cdv ct:Value}{fd:FuncData}
theorem glp_mk (a:nsIn K mainGlobals x=some (some (.ref f)))(l:K.lookup f=some ⟨oc,od, .func (fnOf x x (JW st) (Yf st) (Zg st) .none kV doc pm an cdv ct),osl⟩)(c:codeIn K cdv x=true)(k:keepIn K (.ref f)=true):GlP K x st:=⟨f,a,_,Zm5 l c k⟩
theorem mtp_mk (a:findIn K (.ref C) x=some (some (.ref f)))(i:isFn K (.ref f)=true)(l:K.lookup f=some ⟨oc,od, .func (fnOf x q (JW st) (Yf st) (Zg st) .none kV doc pm an cdv ct),osl⟩)(c:codeIn K cdv q=true)(k:keepIn K (.ref f)=true):MtP K C x q st:=⟨f,a,i,_,Zm5 l c k⟩
variable {P:Program}{w:World}{mg:Str->Option Value}{base h:Heap}{k:Nat}{ps:List Str}{sp:Sp}{CX:CXT}
noncomputable abbrev BinT (x q:Str)(st:Stmt)(ps:List Str):Prop:=∀(kV doc pm:Value)(an:Option Addr)(cdv ct:Value)(us:List Value),us.length=ps.length->bindArgs (fnOf x q (JW st) (Yf st) (Zg st) .none kV doc pm an cdv ct) ⟨us,[]⟩=pure (ps.zip us)
theorem ZE (X:K.In h)(G:h.Ns mainGlobals mg)(p:GlP K x st)(ok:∀ {f:Addr} {fd:FuncData},Fun K x x st f fd->FnOk P w K mg base CX0 k f fd ps sp)(b:BinT x x st ps):Dn P w K mg base k x ps sp:=by
 obtain⟨f,a,fd,F⟩:=p;exact⟨f,fd,ok F,mg_of X G a,F.kp,F.binds b⟩
theorem ZhI (X:K.In h)(G:h.Ns mainGlobals mg)(p:GlP K x st)(ok:∀ {f:Addr} {fd:FuncData},Fun K x x st f fd->FnOk P w K mg base (CXR P w base) k f fd ps sp)(b:BinT x x st ps):Dx P w K mg base k x ps sp:=by
 obtain⟨f,a,fd,F⟩:=p;exact⟨f,fd,ok F,mg_of X G a,F.kp,F.binds b⟩
theorem Xe (c:Cls K C)(p:MtP K C x q st)(ok:∀ {f:Addr} {fd:FuncData},Fun K x q st f fd->FnOk P w K mg base CX k f fd ps sp)(b:BinT x q st ps):Dm P w K mg base CX C k x ps sp:=by
 obtain⟨f,a,i,fd,F⟩:=p;exact⟨c,f,fd,ok F,⟨a,i,F.kp⟩,F.binds b⟩
theorem dk_mt {y:Str}(m:mg y=some (.ref C))(mk:makesIn K C=true)(kc:keepIn K (.ref C)=true)(p:MtP K C "__init__" q st)(ok:∀ {f:Addr} {fd:FuncData},Fun K "__init__" q st f fd->FnOk P w K mg base CX k f fd ps sp)(b:BinT "__init__" q st ps):Dk P w K mg base CX C k y ps sp:=by
 obtain⟨f,a,i,fd,F⟩:=p;exact⟨m,f,fd,ok F,⟨mk,a,i,kc⟩,F.binds b⟩
theorem la_gl {l:Str}(X:K.In h)(G:h.Ns mainGlobals mg){fa:Addr}(hfa:mg x=some (.ref fa))(p:GlP K x st)(b:∀(kV doc pm:Value)(an:Option Addr)(cdv ct:Value)(s:Shared)(v:Value),BindsTo s (fnOf x x (JW st) (Yf st) (Zg st) .none kV doc pm an cdv ct) ⟨[v],[]⟩ [(l,v)]):∃ fd,(∀(s:Shared)(v:Value),BindsTo s fd ⟨[v],[]⟩ [(l,v)])/\Fun K x x st fa fd:=by
 obtain⟨f,a,fd,F⟩:=p;have e:=hfa.symm.trans (mg_of X G a);cases e;refine⟨fd,?_,F⟩;obtain⟨oc,od,kV,doc,pm,an,cdv,ct,osl,rfl,lk,hcd⟩:=F.ex;exact b kV doc pm an cdv ct
end
theorem walkX_of {q:Program}{loose:List Str}{XP:(Str->Option Value)->Heap->Prop}{K:Params->Frag}{as:List Addr}{n t:Nat}{r:PySem.W.RowW}{d:DefRec}{kwd:List (Str×Expr)}{run:Value->List Value->Sem Value}(e:∀ P,as=(K P).map (·.1))(h:PySem.W.WalkO q loose XP (λ w h=>(K w.params).In h) r d kwd run):PySem.W.WalkX q loose XP (PySem.W.X.obsZ as) (PySem.W.X.valZ K n t) r d kwd run:=
  λ w s₀ s₁ mg mb G y a o pm cd doc dV kV h1 h2 h3 h4 h5 h6 args vals as' L hpre hlay hrd hwl hlo=>
    h w s₀ s₁ mg mb G (PySem.W.InK.keeps w _ _ (PySem.W.X.z_facts e y).2.1 L.keeps) a o pm cd doc dV kV h1 h2 h3 h4 h5 h6 args vals as' hpre hlay hrd hwl hlo
end L2
set_option maxHeartbeats 0
namespace My
open PySem L2
noncomputable def top (i:Nat):Stmt:=PySem.Challenge.pw_deadhand_k24_whole_late_story_hangs.main.body.getD i (.Pass ⟨0,0,0,0⟩)
noncomputable def YY (s:Stmt)(j:Nat):Stmt:=match s with
  |.ClassDef _ _ _ body _ _ _ _ _ _ _=>body.getD j (.Pass ⟨0,0,0,0⟩)
  |_ => .Pass ⟨0,0,0,0⟩
noncomputable def Zk2 (s:Stmt):List Stmt:=match s with
  |.For _ _ b _ _=>b
  |.While _ b _ _=>b
  |.If _ b _ _=>b
  |_=>[]
noncomputable abbrev Zgg:Stmt:=top 32
theorem Zhx:FnScope ["text","low","high","sign"] ["text","low","high"] (Zg Zgg):=⟨rfl,rfl,rfl,by decide +kernel,rfl,by decide +kernel,by decide +kernel⟩
noncomputable abbrev ZbT:Stmt:=top 33
theorem Zh8:FnScope ["word"] ["word"] (Zg ZbT):=⟨rfl,rfl,rfl,by decide +kernel,rfl,by decide +kernel,by decide +kernel⟩
noncomputable abbrev J6:Stmt:=top 35
theorem Zf5:FnScope ["text"] ["text"] (Zg J6):=⟨rfl,rfl,rfl,by decide +kernel,rfl,by decide +kernel,by decide +kernel⟩
noncomputable abbrev Zic:Stmt:=top 36
theorem ZdS:FnScope ["name","word","numbers","number"] ["name"] (Zg Zic):=⟨rfl,rfl,rfl,by decide +kernel,rfl,by decide +kernel,by decide +kernel⟩
noncomputable abbrev ZbJ:Stmt:=top 37
theorem Zh5:FnScope ["name"] ["name"] (Zg ZbJ):=⟨rfl,rfl,rfl,by decide +kernel,rfl,by decide +kernel,by decide +kernel⟩
noncomputable abbrev X5:Stmt:=YY (top 38) 16
theorem XF:FnScope ["self","name","beginning"] ["self","name"] (Zg X5):=⟨rfl,rfl,rfl,by decide +kernel,rfl,by decide +kernel,by decide +kernel⟩
noncomputable abbrev X1:Stmt:=top 13
theorem Zav:FnScope ["world","name","found"] ["world","name"] (Zg X1):=⟨rfl,rfl,rfl,by decide +kernel,rfl,by decide +kernel,by decide +kernel⟩
noncomputable abbrev Zad:Stmt:=YY (top 38) 8
theorem Zgc:FnScope ["self","name"] ["self","name"] (Zg Zad):=⟨rfl,rfl,rfl,by decide +kernel,rfl,by decide +kernel,by decide +kernel⟩
noncomputable abbrev Xk:Stmt:=YY (top 38) 3
theorem Zcx:FnScope ["self","name"] ["self","name"] (Zg Xk):=⟨rfl,rfl,rfl,by decide +kernel,rfl,by decide +kernel,by decide +kernel⟩
noncomputable abbrev JB:Stmt:=YY (top 38) 12
theorem Zfv:FnScope ["self","name","year"] ["self","name","year"] (Zg JB):=⟨rfl,rfl,rfl,by decide +kernel,rfl,by decide +kernel,by decide +kernel⟩
noncomputable abbrev ZbX:Stmt:=YY (top 50) 8
theorem Zia:FnScope ["self","name"] ["self","name"] (Zg ZbX):=⟨rfl,rfl,rfl,by decide +kernel,rfl,by decide +kernel,by decide +kernel⟩
noncomputable abbrev Zah:Stmt:=YY (top 38) 9
theorem Zgf:FnScope ["self","name"] ["self","name"] (Zg Zah):=⟨rfl,rfl,rfl,by decide +kernel,rfl,by decide +kernel,by decide +kernel⟩
noncomputable abbrev ZbW:Stmt:=top 14
theorem Zh9:FnScope ["world","name","age"] ["world","name","age"] (Zg ZbW):=⟨rfl,rfl,rfl,by decide +kernel,rfl,by decide +kernel,by decide +kernel⟩
noncomputable abbrev Jw:Stmt:=top 15
theorem Za4:FnScope ["world","atom","kind","name"] ["world","atom"] (Zg Jw):=⟨rfl,rfl,rfl,by decide +kernel,rfl,by decide +kernel,by decide +kernel⟩
noncomputable abbrev X4:Stmt:=YY (top 50) 7
theorem Zen:FnScope ["self","word"] ["self","word"] (Zg X4):=⟨rfl,rfl,rfl,by decide +kernel,rfl,by decide +kernel,by decide +kernel⟩
noncomputable abbrev ZaL:Stmt:=top 16
theorem ZcI:FnScope ["world","atom","kind"] ["world","atom"] (Zg ZaL):=⟨rfl,rfl,rfl,by decide +kernel,rfl,by decide +kernel,by decide +kernel⟩
noncomputable abbrev ZcW:Stmt:=top 17
theorem Zjb:FnScope ["stands"] ["stands"] (Zg ZcW):=⟨rfl,rfl,rfl,by decide +kernel,rfl,by decide +kernel,by decide +kernel⟩
noncomputable abbrev Zib:Stmt:=top 18
theorem Zmj:FnScope ["world","atoms"] ["world","atoms"] (Zg Zib):=⟨rfl,rfl,rfl,by decide +kernel,rfl,by decide +kernel,by decide +kernel⟩
noncomputable abbrev XI:Stmt:=YY (top 38) 13
theorem ZdX:FnScope ["self","name"] ["self","name"] (Zg XI):=⟨rfl,rfl,rfl,by decide +kernel,rfl,by decide +kernel,by decide +kernel⟩
noncomputable abbrev Zid:Stmt:=top 20
theorem Zmk:FnScope ["world","name"] ["world","name"] (Zg Zid):=⟨rfl,rfl,rfl,by decide +kernel,rfl,by decide +kernel,by decide +kernel⟩
noncomputable abbrev Zc0:Stmt:=top 21
theorem Zjd:FnScope ["world","name"] ["world","name"] (Zg Zc0):=⟨rfl,rfl,rfl,by decide +kernel,rfl,by decide +kernel,by decide +kernel⟩
noncomputable abbrev Zeq:Stmt:=top 22
theorem Zj6:FnScope ["world","name","out"] ["world","name","out"] (Zg Zeq):=⟨rfl,rfl,rfl,by decide +kernel,rfl,by decide +kernel,by decide +kernel⟩
noncomputable abbrev Zdc:Stmt:=top 23
theorem Ze8:FnScope ["world","name","age","out","child"] ["world","name","age","out"] (Zg Zdc):=⟨rfl,rfl,rfl,by decide +kernel,rfl,by decide +kernel,by decide +kernel⟩
noncomputable abbrev Zep:Stmt:=top 24
theorem Zj5:FnScope ["world","name","age","out"] ["world","name","age","out"] (Zg Zep):=⟨rfl,rfl,rfl,by decide +kernel,rfl,by decide +kernel,by decide +kernel⟩
noncomputable abbrev ZcZ:Stmt:=top 25
theorem Zjc:FnScope ["world","name"] ["world","name"] (Zg ZcZ):=⟨rfl,rfl,rfl,by decide +kernel,rfl,by decide +kernel,by decide +kernel⟩
noncomputable abbrev J7:Stmt:=top 26
theorem Zf6:FnScope ["world","name","age","out"] ["world","name","age","out"] (Zg J7):=⟨rfl,rfl,rfl,by decide +kernel,rfl,by decide +kernel,by decide +kernel⟩
noncomputable abbrev ZbI:Stmt:=top 34
theorem Zh4:FnScope ["word"] ["word"] (Zg ZbI):=⟨rfl,rfl,rfl,by decide +kernel,rfl,by decide +kernel,by decide +kernel⟩
noncomputable abbrev XJ:Stmt:=YY (top 38) 0
theorem ZdY:FnScope ["self"] ["self"] (Zg XJ):=⟨rfl,rfl,rfl,by decide +kernel,rfl,by decide +kernel,by decide +kernel⟩
noncomputable abbrev Zae:Stmt:=YY (top 38) 2
theorem Zgd:FnScope ["self","name","year"] ["self","name","year"] (Zg Zae):=⟨rfl,rfl,rfl,by decide +kernel,rfl,by decide +kernel,by decide +kernel⟩
noncomputable abbrev Xl:Stmt:=YY (top 38) 4
theorem Zcy:FnScope ["self","name"] ["self","name"] (Zg Xl):=⟨rfl,rfl,rfl,by decide +kernel,rfl,by decide +kernel,by decide +kernel⟩
noncomputable abbrev JA:Stmt:=YY (top 38) 5
theorem Zfu:FnScope ["self","word","born"] ["self","word","born"] (Zg JA):=⟨rfl,rfl,rfl,by decide +kernel,rfl,by decide +kernel,by decide +kernel⟩
noncomputable abbrev Zag:Stmt:=YY (top 38) 6
theorem ZbH:FnScope ["self","name","year","child"] ["self","name","year"] (Zg Zag):=⟨rfl,rfl,rfl,by decide +kernel,rfl,by decide +kernel,by decide +kernel⟩
noncomputable abbrev Zaf:Stmt:=YY (top 38) 7
theorem Zge:FnScope ["self","name","year"] ["self","name","year"] (Zg Zaf):=⟨rfl,rfl,rfl,by decide +kernel,rfl,by decide +kernel,by decide +kernel⟩
noncomputable abbrev X6:Stmt:=YY (top 38) 10
theorem Zeo:FnScope ["self","name"] ["self","name"] (Zg X6):=⟨rfl,rfl,rfl,by decide +kernel,rfl,by decide +kernel,by decide +kernel⟩
noncomputable abbrev Zac:Stmt:=YY (top 38) 14
theorem Zgb:FnScope ["self"] ["self"] (Zg Zac):=⟨rfl,rfl,rfl,by decide +kernel,rfl,by decide +kernel,by decide +kernel⟩
noncomputable abbrev Jz:Stmt:=YY (top 38) 15
theorem Zft:FnScope ["self"] ["self"] (Zg Jz):=⟨rfl,rfl,rfl,by decide +kernel,rfl,by decide +kernel,by decide +kernel⟩
noncomputable abbrev Zdb:Stmt:=top 41
theorem Zjg:FnScope ["holder"] ["holder"] (Zg Zdb):=⟨rfl,rfl,rfl,by decide +kernel,rfl,by decide +kernel,by decide +kernel⟩
noncomputable abbrev J2:Stmt:=top 42
theorem Zf1:FnScope ["world","holder"] ["world","holder"] (Zg J2):=⟨rfl,rfl,rfl,by decide +kernel,rfl,by decide +kernel,by decide +kernel⟩
noncomputable abbrev Zgh:Stmt:=top 43
theorem Zln:FnScope ["holder","atoms"] ["holder","atoms"] (Zg Zgh):=⟨rfl,rfl,rfl,by decide +kernel,rfl,by decide +kernel,by decide +kernel⟩
noncomputable abbrev J1:Stmt:=top 44
theorem ZbE:FnScope ["world","holder","atoms","out","how"] ["world","holder","atoms","out"] (Zg J1):=⟨rfl,rfl,rfl,by decide +kernel,rfl,by decide +kernel,by decide +kernel⟩
noncomputable abbrev Jv:Stmt:=top 49
theorem Zfr:FnScope ["number","low","high"] ["number","low","high"] (Zg Jv):=⟨rfl,rfl,rfl,by decide +kernel,rfl,by decide +kernel,by decide +kernel⟩
noncomputable abbrev XH:Stmt:=YY (top 50) 0
theorem ZdW:FnScope ["self","year"] ["self","year"] (Zg XH):=⟨rfl,rfl,rfl,by decide +kernel,rfl,by decide +kernel,by decide +kernel⟩
noncomputable abbrev Xj:Stmt:=YY (top 50) 2
theorem Zcw:FnScope ["self","many"] ["self","many"] (Zg Xj):=⟨rfl,rfl,rfl,by decide +kernel,rfl,by decide +kernel,by decide +kernel⟩
noncomputable abbrev Jy:Stmt:=YY (top 50) 3
theorem Zfs:FnScope ["self","word","age"] ["self","word","age"] (Zg Jy):=⟨rfl,rfl,rfl,by decide +kernel,rfl,by decide +kernel,by decide +kernel⟩
noncomputable abbrev Zab:Stmt:=YY (top 50) 4
theorem Zga:FnScope ["self","name"] ["self","name"] (Zg Zab):=⟨rfl,rfl,rfl,by decide +kernel,rfl,by decide +kernel,by decide +kernel⟩
noncomputable abbrev J9:Stmt:=YY (top 50) 5
theorem Zf8:FnScope ["self","name"] ["self","name"] (Zg J9):=⟨rfl,rfl,rfl,by decide +kernel,rfl,by decide +kernel,by decide +kernel⟩
noncomputable abbrev Zaa:Stmt:=YY (top 50) 6
theorem Zf9:FnScope ["self","word"] ["self","word"] (Zg Zaa):=⟨rfl,rfl,rfl,by decide +kernel,rfl,by decide +kernel,by decide +kernel⟩
noncomputable abbrev ZbV:Stmt:=top 54
theorem ZaI:FnScope ["world","name","age","out","births"] ["world","name","age"] (Zg ZbV):=⟨rfl,rfl,rfl,by decide +kernel,rfl,by decide +kernel,by decide +kernel⟩
noncomputable abbrev ZbU:Stmt:=top 55
theorem ZaH:FnScope ["world","holder","atoms","lives","years"] ["world","holder","atoms"] (Zg ZbU):=⟨rfl,rfl,rfl,by decide +kernel,rfl,by decide +kernel,by decide +kernel⟩
noncomputable abbrev J8:Stmt:=top 56
theorem Zf7:FnScope ["world","name"] ["world","name"] (Zg J8):=⟨rfl,rfl,rfl,by decide +kernel,rfl,by decide +kernel,by decide +kernel⟩
noncomputable abbrev Jx:Stmt:=top 57
theorem X0:FnScope ["world","atom","end","term","kind","away"] ["world","atom","end","term"] (Zg Jx):=⟨rfl,rfl,rfl,by decide +kernel,rfl,by decide +kernel,by decide +kernel⟩
noncomputable abbrev X2:Stmt:=top 58
theorem Zem:FnScope ["world","name","age","term"] ["world","name","age","term"] (Zg X2):=⟨rfl,rfl,rfl,by decide +kernel,rfl,by decide +kernel,by decide +kernel⟩
noncomputable abbrev Zev:Stmt:=top 59
theorem Zka:FnScope ["world","holder","atoms"] ["world","holder","atoms"] (Zg Zev):=⟨rfl,rfl,rfl,by decide +kernel,rfl,by decide +kernel,by decide +kernel⟩
noncomputable abbrev Zeu:Stmt:=top 60
theorem Zf4:FnScope ["world","holder","atoms","term","end"] ["world","holder","atoms","term"] (Zg Zeu):=⟨rfl,rfl,rfl,by decide +kernel,rfl,by decide +kernel,by decide +kernel⟩
noncomputable abbrev J0:Stmt:=top 61
theorem Ju:FnScope ["many","deeds"] ["many"] (Zg J0):=⟨rfl,rfl,rfl,by decide +kernel,rfl,by decide +kernel,by decide +kernel⟩
noncomputable abbrev X3:Stmt:=top 62
theorem Zaw:FnScope ["world","name","above"] ["world","name"] (Zg X3):=⟨rfl,rfl,rfl,by decide +kernel,rfl,by decide +kernel,by decide +kernel⟩
noncomputable abbrev YD:Stmt:=top 63
theorem Yb:FnScope ["world","holder","atoms","names","pairs","most","parent","number"] ["world","holder","atoms"] (Zg YD):=⟨rfl,rfl,rfl,by decide +kernel,rfl,by decide +kernel,by decide +kernel⟩
noncomputable abbrev ZcX:Stmt:=top 64
theorem JR:FnScope ["world","holder","atoms","term","most","deeds","parent"] ["world","holder","atoms","term"] (Zg ZcX):=⟨rfl,rfl,rfl,by decide +kernel,rfl,by decide +kernel,by decide +kernel⟩
noncomputable abbrev ZcY:Stmt:=top 65
theorem Ze5:FnScope ["world","holder","atoms","names"] ["world","holder","atoms"] (Zg ZcY):=⟨rfl,rfl,rfl,by decide +kernel,rfl,by decide +kernel,by decide +kernel⟩
noncomputable abbrev Zgj:Stmt:=top 66
theorem Zlp:FnScope ["world","holder","atoms","term"] ["world","holder","atoms","term"] (Zg Zgj):=⟨rfl,rfl,rfl,by decide +kernel,rfl,by decide +kernel,by decide +kernel⟩
noncomputable abbrev Zes:Stmt:=top 68
theorem Zj8:FnScope ["_law_found"] ["_law_found"] (Zg Zes):=⟨rfl,rfl,rfl,by decide +kernel,rfl,by decide +kernel,by decide +kernel⟩
noncomputable abbrev J4:Stmt:=top 69
theorem Zf3:FnScope ["_law_script","_law_k"] ["_law_script","_law_k"] (Zg J4):=⟨rfl,rfl,rfl,by decide +kernel,rfl,by decide +kernel,by decide +kernel⟩
noncomputable abbrev Zc2:Stmt:=top 70
theorem ZbF:FnScope ["_law_cell","_law_place","_law_one","_law_two"] ["_law_cell","_law_place"] (Zg Zc2):=⟨rfl,rfl,rfl,by decide +kernel,rfl,by decide +kernel,by decide +kernel⟩
noncomputable abbrev Zc1:Stmt:=top 71
theorem YV:FnScope ["_law_n","_law_size","_law_word_here","_law_k"] ["_law_n"] (Zg Zc1):=⟨rfl,rfl,rfl,by decide +kernel,rfl,by decide +kernel,by decide +kernel⟩
noncomputable abbrev ZbO:Stmt:=top 72
theorem Zh7:FnScope ["_law_year"] ["_law_year"] (Zg ZbO):=⟨rfl,rfl,rfl,by decide +kernel,rfl,by decide +kernel,by decide +kernel⟩
noncomputable abbrev Zc7:Stmt:=top 73
theorem Ze6:FnScope ["_law_model_here","_law_name","_law_found"] ["_law_model_here","_law_name"] (Zg Zc7):=⟨rfl,rfl,rfl,by decide +kernel,rfl,by decide +kernel,by decide +kernel⟩
noncomputable abbrev ZaK:Stmt:=top 74
theorem Zhd:FnScope ["_law_model_here"] ["_law_model_here"] (Zg ZaK):=⟨rfl,rfl,rfl,by decide +kernel,rfl,by decide +kernel,by decide +kernel⟩
noncomputable abbrev Zc3:Stmt:=top 75
theorem XV:FnScope ["_law_model_here","_law_deed","_law_clock","_law_born","_law_dead","_law_came"] ["_law_model_here","_law_deed"] (Zg Zc3):=⟨rfl,rfl,rfl,by decide +kernel,rfl,by decide +kernel,by decide +kernel⟩
noncomputable abbrev ZK:Stmt:=top 76
theorem Ya:FnScope ["_law_model_here","_law_n","_law_far","_law_some","_law_kind","_law_word_here","_law_name"] ["_law_model_here","_law_n","_law_far"] (Zg ZK):=⟨rfl,rfl,rfl,by decide +kernel,rfl,by decide +kernel,by decide +kernel⟩
noncomputable abbrev ZbM:Stmt:=top 77
theorem Y4:FnScope ["_law_n","_law_deeds","_law_words","_law_k","_law_word_here"] ["_law_n"] (Zg ZbM):=⟨rfl,rfl,rfl,by decide +kernel,rfl,by decide +kernel,by decide +kernel⟩
noncomputable abbrev Zgi:Stmt:=top 78
theorem Zlo:FnScope ["_law_world","_law_deed"] ["_law_world","_law_deed"] (Zg Zgi):=⟨rfl,rfl,rfl,by decide +kernel,rfl,by decide +kernel,by decide +kernel⟩
noncomputable abbrev Zc4:Stmt:=top 79
theorem YW:FnScope ["_law_model_here","_law_n","_law_names","_law_name","_law_k"] ["_law_model_here","_law_n"] (Zg Zc4):=⟨rfl,rfl,rfl,by decide +kernel,rfl,by decide +kernel,by decide +kernel⟩
noncomputable abbrev Zc5:Stmt:=top 80
theorem JS:FnScope ["_law_model_here","_law_n","_law_kind","_law_name"] ["_law_model_here","_law_n"] (Zg Zc5):=⟨rfl,rfl,rfl,by decide +kernel,rfl,by decide +kernel,by decide +kernel⟩
noncomputable abbrev ZbN:Stmt:=top 81
theorem Zh6:FnScope ["_law_model_here","_law_n","_law_most"] ["_law_model_here","_law_n","_law_most"] (Zg ZbN):=⟨rfl,rfl,rfl,by decide +kernel,rfl,by decide +kernel,by decide +kernel⟩
noncomputable abbrev Zc6:Stmt:=top 82
theorem ZbG:FnScope ["_law_model_here","_law_name"] ["_law_model_here","_law_name"] (Zg Zc6):=⟨rfl,rfl,rfl,by decide +kernel,rfl,by decide +kernel,by decide +kernel⟩
noncomputable abbrev Zet:Stmt:=top 83
theorem Zj9:FnScope ["_law_model_here","_law_name"] ["_law_model_here","_law_name"] (Zg Zet):=⟨rfl,rfl,rfl,by decide +kernel,rfl,by decide +kernel,by decide +kernel⟩
noncomputable abbrev Zda:Stmt:=top 84
theorem Ze7:FnScope ["_law_model_here","_law_atom_here","_law_name"] ["_law_model_here","_law_atom_here"] (Zg Zda):=⟨rfl,rfl,rfl,by decide +kernel,rfl,by decide +kernel,by decide +kernel⟩
noncomputable abbrev Zc9:Stmt:=top 85
theorem Zjf:FnScope ["_law_stands"] ["_law_stands"] (Zg Zc9):=⟨rfl,rfl,rfl,by decide +kernel,rfl,by decide +kernel,by decide +kernel⟩
noncomputable abbrev J3:Stmt:=top 86
theorem Zf2:FnScope ["_law_model_here","_law_name","_law_out_here"] ["_law_model_here","_law_name","_law_out_here"] (Zg J3):=⟨rfl,rfl,rfl,by decide +kernel,rfl,by decide +kernel,by decide +kernel⟩
noncomputable abbrev ZbK:Stmt:=top 87
theorem ZdT:FnScope ["_law_model_here","_law_name","_law_age_here","_law_out_here","_law_some"] ["_law_model_here","_law_name","_law_age_here","_law_out_here"] (Zg ZbK):=⟨rfl,rfl,rfl,by decide +kernel,rfl,by decide +kernel,by decide +kernel⟩
noncomputable abbrev ZaJ:Stmt:=top 88
theorem Zhc:FnScope ["_law_model_here","_law_name","_law_age_here","_law_out_here"] ["_law_model_here","_law_name","_law_age_here","_law_out_here"] (Zg ZaJ):=⟨rfl,rfl,rfl,by decide +kernel,rfl,by decide +kernel,by decide +kernel⟩
noncomputable abbrev ZbQ:Stmt:=top 89
theorem ZdV:FnScope ["_law_model_here","_law_name","_law_age_here","_law_out_here","_law_near_here"] ["_law_model_here","_law_name","_law_age_here","_law_out_here"] (Zg ZbQ):=⟨rfl,rfl,rfl,by decide +kernel,rfl,by decide +kernel,by decide +kernel⟩
noncomputable abbrev ZbL:Stmt:=top 90
theorem ZdU:FnScope ["_law_model_here","_law_holder_here","_law_atoms","_law_out_here","_law_stands"] ["_law_model_here","_law_holder_here","_law_atoms","_law_out_here"] (Zg ZbL):=⟨rfl,rfl,rfl,by decide +kernel,rfl,by decide +kernel,by decide +kernel⟩
noncomputable abbrev Zer:Stmt:=top 91
theorem Zj7:FnScope ["_law_model_here","_law_holder_here"] ["_law_model_here","_law_holder_here"] (Zg Zer):=⟨rfl,rfl,rfl,by decide +kernel,rfl,by decide +kernel,by decide +kernel⟩
noncomputable abbrev YL:Stmt:=top 92
theorem XS:FnScope ["_law_model_here","_law_n","_law_name","_law_near_here"] ["_law_model_here","_law_n"] (Zg YL):=⟨rfl,rfl,rfl,by decide +kernel,rfl,by decide +kernel,by decide +kernel⟩
noncomputable abbrev XG:Stmt:=top 93
theorem JT:FnScope ["_law_model_here","_law_n","_law_some"] ["_law_model_here","_law_n"] (Zg XG):=⟨rfl,rfl,rfl,by decide +kernel,rfl,by decide +kernel,by decide +kernel⟩
noncomputable abbrev Zc8:Stmt:=top 94
theorem Zje:FnScope ["_law_model_here","_law_deed"] ["_law_model_here","_law_deed"] (Zg Zc8):=⟨rfl,rfl,rfl,by decide +kernel,rfl,by decide +kernel,by decide +kernel⟩
noncomputable abbrev ZbR:Stmt:=top 95
theorem Ji:FnScope ["_law_year","_law_deeds","_law_model_here","_law_world","_law_deed"] ["_law_year","_law_deeds"] (Zg ZbR):=⟨rfl,rfl,rfl,by decide +kernel,rfl,by decide +kernel,by decide +kernel⟩
noncomputable abbrev ZbP:Stmt:=top 96
theorem Yq:FnScope ["_law_year","_law_deeds","_law_holder_here","_law_atoms","_law_out_here","_law_term","_law_told","_law_world","_law_model_here","_law_day","_law_then","_law_deed","_law_last","_law_name"] ["_law_year","_law_deeds","_law_holder_here","_law_atoms","_law_out_here","_law_term","_law_told"] (Zg ZbP):=⟨rfl,rfl,rfl,by decide +kernel,rfl,by decide +kernel,by decide +kernel⟩
noncomputable abbrev ZbS:Stmt:=top 97
theorem YG:FnScope ["_law_script","_law_n","_law_year","_law_model_here","_law_deeds","_law_deed","_law_k","_law_term","_law_world","_law_m","_law_holder_here","_law_atoms","_law_some","_law_name","_law_child","_law_out_here","_law_kind","_law_told"] ["_law_script"] (Zg ZbS):=⟨rfl,rfl,rfl,by decide +kernel,rfl,by decide +kernel,by decide +kernel⟩
structure Txt (K:Frag)(g:Ga)(mg:Str->Option Value):Prop where
  z_isinstance:mg "isinstance"=none
  z_int:mg "int"=none
  z_bool:mg "bool"=none
  z_tuple:mg "tuple"=none
  z_len:mg "len"=none
  z_range:mg "range"=none
  z_list:mg "list"=none
  z_str:mg "str"=none
  z_min:mg "min"=none
  z_max:mg "max"=none
  z_sorted:mg "sorted"=none
  z_set:mg "set"=none
  QdR:mg "ValueError"=none
  QdS:mg "LandError"=some (.ref g.LandError)
  Qbr:mg "NoText"=some (.ref g.NoText)
  Qds:mg "OutOfBound"=some (.ref g.OutOfBound)
  Qc0:mg "Taken"=some (.ref g.Taken)
  Qc1:mg "NoPerson"=some (.ref g.NoPerson)
  Qdt:mg "Gone"=some (.ref g.Gone)
  Qdu:mg "TooDeep"=some (.ref g.TooDeep)
  Qdv:XAt K g.Gone
  Qc2:XAt K g.NoPerson
  Qbs:XAt K g.NoText
  Qdw:XAt K g.OutOfBound
  Qc3:XAt K g.Taken
  Qdx:XAt K g.TooDeep
  Qdy:mg "Lives"=some (.ref g.Lives)
  Qab:Cls K g.Lives
  Qan:XQ K g.Lives "births"
  QaG:XQ K g.Lives "deaths"
  QaH:XQ K g.Lives "broods"
  Qdz:mg "World"=some (.ref g.World)
  Qaa:Cls K g.World
  Qay:XQ K g.World "year"
  Qah:XQ K g.World "lives"
  Qa9:XQ K g.World "happened"
  QaI:mg "MET"=some (.str "met" g.MET)
  QaJ:mg "FAILED"=some (.str "failed" g.FAILED)
  Qal:mg "HANGS"=some (.str "hangs" g.HANGS)
  QdA:mg "LONGEST_WORD"=some (.int 8 g.LONGEST_WORD)
  QdB:mg "LONGEST_NUMBER"=some (.int 2 g.LONGEST_NUMBER)
  Qc4:mg "MOST_NUMBERS"=some (.int 5 g.MOST_NUMBERS)
  QdC:mg "BARRED"=some (.ref g.BARRED)
  Qc5:∀ H,SqT K H g.BARRED [.str "crown", .str "kids"]
  QdD:mg "LATE"=some (.str "late" g.LATE)
  QdE:mg "LAST_FIRST_YEAR"=some (.int 9999 g.LAST_FIRST_YEAR)
  Qbt:mg "MOST_YEARS"=some (.int 60 g.MOST_YEARS)
  QdF:mg "OLDEST"=some (.int 120 g.OLDEST)
  Qc6:mg "SURE"=some (.str "sure" g.SURE)
  Qc7:mg "ABOUT_PEOPLE"=some (.ref g.ABOUT_PEOPLE)
  Qam:∀ H,SqT K H g.ABOUT_PEOPLE [.str "born", .str "dead", .str "age"]
local macro_rules|`(tactic| walk_at "ss") => `(tactic| first|exact rfl|assumption|exact ZB (Nat.le_of_ble_eq_true rfl)|(show(0:Int)<_;decide)|exact⟨by decide,by decide⟩|exact .inl ⟨by decide,by decide⟩|exact .inr ⟨by decide,by decide⟩|exact ZY.k (k:=Sum.inr _) (by assumption)|exact SqL.of (by assumption)|exact SqL.of Ze|exact SqT.of Ze|exact SqT.of (by assumption)|exact .inl (SqL.of (by assumption))|exact .inr (SqT.of (by assumption))|exact .inl ⟨_,SqL.of (by assumption),rfl⟩|exact⟨_,SqL.of (by assumption)⟩|exact⟨_,SqL.of Ze⟩|exact .inl ⟨rfl,_,SqL.of (by assumption)⟩|exact Txt.Qab (by assumption)|exact Txt.Qan (by assumption)|exact Txt.QaG (by assumption)|exact Txt.QaH (by assumption)|exact Txt.Qaa (by assumption)|exact Txt.Qay (by assumption)|exact Txt.Qah (by assumption)|exact Txt.Qa9 (by assumption)|exact Txt.Qc5 (by assumption)|exact Txt.Qam (by assumption)|decide)
local macro_rules|`(tactic| walk_at "rd") => `(tactic| repeat (first|(apply And.intro;· walk_at "ss")|apply Exists.intro))
local macro_rules|`(tactic| walk_at "g") => `(tactic| repeat (first|(apply And.intro;· walk_at "ss")|((fail_if_success (show ∃ _:Nat->Nat->St->Hp->Prop,_));(fail_if_success (show ∃ _:Nat->St->Hp->Prop,_));apply Exists.intro)))
local macro_rules|`(tactic| walk_at "v") => `(tactic| first|exact Or.inl rfl|exact Or.inr (Or.inl rfl)|exact Or.inr (Or.inr rfl))
local macro_rules|`(tactic| walk_at "u") => `(tactic| first|exact .inl rfl|exact .inr rfl|assumption)
local macro_rules|`(tactic| walk_at "n") => `(tactic| first|exact nobehind _ (by decide) (by decide)|rfl)
local macro_rules|`(tactic| walk_at "w") => `(tactic| exact⟨by rfl,by walk_at "v",by decide,by decide⟩)
theorem qv {X:Cx}(i:Nat){x:Str}{pos:Pos}(h:X.N[i]? = some x/\Vis X.env.scope x/\(x == ("__debug__":Str))=false/\(x == ("__classdict__":Str))=false):PE X (.Name x pos) (Zg9 i):=@pv X i x pos h.1 h.2.1 h.2.2.1 h.2.2.2
noncomputable def Zht (K:Frag)(g:Ga):Sp:=λ vs H Q E=>∃(x:Str)(a b:Nat),vs=[.str x, .str ⟨#[a]⟩, .str ⟨#[b]⟩]/\Q (.bl (x.cps.toList.all (inR a b))) H
noncomputable def ZdL (K:Frag)(g:Ga):Sp:=λ vs H Q E=>∃ x:Str,vs=[.str x]/\x.length<=200/\Q (.bl (gw x)) H
noncomputable def Zbq (K:Frag)(g:Ga):Sp:=λ vs H Q E=>∃ x:Str,vs=[.str x]/\x.length<=200/\Q (.bl (gn x)) H
noncomputable def Zi5 (K:Frag)(g:Ga):Sp:=λ vs H Q E=>∃ x:Str,vs=[.str x]/\x.length<=200/\(pok x=false->∀ H',Zj H H'->E (.ref g.NoText) none H')/\(pok x=true->∀ l H',Zj H H'->H l=none->H' l=some (.lst (pvl x))->Q (.ref l) H')
noncomputable def ZdC (K:Frag)(g:Ga):Sp:=λ vs H Q E=>∃ x:Str,vs=[.str x]/\x.length<=200/\∀ H',Zj H H'->Q (.str (up x)) H'
noncomputable def Zat (K:Frag)(g:Ga):Sp:=λ vs H Q E=>∃(b:Addr)(bs ds:List (Str×Int))(R:List Addr)(n:Str),vs=[.ref b, .str n]/\LivesAt g.Lives H b bs ds R/\n.length<=200/\(pok n=false->∀ H',Zj H H'->E (.ref g.NoText) none H')/\(pok n=true->∀ H',Zj H H'->Q (.str (nr bs n)) H')
noncomputable def Zao (K:Frag)(g:Ga):Sp:=λ vs H Q E=>∃(w:Addr)(S:Mo)(R:List Addr)(n:Str),vs=[.ref w, .str n]/\WorldAt g H w S R/\n.length<=200/\(pok n=false->∀ H',Zj H H'->E (.ref g.NoText) none H')/\(pok n=true->nr S.bs n=("":Str)->∀ H',Zj H H'->E (.ref g.NoPerson) none H')/\(pok n=true->nr S.bs n≠("":Str)->∀ H',Zj H H'->Q (.str (nr S.bs n)) H')
noncomputable def Zbx (K:Frag)(g:Ga):Sp:=λ vs H Q E=>∃(b:Addr)(bs ds:List (Str×Int))(R:List Addr)(n:Str),vs=[.ref b, .str n]/\LivesAt g.Lives H b bs ds R/\Q (.bl (has bs n)) H
noncomputable def Jb (K:Frag)(g:Ga):Sp:=λ vs H Q E=>∃(b:Addr)(bs ds:List (Str×Int))(R:List Addr)(n:Str),vs=[.ref b, .str n]/\LivesAt g.Lives H b bs ds R/\(has bs n=false->E (.ref g.NoPerson) none H)/\(has bs n=true->Q .non H)
noncomputable def Za3 (K:Frag)(g:Ga):Sp:=λ vs H Q E=>∃(b:Addr)(bs ds:List (Str×Int))(R:List Addr)(n:Str)(t:Int),vs=[.ref b, .str n, .int t]/\LivesAt g.Lives H b bs ds R/\(has bs n=false->E (.ref g.NoPerson) none H)/\(∀ y,yr bs n=some y->Q (.int ((yr ds n).getD t - y)) H)
noncomputable def ZdP (K:Frag)(g:Ga):Sp:=λ vs H Q E=>∃(w:Addr)(S:Mo)(R:List Addr)(n:Str),vs=[.ref w, .str n]/\WorldAt g H w S R/\(has S.bs n=false->E (.ref g.NoPerson) none H)/\(∀ y,yr S.bs n=some y->Q (.int ((yr S.ds n).getD S.y - y)) H)
noncomputable def ZbB (K:Frag)(g:Ga):Sp:=λ vs H Q E=>∃(b:Addr)(bs ds:List (Str×Int))(R:List Addr)(n:Str),vs=[.ref b, .str n]/\LivesAt g.Lives H b bs ds R/\Q (.bl (al bs ds n)) H
noncomputable def ZdO (K:Frag)(g:Ga):Sp:=λ vs H Q E=>∃(w:Addr)(S:Mo)(R:List Addr)(n:Str)(a y:Int),vs=[.ref w, .str n, .int a]/\WorldAt g H w S R/\has S.bs n=true/\yr S.bs n=some y/\Q (.str (YC S n y a)) H
noncomputable def ZaY (K:Frag)(g:Ga):Sp:=λ vs H Q E=>∃(w:Addr)(S:Mo)(R:List Addr)(p:Addr)(t:Atm)(n:Str),vs=[.ref w, .ref p]/\WorldAt g H w S R/\H p=some (.tup t.vals)/\t.who=some n/\n.length<=200/\(∀ e,t.bad S=some e->∀ H',Zj H H'->E (.ref (e.ad g)) none H')/\(t.bad S=none->∀ H',Zj H H'->Q (.str (t.stand S)) H')
noncomputable def Zas (K:Frag)(g:Ga):Sp:=λ vs H Q E=>∃(w:Addr)(S:Mo)(R:List Addr)(n:Str),vs=[.ref w, .str n]/\WorldAt g H w S R/\Q (((yr S.cs n).map V.int).getD .non) H
noncomputable def ZcH (K:Frag)(g:Ga):Sp:=λ vs H Q E=>∃(w:Addr)(S:Mo)(R:List Addr)(p:Addr)(t:Atm),vs=[.ref w, .ref p]/\WorldAt g H w S R/\H p=some (.tup t.vals)/\(∀ n,t.who=some n->n.length<=200)/\(∀ e,t.bad S=some e->∀ H',Zj H H'->E (.ref (e.ad g)) none H')/\(t.bad S=none->∀ H',Zj H H'->Q (.str (t.stand S)) H')
noncomputable def ZeN (K:Frag)(g:Ga):Sp:=λ vs H Q E=>∃(l:Addr)(ss:List Str),vs=[.ref l]/\SqL K H l (ss.map V.str)/\Q (.str (Yk ss)) H
noncomputable def Zi4 (K:Frag)(g:Ga):Sp:=λ vs H Q E=>∃(w:Addr)(S:Mo)(R:List Addr)(l:Addr)(ts:List Atm)(ps:List Addr),vs=[.ref w, .ref l]/\WorldAt g H w S R/\AtmsAt H l ts ps/\(∀ t∈ts,t.ok S)/\ts.length<=900/\∀ H',Zj H H'->Q (.str (Yk (ts.map (Atm.stand S)))) H'
noncomputable def JP (K:Frag)(g:Ga):Sp:=λ vs H Q E=>∃(b:Addr)(bs ds:List (Str×Int))(R:List Addr)(n:Str),vs=[.ref b, .str n]/\LivesAt g.Lives H b bs ds R/\(has bs n=false->E (.ref g.NoPerson) none H)/\(has bs n=true->∀ l H',Zj H H'->H l=none->H' l=some (.lst (YF n (nk bs n)))->Q (.ref l) H')
noncomputable def Zi6 (K:Frag)(g:Ga):Sp:=λ vs H Q E=>∃(w:Addr)(S:Mo)(R:List Addr)(n:Str),vs=[.ref w, .str n]/\WorldAt g H w S R/\∀ l H',Zj H H'->H l=none->H' l=some (.lst ((Yd S n).map V.str))->Q (.ref l) H'
noncomputable def ZeR (K:Frag)(g:Ga):Sp:=λ vs H Q E=>∃(w:Addr)(S:Mo)(R:List Addr)(n:Str),vs=[.ref w, .str n]/\WorldAt g H w S R/\S.bs.length<=900/\∀ l H',Zj H H'->H l=none->H' l=some (.lst ((Z5 S n).map V.str))->Q (.ref l) H'
noncomputable def ZfU (K:Frag)(g:Ga):Sp:=λ vs H Q E=>∃(w:Addr)(S:Mo)(R:List Addr)(n:Str)(o:Addr)(os:List Str),vs=[.ref w, .str n, .ref o]/\WorldAt g H w S R/\SqL K H o (os.map V.str)/\S.bs.length<=900/\∀ l H',Zj H H'->H l=none->H' l=some (.lst ((YI S n os).map V.str))->Q (.ref l) H'
noncomputable def Ze3 (K:Frag)(g:Ga):Sp:=λ vs H Q E=>∃(w:Addr)(S:Mo)(R:List Addr)(n:Str)(a:Int)(o:Addr)(os:List Str),vs=[.ref w, .str n, .int a, .ref o]/\WorldAt g H w S R/\SqL K H o (os.map V.str)/\S.bs.length<=900/\∀ H',Zj H H'->Q (.bl (Ye S n a os)) H'
noncomputable def ZfT (K:Frag)(g:Ga):Sp:=λ vs H Q E=>∃(w:Addr)(S:Mo)(R:List Addr)(n:Str)(a:Int)(o:Addr)(os:List Str),vs=[.ref w, .str n, .int a, .ref o]/\WorldAt g H w S R/\SqL K H o (os.map V.str)/\S.bs.length<=900/\∀ l H',Zj H H'->H l=none->H' l=some (.lst ((ZH S n a os).map V.str))->Q (.ref l) H'
noncomputable def ZeQ (K:Frag)(g:Ga):Sp:=λ vs H Q E=>∃(w:Addr)(S:Mo)(R:List Addr)(n:Str),vs=[.ref w, .str n]/\WorldAt g H w S R/\pok n=true/\∀ H',Zj H H'->Q (.bl (al S.bs S.ds (nr S.bs n))) H'
noncomputable def Zbr (K:Frag)(g:Ga):Sp:=λ vs H Q E=>∃(w:Addr)(S:Mo)(R:List Addr)(n:Str)(a:Int)(o:Addr)(os:List Str),vs=[.ref w, .str n, .int a, .ref o]/\WorldAt g H w S R/\SqL K H o (os.map V.str)/\S.bs.length<=900/\pok n=true/\∀ H',Zj H H'->Q (.str (clS S n a os)) H'
noncomputable def ZdB (K:Frag)(g:Ga):Sp:=λ vs H Q E=>∃ x:Str,vs=[.str x]/\x.length<=200/\(gw x=false->E (.ref g.NoText) none H)/\(gw x=true->Q .non H)
noncomputable def JQ (K:Frag)(g:Ga):Sp:=λ vs H Q E=>∃(b dx:Addr),vs=[.ref b]/\H b=some (.ins g.Lives dx [])/\∀ R H',Yz [b] H H'->(∀ a∈R,a=b\/H a=none)->LivesAt g.Lives H' b [] [] R->Q .non H'
noncomputable def Zby (K:Frag)(g:Ga):Sp:=λ vs H Q E=>∃(b d1 d2 d3:Addr)(bs ds:List (Str×Int))(ws:List (Str×Addr×Nat))(n:Str)(y:Int),vs=[.ref b, .str n, .int y]/\Book g.Lives H b d1 d2 d3 bs ds ws/\has bs n=false/\Y2 (brs ws) (Sum.inr n:Key)=none/\bs.length<=900/\ws.length<=900/\∀ l H',H l=none->Yz [d1,d3] H H'->Book g.Lives H' b d1 d2 d3 (bs++[(n,y)]) ds (ws++[(n,l,0)])->Q .non H'
noncomputable def Jc (K:Frag)(g:Ga):Sp:=λ vs H Q E=>∃(b:Addr)(bs ds:List (Str×Int))(R:List Addr)(n:Str),vs=[.ref b, .str n]/\LivesAt g.Lives H b bs ds R/\(has bs n=false->E (.ref g.NoPerson) none H)/\(has bs n=true->has ds n=true->E (.ref g.Gone) none H)/\(has bs n=true->has ds n=false->Q .non H)
noncomputable def Za2 (K:Frag)(g:Ga):Sp:=λ vs H Q E=>∃(b:Addr)(bs ds:List (Str×Int))(R:List Addr)(n:Str)(y:Int),vs=[.ref b, .str n, .int y]/\LivesAt g.Lives H b bs ds R/\n.length<=200/\bs.length<800/\(gw n=false->E (.ref g.NoText) none H)/\(gw n=true->has bs n=true->E (.ref g.Taken) none H)/\(gw n=true->has bs n=false->∀ R' H',Yz R H H'->Zdv H R R'->LivesAt g.Lives H' b (bs++[(n,y)]) ds R'->Q .non H')
noncomputable def ZbA (K:Frag)(g:Ga):Sp:=λ vs H Q E=>∃(b:Addr)(bs ds:List (Str×Int))(R:List Addr)(n:Str)(y:Int),vs=[.ref b, .str n, .int y]/\LivesAt g.Lives H b bs ds R/\bs.length<800/\nk bs n<99/\(has bs n=false->E (.ref g.NoPerson) none H)/\(has bs n=true->has ds n=true->E (.ref g.Gone) none H)/\(has bs n=true->has ds n=false->5<=Yl n->E (.ref g.TooDeep) none H)/\(has bs n=true->has ds n=false->Yl n<5->∀ R' H',Yz R H H'->Zdv H R R'->LivesAt g.Lives H' b (bs++[(kid n (nk bs n),y)]) ds R'->Q (.str (kid n (nk bs n))) H')
noncomputable def Zbz (K:Frag)(g:Ga):Sp:=λ vs H Q E=>∃(b:Addr)(bs ds:List (Str×Int))(R:List Addr)(n:Str)(y:Int),vs=[.ref b, .str n, .int y]/\LivesAt g.Lives H b bs ds R/\ds.length<800/\(has bs n=false->E (.ref g.NoPerson) none H)/\(has bs n=true->has ds n=true->E (.ref g.Gone) none H)/\(has bs n=true->has ds n=false->∀ H',Yz R H H'->LivesAt g.Lives H' b bs (ds++[(n,y)]) R->Q .non H')
noncomputable def Zau (K:Frag)(g:Ga):Sp:=λ vs H Q E=>∃(b:Addr)(bs ds:List (Str×Int))(R:List Addr)(n:Str),vs=[.ref b, .str n]/\LivesAt g.Lives H b bs ds R/\(has bs n=false->E (.ref g.NoPerson) none H)/\(∀ y,yr bs n=some y->Q (.int y) H)
noncomputable def Zbw (K:Frag)(g:Ga):Sp:=λ vs H Q E=>∃(b:Addr)(bs ds:List (Str×Int))(R:List Addr),vs=[.ref b]/\LivesAt g.Lives H b bs ds R/\∀ l H',Zj H H'->H l=none->H' l=some (.lst (bs.map λ p=>V.str p.1))->Q (.ref l) H'
noncomputable def Za1 (K:Frag)(g:Ga):Sp:=λ vs H Q E=>∃(b:Addr)(bs ds:List (Str×Int))(R:List Addr),vs=[.ref b]/\LivesAt g.Lives H b bs ds R/\∀ l H',Zj H H'->H l=none->H' l=some (.lst ((bs.filter λ p => !has ds p.1).map λ p=>V.str p.1))->Q (.ref l) H'
noncomputable def Ze2 (K:Frag)(g:Ga):Sp:=λ vs H Q E=>∃(p:Addr)(h:Ho),vs=[.ref p]/\H p=some (.tup h.vals)/\Q (.bl h.isK) H
noncomputable def Zbn (K:Frag)(g:Ga):Sp:=λ vs H Q E=>∃(w:Addr)(S:Mo)(R:List Addr)(p:Addr)(h:Ho),vs=[.ref w, .ref p]/\WorldAt g H w S R/\S.bs.length<=98/\H p=some (.tup h.vals)/\∀ l H',Zj H H'->H l=none->H' l=some (.lst ((h.out S).map V.str))->Q (.ref l) H'
noncomputable def Zhu (K:Frag)(g:Ga):Sp:=λ vs H Q E=>∃(p l:Addr)(h:Ho)(ts:List Atm)(ps:List Addr),vs=[.ref p, .ref l]/\H p=some (.tup h.vals)/\AtmsAt H l ts ps/\ts.length<=100/\∀ l' ps' H',Zj H H'->H l'=none->AtmsAt H' l' (Zam h ts) ps'->Q (.ref l') H'
noncomputable def Zbm (K:Frag)(g:Ga):Sp:=λ vs H Q E=>∃(w:Addr)(S:Mo)(R:List Addr)(p l:Addr)(h:Ho)(ts:List Atm)(ps:List Addr)(o:Addr),vs=[.ref w, .ref p, .ref l, .ref o]/\WorldAt g H w S R/\S.bs.length<=98/\H p=some (.tup h.vals)/\AtmsAt H l ts ps/\h.ok S/\(∀ t∈ts,t.ok S)/\ts.length<=20/\H o=some (.lst ((h.out S).map V.str))/\∀ H',Zj H H'->Q (.str (whS S h ts (h.out S))) H'
noncomputable def ZaX (K:Frag)(g:Ga):Sp:=λ vs H Q E=>∃ n lo hi:Int,vs=[.int n, .int lo, .int hi]/\(¬ (lo<=n/\n<=hi)->E (.ref g.OutOfBound) none H)/\(lo<=n/\n<=hi->Q .non H)
noncomputable def JO (K:Frag)(g:Ga):Sp:=λ vs H Q E=>∃(w dx:Addr)(y:Int),vs=[.ref w, .int y]/\H w=some (.ins g.World dx [])/\(¬ (0<=y/\y<=9999)->E (.ref g.OutOfBound) none H)/\(0<=y/\y<=9999->∀ R H',Yz [w] H H'->(∀ a∈R,a=w\/H a=none)->WorldAt g H' w (mo0 y) R->Q .non H')
noncomputable def Ja (K:Frag)(g:Ga):Sp:=λ vs H Q E=>∃(w:Addr)(S:Mo)(R:List Addr)(k:Int),vs=[.ref w, .int k]/\WorldAt g H w S R/\(¬ (1<=k/\k<=60)->E (.ref g.OutOfBound) none H)/\(1<=k/\k<=60->∀ H',Yz R H H'->WorldAt g H' w { S with y:=S.y+k } R->Q .non H')
noncomputable def Za0 (K:Frag)(g:Ga):Sp:=λ vs H Q E=>∃(w:Addr)(S:Mo)(R:List Addr)(n:Str)(a:Int),vs=[.ref w, .str n, .int a]/\WorldAt g H w S R/\n.length<=200/\S.bs.length<800/\(¬ (0<=a/\a<=120)->E (.ref g.OutOfBound) none H)/\(0<=a/\a<=120->gw n=false->E (.ref g.NoText) none H)/\(0<=a/\a<=120->gw n=true->has S.bs n=true->E (.ref g.Taken) none H)/\(0<=a/\a<=120->gw n=true->has S.bs n=false->∀ R' H',Yz R H H'->Zdv H R R'->WorldAt g H' w (S.step (.arrive n a)) R'->Q .non H')
noncomputable def Zbv (K:Frag)(g:Ga):Sp:=λ vs H Q E=>∃(w:Addr)(S:Mo)(R:List Addr)(n:Str),vs=[.ref w, .str n]/\WorldAt g H w S R/\S.bs.length<800/\nk S.bs n<99/\(has S.bs n=false->E (.ref g.NoPerson) none H)/\(has S.bs n=true->has S.ds n=true->E (.ref g.Gone) none H)/\(has S.bs n=true->has S.ds n=false->5<=Yl n->E (.ref g.TooDeep) none H)/\(has S.bs n=true->has S.ds n=false->Yl n<5->∀ R' H',Yz R H H'->Zdv H R R'->WorldAt g H' w (S.step (.birth n)) R'->Q (.str (kid n (nk S.bs n))) H')
noncomputable def Zbt (K:Frag)(g:Ga):Sp:=λ vs H Q E=>∃(w:Addr)(S:Mo)(R:List Addr)(n:Str),vs=[.ref w, .str n]/\WorldAt g H w S R/\S.ds.length<800/\(has S.bs n=false->E (.ref g.NoPerson) none H)/\(has S.bs n=true->has S.ds n=true->E (.ref g.Gone) none H)/\(has S.bs n=true->has S.ds n=false->∀ H',Yz R H H'->WorldAt g H' w (S.step (.death n)) R->Q .non H')
noncomputable def Zbu (K:Frag)(g:Ga):Sp:=λ vs H Q E=>∃(w:Addr)(S:Mo)(R:List Addr)(n:Str),vs=[.ref w, .str n]/\WorldAt g H w S R/\n.length<=200/\S.cs.length<800/\(gw n=false->E (.ref g.NoText) none H)/\(gw n=true->has S.cs n=true->E (.ref g.Taken) none H)/\(gw n=true->has S.cs n=false->∀ H',Yz R H H'->WorldAt g H' w (S.step (.comes n)) R->Q .non H')
noncomputable def ZdN (K:Frag)(g:Ga):Sp:=λ vs H Q E=>∃(w:Addr)(S:Mo)(R:List Addr)(n:Str)(a:Int),vs=[.ref w, .str n, .int a]/\WorldAt g H w S R/\S.bs.length<=98/\okN S n/\0<=a/\a<=120/\∀ M H',Zho S n a M->Zj H H'->Q (.int M) H'
noncomputable def ZdM (K:Frag)(g:Ga):Sp:=λ vs H Q E=>∃(w:Addr)(S:Mo)(R:List Addr)(p l:Addr)(h:Ho)(ts:List Atm)(ps:List Addr),vs=[.ref w, .ref p, .ref l]/\WorldAt g H w S R/\S.bs.length<=98/\H p=some (.tup h.vals)/\AtmsAt H l ts ps/\h.ok S/\(∀ t∈ts,t.ok S)/\ts.length<=100/\∀ M H',ZcD S h ts M->Zj H H'->Q (.int M) H'
noncomputable def Zbs (K:Frag)(g:Ga):Sp:=λ vs H Q E=>∃(w:Addr)(S:Mo)(R:List Addr)(n:Str),vs=[.ref w, .str n]/\WorldAt g H w S R/\okN S n/\∀ H',Zj H H'->Q (.int (Yv S n)) H'
noncomputable def ZaZ (K:Frag)(g:Ga):Sp:=λ vs H Q E=>∃(w:Addr)(S:Mo)(R:List Addr)(p:Addr)(t:Atm)(F tm:Int),vs=[.ref w, .ref p, .int F, .int tm]/\WorldAt g H w S R/\H p=some (.tup t.vals)/\t.ok S/\∀ H',Zj H H'->Q (.bl (XO S F tm t)) H'
noncomputable def Zaq (K:Frag)(g:Ga):Sp:=λ vs H Q E=>∃(w:Addr)(S:Mo)(R:List Addr)(n:Str)(a tm:Int),vs=[.ref w, .str n, .int a, .int tm]/\WorldAt g H w S R/\Q (.bl (Zdu S tm (.kids n a))) H
noncomputable def ZfZ (K:Frag)(g:Ga):Sp:=λ vs H Q E=>∃(w:Addr)(S:Mo)(R:List Addr)(p l:Addr)(h:Ho)(ts:List Atm)(ps:List Addr),vs=[.ref w, .ref p, .ref l]/\WorldAt g H w S R/\H p=some (.tup h.vals)/\AtmsAt H l ts ps/\h.ok S/\(∀ t∈ts,t.ok S)/\ts.length<=20/\∀ l' ps' H',Zj H H'->H l'=none->AtmsAt H' l' (XZ S h ts) ps'->Q (.ref l') H'
noncomputable def ZfY (K:Frag)(g:Ga):Sp:=λ vs H Q E=>∃(w:Addr)(S:Mo)(R:List Addr)(p l:Addr)(h:Ho)(ts:List Atm)(ps:List Addr)(tm:Int),vs=[.ref w, .ref p, .ref l, .int tm]/\WorldAt g H w S R/\S.bs.length<=98/\H p=some (.tup h.vals)/\AtmsAt H l ts ps/\h.ok S/\(∀ t∈ts,t.ok S)/\ts.length<=20/\∀ F H',ZcD S h ts F->Zj H H'->Q (.bl (Za5 S h ts F tm)) H'
noncomputable def Zbl (K:Frag)(g:Ga):Sp:=λ vs H Q E=>∃(n:Int),vs=[.int n]/\n<=500/\∀ l ps H',Zj H H'->H l=none->(∀ x∈ps,H x=none)->DeedsAt H' l ((ydl n.toNat).map Deed.years) ps->Q (.ref l) H'
noncomputable def Zar (K:Frag)(g:Ga):Sp:=λ vs H Q E=>∃(w:Addr)(S:Mo)(R:List Addr)(n:Str),vs=[.ref w, .str n]/\WorldAt g H w S R/\okN S n/\has S.bs n=false/\∀ p H',Zj H H'->H p=none->H' p=some (.tup [.str (nr S.bs n), .int (ctn S n)])->Q (.ref p) H'
noncomputable def Jt (K:Frag)(g:Ga):Sp:=λ vs H Q E=>∃(w:Addr)(S:Mo)(R:List Addr)(p l:Addr)(h:Ho)(ts:List Atm)(ps:List Addr),vs=[.ref w, .ref p, .ref l]/\WorldAt g H w S R/\S.bs.length<=98/\H p=some (.tup h.vals)/\AtmsAt H l ts ps/\h.ok S/\(∀ t∈ts,t.ok S)/\ts.length<=20/\∀ d H',Zj H H'->H d=none->H' d=some (.dK (yrs (mst S h ts)))->Q (.ref d) H'
noncomputable def ZeO (K:Frag)(g:Ga):Sp:=λ vs H Q E=>∃(w:Addr)(S:Mo)(R:List Addr)(p l:Addr)(h:Ho)(ts:List Atm)(ps:List Addr)(tm:Int),vs=[.ref w, .ref p, .ref l, .int tm]/\WorldAt g H w S R/\S.bs.length<=98/\Dated S/\tm<=100/\H p=some (.tup h.vals)/\AtmsAt H l ts ps/\h.ok S/\(∀ t∈ts,t.ok S)/\ts.length<=20/\∀ F l' ps' H',ZcD S h ts F->Zj H H'->H l'=none->DeedsAt H' l' (Zbi S h ts F tm) ps'->Q (.ref l') H'
noncomputable def ZeP (K:Frag)(g:Ga):Sp:=λ vs H Q E=>∃(w:Addr)(S:Mo)(R:List Addr)(p l:Addr)(h:Ho)(ts:List Atm)(ps:List Addr),vs=[.ref w, .ref p, .ref l]/\WorldAt g H w S R/\S.bs.length<=40/\H p=some (.tup h.vals)/\AtmsAt H l ts ps/\h.ok S/\(∀ t∈ts,t.ok S)/\ts.length<=20/\∀ ss l' H',ss.Perm (ddl (namL S h ts))->PyProof.Rows.sortedS ss=true->Zj H H'->H l'=none->H' l'=some (.lst (ss.map V.str))->Q (.ref l') H'
noncomputable def Zhw (K:Frag)(g:Ga):Sp:=λ vs H Q E=>∃(w:Addr)(S:Mo)(R:List Addr)(p l:Addr)(h:Ho)(ts:List Atm)(ps:List Addr)(tm:Int),vs=[.ref w, .ref p, .ref l, .int tm]/\WorldAt g H w S R/\S.bs.length<=40/\Dated S/\tm<=100/\H p=some (.tup h.vals)/\AtmsAt H l ts ps/\h.ok S/\(∀ t∈ts,t.ok S)/\ts.length<=20/\∀ r l' H',Zj H H'->H r=none->H l'=none->Zlf H' r l' S h ts tm->Q (.ref r) H'
noncomputable def ZfW (K:Frag)(g:Ga):Sp:=λ vs H Q E=>∃ i:Int,vs=[.int i]/\Q (.bl true) H
noncomputable def Zbp (K:Frag)(g:Ga):Sp:=λ vs H Q E=>∃(a:Addr)(ns:List Int)(k:Int),vs=[.ref a, .int k]/\SqL K H a (ns.map V.int)/\0<=k/\∀ c:Int,Q (.int c) H
noncomputable def ZeT (K:Frag)(g:Ga):Sp:=λ vs H Q E=>∃ c p:Int,vs=[.int c, .int p]/\∀ r:Int,Q (.int r) H
noncomputable def ZeS (K:Frag)(g:Ga):Sp:=λ vs H Q E=>∃ n:Int,vs=[.int n]/\∀ z:Str,gw z=true->Q (.str z) H
noncomputable def ZdH (K:Frag)(g:Ga):Sp:=λ vs H Q E=>∃ y:Int,vs=[.int y]/\∀ m R H',Zj H H'->(∀ a∈R,H a=none)->Ys H' m (mo0 y) R->Q (.ref m) H'
noncomputable def ZeY (K:Frag)(g:Ga):Sp:=λ vs H Q E=>∃(m:Addr)(S:Mo)(R:List Addr)(n:Str),vs=[.ref m, .str n]/\Ys H m S R/\Wf S.bs S.ds/\n.length<=200/\nk S.bs n<=100/\∀ l H',Zj H H'->H l=none->H' l=some (.lst (YF n (nk S.bs n)))->Q (.ref l) H'
noncomputable def ZcF (K:Frag)(g:Ga):Sp:=λ vs H Q E=>∃(m:Addr)(S:Mo)(R:List Addr),vs=[.ref m]/\Ys H m S R/\S.bs.length<=900/\∀ l H',Zj H H'->H l=none->H' l=some (.lst (Zb2 S.bs S.ds))->Q (.ref l) H'
noncomputable def ZeU (K:Frag)(g:Ga):Sp:=λ vs H Q E=>∃(m:Addr)(S:Mo)(R:List Addr)(p:Addr)(d:Deed)(far:Int)(k:Nat),vs=[.ref m, .ref p]/\Ys H m S R/\H p=some (.tup d.vals)/\S.Ok k/\k<98/\S.good far d/\∀ H',Yz R H H'->Ys H' m (S.step d) R->Q .non H'
noncomputable def Zap (K:Frag)(g:Ga):Sp:=λ vs H Q E=>∃(m:Addr)(S:Mo)(R:List Addr)(n far:Int),vs=[.ref m, .int n, .int far]/\Ys H m S R/\S.bs.length<=900/\0<far/\(∀ d p H',S.good far d->Zj H H'->H p=none->H' p=some (.tup d.vals)->Q (.ref p) H')
noncomputable def ZdF (K:Frag)(g:Ga):Sp:=λ vs H Q E=>∃ n:Int,vs=[.int n]/\∀ l was ps H',Zj H H'->(∀ a∈l::ps,H a=none)->First was->was≠[]->DeedsAt H' l (was.map arr) ps->Q (.ref l) H'
noncomputable def Zhv (K:Frag)(g:Ga):Sp:=λ vs H Q E=>∃(w:Addr)(S:Mo)(R:List Addr)(p:Addr)(d:Deed)(far:Int)(k:Nat),vs=[.ref w, .ref p]/\WorldAt g H w S R/\H p=some (.tup d.vals)/\S.Ok k/\k<98/\S.good far d/\far<=60/\∀ v R' H',Yz R H H'->Zdv H R R'->WorldAt g H' w (S.step d) R'->Q v H'
noncomputable def ZeV (K:Frag)(g:Ga):Sp:=λ vs H Q E=>∃(m:Addr)(S:Mo)(R:List Addr)(n:Int),vs=[.ref m, .int n]/\Ys H m S R/\Wf S.bs S.ds/\S.bs.length<=98/\ZeM S/\∀ z H',Zj H H'->pok z=true->nr S.bs z≠Str.empty->JF S z->Q (.str z) H'
noncomputable def ZeW (K:Frag)(g:Ga):Sp:=λ vs H Q E=>∃(m:Addr)(S:Mo)(R:List Addr)(n:Int),vs=[.ref m, .int n]/\Ys H m S R/\Wf S.bs S.ds/\S.bs.length<=98/\ZeM S/\∀(t:Atm) p H',Zj H H'->H p=none->H' p=some (.tup t.vals)->t.ok8 S->Q (.ref p) H'
noncomputable def ZdG (K:Frag)(g:Ga):Sp:=λ vs H Q E=>∃(m:Addr)(S:Mo)(R:List Addr)(n most:Int),vs=[.ref m, .int n, .int most]/\Ys H m S R/\Wf S.bs S.ds/\S.bs.length<=98/\ZeM S/\0<=most/\most<=100/\∀ l ts ps H',Zj H H'->(∀ a∈l::ps,H a=none)->AtmsAt H' l ts ps->(∀ t∈ts,t.ok8 S)->(ts.length:Int)<=most->Q (.ref l) H'
noncomputable def ZeX (K:Frag)(g:Ga):Sp:=λ vs H Q E=>∃(m:Addr)(S:Mo)(RM:List Addr)(n:Str),vs=[.ref m, .str n]/\Ys H m S RM/\n.length<=200/\Q (.str (nr S.bs n)) H
noncomputable def ZfX (K:Frag)(g:Ga):Sp:=λ vs H Q E=>∃(m:Addr)(S:Mo)(R:List Addr)(n:Str)(y:Int),vs=[.ref m, .str n]/\Ys H m S R/\yr S.bs n=some y/\Q (.int ((yr S.ds n).getD S.y - y)) H
noncomputable def Ze1 (K:Frag)(g:Ga):Sp:=λ vs H Q E=>∃(m:Addr)(S:Mo)(R:List Addr)(p:Addr)(t:Atm),vs=[.ref m, .ref p]/\Ys H m S R/\H p=some (.tup t.vals)/\t.bad S=none/\Wf S.bs S.ds/\(∀ n,t.who=some n->n.length<=200)/\∀ H',Zj H H'->Q (.str (t.stand S)) H'
noncomputable def Ze0 (K:Frag)(g:Ga):Sp:=λ vs H Q E=>∃(l:Addr)(ss:List Str),vs=[.ref l]/\SqL K H l (ss.map V.str)/\Q (.str (Yk ss)) H
noncomputable def Zbo (K:Frag)(g:Ga):Sp:=λ vs H Q E=>∃(m:Addr)(S:Mo)(R:List Addr)(n:Str)(o:Addr)(os:List Str),vs=[.ref m, .str n, .ref o]/\Ys H m S R/\SqL K H o (os.map V.str)/\Wf S.bs S.ds/\S.bs.length<=98/\n.length<=200/\∀ l H',Zj H H'->H l=none->H' l=some (.lst ((YI S n os).map V.str))->Q (.ref l) H'
noncomputable def ZdD (K:Frag)(g:Ga):Sp:=λ vs H Q E=>∃(m:Addr)(S:Mo)(R:List Addr)(n:Str)(a:Int)(o:Addr)(os:List Str),vs=[.ref m, .str n, .int a, .ref o]/\Ys H m S R/\SqL K H o (os.map V.str)/\Wf S.bs S.ds/\S.bs.length<=98/\n.length<=200/\∀ l H',Zj H H'->H l=none->H' l=some (.lst ((ZH S n a os).map V.str))->Q (.ref l) H'
noncomputable def ZcE (K:Frag)(g:Ga):Sp:=λ vs H Q E=>∃(m:Addr)(S:Mo)(R:List Addr)(n:Str)(a:Int)(o:Addr)(os:List Str),vs=[.ref m, .str n, .int a, .ref o]/\Ys H m S R/\SqL K H o (os.map V.str)/\Wf S.bs S.ds/\S.bs.length<=98/\n.length<=200/\∀ l H',Zj H H'->H l=none->H' l=some (.lst ((ZbD S n a os).map V.str))->Q (.ref l) H'
noncomputable def ZdJ (K:Frag)(g:Ga):Sp:=λ vs H Q E=>∃(m:Addr)(S:Mo)(R:List Addr)(n:Str)(a:Int)(o:Addr)(os:List Str),vs=[.ref m, .str n, .int a, .ref o]/\Ys H m S R/\SqL K H o (os.map V.str)/\Wf S.bs S.ds/\S.bs.length<=98/\okN S n/\∀ H',Zj H H'->Q (.str (clS S n a os)) H'
noncomputable def ZdE (K:Frag)(g:Ga):Sp:=λ vs H Q E=>∃(m:Addr)(S:Mo)(R:List Addr)(p l o:Addr)(h:Ho)(ts:List Atm)(ps:List Addr)(os:List Str),vs=[.ref m, .ref p, .ref l, .ref o]/\Ys H m S R/\H p=some (.tup h.vals)/\h.ok S/\AtmsAt H l ts ps/\(∀ t∈ts,t.ok S)/\ts.length<=100/\H o=some (.lst (os.map V.str))/\Wf S.bs S.ds/\S.bs.length<=98/\∀ H',Zj H H'->Q (.str (whS S h ts os)) H'
noncomputable def ZfV (K:Frag)(g:Ga):Sp:=λ vs H Q E=>∃(m:Addr)(S:Mo)(R:List Addr)(p:Addr)(h:Ho),vs=[.ref m, .ref p]/\Ys H m S R/\H p=some (.tup h.vals)/\h.ok S/\Wf S.bs S.ds/\S.bs.length<=98/\∀ l H',Zj H H'->H l=none->H' l=some (.lst ((h.out S).map V.str))->Q (.ref l) H'
noncomputable def ZcG (K:Frag)(g:Ga):Sp:=λ vs H Q E=>∃(m:Addr)(S:Mo)(R:List Addr)(n:Int),vs=[.ref m, .int n]/\Ys H m S R/\Wf S.bs S.ds/\S.bs.length<=98/\ZeM S/\∀(h:Ho) p H',Zj H H'->H p=none->H' p=some (.tup h.vals)->h.ok8 S->Q (.ref p) H'
noncomputable def JN (K:Frag)(g:Ga):Sp:=λ vs H Q E=>∃(m:Addr)(S:Mo)(R:List Addr)(n:Int),vs=[.ref m, .int n]/\Ys H m S R/\Wf S.bs S.ds/\S.bs.length<=98/\ZeM S/\∀(h:Ho)(ts:List Atm)(ps:List Addr) r p l H',Zj H H'->H' r=some (.tup [.ref p, .ref l])->H' p=some (.tup h.vals)->h.ok8 S->AtmsAt H' l ts ps->(∀ t∈ts,t.ok8 S)->ts.length<=6->H l=none->Q (.ref r) H'
noncomputable def ZeZ (K:Frag)(g:Ga):Sp:=λ vs H Q E=>∃(m:Addr)(S:Mo)(R:List Addr)(p:Addr)(d:Deed),vs=[.ref m, .ref p]/\Ys H m S R/\H p=some (.tup d.vals)/\S.good 60 d/\((∃ k,d = .years k/\1<=k/\k<=60)\/(∃ n,d = .birth n)\/∃ n,d = .death n)/\Wf S.bs S.ds/\Q (.bl true) H
noncomputable def ZdK (K:Frag)(g:Ga):Sp:=λ vs H Q E=>∃(y:Int)(l:Addr)(ds:List Deed)(ps:List Addr),vs=[.int y, .ref l]/\DeedsAt H l ds ps/\0<=y/\y<=9999/\Seq 60 (mo0 y) ds/\ds.length<=30/\∀ p w m R RM H',Zj H H'->(∀ x∈R,H x=none)->(∀ x∈RM,H x=none)->WorldAt g H' w (Zv (mo0 y) ds) R->Ys H' m (Zv (mo0 y) ds) RM->Dj RM R->H' p=some (.tup [.ref w, .ref m])->(Zv (mo0 y) ds).Ok ds.length->Dated (Zv (mo0 y) ds)->Q (.ref p) H'
noncomputable def ZdI (K:Frag)(g:Ga):Sp:=λ vs H Q E=>∃(y:Int)(ld:Addr)(ds:List Deed)(pd:List Addr)(p l o:Addr)(h:Ho)(ts:List Atm)(ps:List Addr)(tm:Int)(lt:Addr)(pt:List Addr)(F:Int),vs=[.int y, .ref ld, .ref p, .ref l, .ref o, .int tm, .ref lt]/\DeedsAt H ld ds pd/\0<=y/\y<=9999/\Seq 60 (mo0 y) ds/\ds.length<=25/\H p=some (.tup h.vals)/\AtmsAt H l ts ps/\h.ok8 (Zv (mo0 y) ds)/\(∀ t∈ts,t.ok8 (Zv (mo0 y) ds))/\ts.length<=6/\H o=some (.lst ((h.out (Zv (mo0 y) ds)).map V.str))/\0<=tm/\tm<=60/\DeedsAt H lt (Zbi (Zv (mo0 y) ds) h ts F tm) pt/\ZcD (Zv (mo0 y) ds) h ts F/\Za5 (Zv (mo0 y) ds) h ts F tm=true/\whS (Zv (mo0 y) ds) h ts (h.out (Zv (mo0 y) ds))=("hangs":Str)/\∀ H',Zj H H'->Q (.bl true) H'
noncomputable def Zh1 (K:Frag)(g:Ga):Sp:=λ vs H Q E=>∃(a:Addr)(ns:List Int),vs=[.ref a]/\SqL K H a (ns.map V.int)/\ns.length<=63/\∀ H',Q (.bl true) H'
section
variable (P:Program)(w0:World)(K:Frag)(g:Ga)(mg:Str->Option Value)(base:Heap)
noncomputable abbrev ZgW:Prop:=Dn P w0 K mg base 1 "within" ["text","low","high"] (Zht K g)
noncomputable abbrev Zb8:Prop:=Dn P w0 K mg base 2 "good_word" ["word"] (ZdL K g)
noncomputable abbrev ZcO:Prop:=Dn P w0 K mg base 2 "good_number" ["text"] (Zbq K g)
noncomputable abbrev ZiQ:Prop:=Dx P w0 K mg base 3 "parts" ["name"] (Zi5 K g)
noncomputable abbrev Zfj:Prop:=Dn P w0 K mg base 1 "shortened" ["name"] (ZdC K g)
noncomputable abbrev YB:Prop:=Dm P w0 K mg base (CXR P w0 base) g.Lives 4 "nearest" ["self","name"] (Zat K g)
noncomputable abbrev Za6:Prop:=Dx P w0 K mg base 5 "nearest_named" ["world","name"] (Zao K g)
noncomputable abbrev YH:Prop:=Dm P w0 K mg base CX0 g.Lives 1 "known" ["self","name"] (Zbx K g)
noncomputable abbrev Yu:Prop:=Dm P w0 K mg base (CXR P w0 base) g.Lives 2 "want_known" ["self","name"] (Jb K g)
noncomputable abbrev Zcf:Prop:=Dm P w0 K mg base (CXR P w0 base) g.Lives 3 "age_in" ["self","name","year"] (Za3 K g)
noncomputable abbrev Zcd:Prop:=Dm P w0 K mg base (CXR P w0 base) g.World 4 "age" ["self","name"] (ZdP K g)
noncomputable abbrev Z7:Prop:=Dm P w0 K mg base CX0 g.Lives 1 "alive" ["self","name"] (ZbB K g)
noncomputable abbrev Zcb:Prop:=Dn P w0 K mg base 5 "age_stand" ["world","name","age"] (ZdO K g)
noncomputable abbrev Zb5:Prop:=Dx P w0 K mg base 6 "person_stand" ["world","atom"] (ZaY K g)
noncomputable abbrev Zba:Prop:=Dm P w0 K mg base CX0 g.World 1 "came_in" ["self","word"] (Zas K g)
noncomputable abbrev ZaV:Prop:=Dx P w0 K mg base 7 "atom_stand" ["world","atom"] (ZcH K g)
noncomputable abbrev Zdn:Prop:=Dn P w0 K mg base 1 "together" ["stands"] (ZeN K g)
noncomputable abbrev Zk9:Prop:=Dn P w0 K mg base 8 "stand" ["world","atoms"] (Zi4 K g)
noncomputable abbrev Y6:Prop:=Dm P w0 K mg base (CXR P w0 base) g.Lives 3 "children" ["self","name"] (JP K g)
noncomputable abbrev ZiR:Prop:=Dn P w0 K mg base 4 "brood" ["world","name"] (Zi6 K g)
noncomputable abbrev Zdp:Prop:=Dn P w0 K mg base 5 "left_out" ["world","name"] (ZeR K g)
noncomputable abbrev ZeL:Prop:=Dn P w0 K mg base 5 "members" ["world","name","out"] (ZfU K g)
noncomputable abbrev Zds:Prop:=Dn P w0 K mg base 6 "has_seat" ["world","name","age","out"] (Ze3 K g)
noncomputable abbrev Zcs:Prop:=Dn P w0 K mg base 6 "waiting" ["world","name","age","out"] (ZfT K g)
noncomputable abbrev Zdo:Prop:=Dn P w0 K mg base 5 "may_grow" ["world","name"] (ZeQ K g)
noncomputable abbrev ZcP:Prop:=Dn P w0 K mg base 7 "class_stand" ["world","name","age","out"] (Zbr K g)
noncomputable abbrev Zb4:Prop:=Dx P w0 K mg base 3 "want_word" ["word"] (ZdB K g)
noncomputable abbrev Zal:Prop:=Dm P w0 K mg base CX0 g.Lives 1 "enter" ["self","name","year"] (Zby K g)
noncomputable abbrev Xn:Prop:=Dm P w0 K mg base (CXR P w0 base) g.Lives 3 "want_alive" ["self","name"] (Jc K g)
noncomputable abbrev Zce:Prop:=Dm P w0 K mg base (CXR P w0 base) g.Lives 4 "arrive" ["self","word","born"] (Za2 K g)
noncomputable abbrev ZcV:Prop:=Dm P w0 K mg base (CXR P w0 base) g.Lives 4 "birth" ["self","name","year"] (ZbA K g)
noncomputable abbrev ZcU:Prop:=Dm P w0 K mg base (CXR P w0 base) g.Lives 4 "death" ["self","name","year"] (Zbz K g)
noncomputable abbrev X9:Prop:=Dm P w0 K mg base (CXR P w0 base) g.Lives 3 "born_in" ["self","name"] (Zau K g)
noncomputable abbrev JM:Prop:=Dm P w0 K mg base CX0 g.Lives 1 "living" ["self"] (Za1 K g)
noncomputable abbrev YZ:Prop:=Dn P w0 K mg base 1 "is_class" ["holder"] (Ze2 K g)
noncomputable abbrev Zaj:Prop:=Dn P w0 K mg base 6 "left_out_of" ["world","holder"] (Zbn K g)
noncomputable abbrev ZgX:Prop:=Dn P w0 K mg base 2 "wanted" ["holder","atoms"] (Zhu K g)
noncomputable abbrev ZcM:Prop:=Dn P w0 K mg base 9 "whole_stand" ["world","holder","atoms","out"] (Zbm K g)
noncomputable abbrev XA:Prop:=Dx P w0 K mg base 1 "want_between" ["number","low","high"] (ZaX K g)
noncomputable abbrev JL:Prop:=Dm P w0 K mg base (CXR P w0 base) g.World 2 "pass_years" ["self","many"] (Ja K g)
noncomputable abbrev Zcc:Prop:=Dm P w0 K mg base (CXR P w0 base) g.World 5 "arrive" ["self","word","age"] (Za0 K g)
noncomputable abbrev ZcT:Prop:=Dm P w0 K mg base (CXR P w0 base) g.World 5 "birth" ["self","name"] (Zbv K g)
noncomputable abbrev ZcR:Prop:=Dm P w0 K mg base (CXR P w0 base) g.World 5 "death" ["self","name"] (Zbt K g)
noncomputable abbrev ZcS:Prop:=Dm P w0 K mg base (CXR P w0 base) g.World 4 "comes" ["self","word"] (Zbu K g)
noncomputable abbrev Zfq:Prop:=Dn P w0 K mg base 7 "class_end" ["world","name","age"] (ZdN K g)
noncomputable abbrev Zb9:Prop:=Dn P w0 K mg base 8 "first_end" ["world","holder","atoms"] (ZdM K g)
noncomputable abbrev ZcQ:Prop:=Dn P w0 K mg base 5 "births_away" ["world","name"] (Zbs K g)
noncomputable abbrev Zca:Prop:=Dn P w0 K mg base 6 "atom_lingers" ["world","atom","end","term"] (ZaZ K g)
noncomputable abbrev Za8:Prop:=Dn P w0 K mg base 2 "class_lingers" ["world","name","age","term"] (Zaq K g)
noncomputable abbrev Zcu:Prop:=Dn P w0 K mg base 8 "hanging" ["world","holder","atoms"] (ZfZ K g)
noncomputable abbrev ZhN:Prop:=Dn P w0 K mg base 9 "is_late" ["world","holder","atoms","term"] (ZfY K g)
noncomputable abbrev ZcL:Prop:=Dn P w0 K mg base 1 "years_deeds" ["many"] (Zbl K g)
noncomputable abbrev Za9:Prop:=Dn P w0 K mg base 5 "child_towards" ["world","name"] (Zar K g)
noncomputable abbrev JX:Prop:=Dn P w0 K mg base 9 "children_wanted" ["world","holder","atoms"] (Jt K g)
noncomputable abbrev ZgY:Prop:=Dn P w0 K mg base 10 "story_of" ["world","holder","atoms","term"] (ZeO K g)
noncomputable abbrev ZgZ:Prop:=Dn P w0 K mg base 9 "names_of" ["world","holder","atoms"] (ZeP K g)
noncomputable abbrev ZjP:Prop:=Dn P w0 K mg base 11 "judged" ["world","holder","atoms","term"] (Zhw K g)
noncomputable abbrev ZhM:Prop:=Dn P w0 K mg base 1 "_law_num" ["_law_found"] (ZfW K g)
noncomputable abbrev ZcN:Prop:=Dn P w0 K mg base 1 "_law_cell_at" ["_law_script","_law_k"] (Zbp K g)
noncomputable abbrev Zdq:Prop:=Dn P w0 K mg base 1 "_law_rich" ["_law_cell","_law_place"] (ZeT K g)
noncomputable abbrev ZaS:Prop:=Dn P w0 K mg base 1 "_law_word" ["_law_n"] (ZeS K g)
noncomputable abbrev Zb6:Prop:=Dn P w0 K mg base 1 "_law_model" ["_law_year"] (ZdH K g)
noncomputable abbrev JK:Prop:=Dn P w0 K mg base 1 "_law_kids" ["_law_model_here","_law_name"] (ZeY K g)
noncomputable abbrev Jk:Prop:=Dn P w0 K mg base 1 "_law_living" ["_law_model_here"] (ZcF K g)
noncomputable abbrev ZaT:Prop:=Dn P w0 K mg base 2 "_law_play" ["_law_model_here","_law_deed"] (ZeU K g)
noncomputable abbrev Za7:Prop:=Dn P w0 K mg base 2 "_law_next_deed" ["_law_model_here","_law_n","_law_far"] (Zap K g)
noncomputable abbrev Zfm:Prop:=Dn P w0 K mg base 2 "_law_start" ["_law_n"] (ZdF K g)
noncomputable abbrev Zg3:Prop:=Dn P w0 K mg base 6 "_law_do" ["_law_world","_law_deed"] (Zhv K g)
noncomputable abbrev Zdr:Prop:=Dn P w0 K mg base 1 "_law_path" ["_law_model_here","_law_n"] (ZeV K g)
noncomputable abbrev Zg0:Prop:=Dn P w0 K mg base 2 "_law_need" ["_law_model_here","_law_n"] (ZeW K g)
noncomputable abbrev Zfn:Prop:=Dn P w0 K mg base 3 "_law_needs" ["_law_model_here","_law_n","_law_most"] (ZdG K g)
noncomputable abbrev ZaU:Prop:=Dn P w0 K mg base 1 "_law_near" ["_law_model_here","_law_name"] (ZeX K g)
noncomputable abbrev Zct:Prop:=Dn P w0 K mg base 1 "_law_age" ["_law_model_here","_law_name"] (ZfX K g)
noncomputable abbrev Zg4:Prop:=Dn P w0 K mg base 2 "_law_atom" ["_law_model_here","_law_atom_here"] (Ze1 K g)
noncomputable abbrev Zg2:Prop:=Dn P w0 K mg base 1 "_law_fold" ["_law_stands"] (Ze0 K g)
noncomputable abbrev Zak:Prop:=Dn P w0 K mg base 2 "_law_members" ["_law_model_here","_law_name","_law_out_here"] (Zbo K g)
noncomputable abbrev Zfk:Prop:=Dn P w0 K mg base 3 "_law_young" ["_law_model_here","_law_name","_law_age_here","_law_out_here"] (ZdD K g)
noncomputable abbrev Zef:Prop:=Dn P w0 K mg base 3 "_law_seated" ["_law_model_here","_law_name","_law_age_here","_law_out_here"] (ZcE K g)
noncomputable abbrev Zfp:Prop:=Dn P w0 K mg base 4 "_law_class" ["_law_model_here","_law_name","_law_age_here","_law_out_here"] (ZdJ K g)
noncomputable abbrev Zfl:Prop:=Dn P w0 K mg base 5 "_law_whole" ["_law_model_here","_law_holder_here","_law_atoms","_law_out_here"] (ZdE K g)
noncomputable abbrev ZhL:Prop:=Dn P w0 K mg base 2 "_law_out" ["_law_model_here","_law_holder_here"] (ZfV K g)
noncomputable abbrev Zeg:Prop:=Dn P w0 K mg base 2 "_law_holder" ["_law_model_here","_law_n"] (ZcG K g)
noncomputable abbrev ZaD:Prop:=Dn P w0 K mg base 4 "_law_judged_row" ["_law_model_here","_law_n"] (JN K g)
noncomputable abbrev Zg1:Prop:=Dn P w0 K mg base 2 "_law_good" ["_law_model_here","_law_deed"] (ZeZ K g)
noncomputable abbrev Zb7:Prop:=Dn P w0 K mg base 7 "_law_again" ["_law_year","_law_deeds"] (ZdK K g)
noncomputable abbrev Zfo:Prop:=Dn P w0 K mg base 8 "_law_hangs" ["_law_year","_law_deeds","_law_holder_here","_law_atoms","_law_out_here","_law_term","_law_told"] (ZdI K g)
noncomputable abbrev ZjN:Prop:=Dk P w0 K mg base CX0 g.Lives 1 "Lives" ["self"] (JQ K g)
noncomputable abbrev ZjM:Prop:=Dk P w0 K mg base (CXR P w0 base) g.World 3 "World" ["self","year"] (JO K g)
end
section
variable {P:Program}{w0:World}{K:Frag}{g:Ga}{mg:Str->Option Value}{base:Heap}
theorem Zly {f:Addr}{fd:FuncData}(F:Fun K "within" "within" Zgg f fd)(T:Txt K g mg)  : FnOk P w0 K mg base CX0 1 f fd ["text","low","high"] (Zht K g):=by
  refine F.ok Zhx (λ vs H Q E h=>?_) (λ cdv A outer s H vs Q E hr h=>?_)
  . obtain⟨x,a,b,rfl,_⟩:=h;rfl
  obtain⟨x,a,b,rfl,q⟩:=h;refine⟨_,(
(Zc (Xv PassesOwn.never rfl (pi_str (pv 0)) (ZM (i:=3) Zhx.nd rfl (Or.inl rfl))
 (Zf (Zu (PW.pt (Jd (Zo Zlv (pv 3) (pv 1) (Zr _)) (Xm (Zo Zlx (pv 3) (pv 2) (Zr _)))))
 (Zf (Zk Xx))
 Zp)))
 (Zf (Zk Xx)))),?_⟩
  have fin:∀ v,v=x.cps.toList.all (inR a b)->Q (.bl v) H:=λ v hv=>by rw[hv];exact q
  refine⟨_,rfl,x,rfl,ZnZ (λ i σ H2=>H2=H/\(x.cps.toList.take i).all (inR a b)=true/\∃ v,σ=[some (.str x),some (.str ⟨#[a]⟩),some (.str ⟨#[b]⟩),v]) ⟨rfl,rfl,_,rfl⟩ ?_ ?_⟩
  . rintro i c σ H2 hc ⟨rfl,ha,v,rfl⟩;refine⟨_,rfl,_,rfl,_,_,rfl,rfl,_,rfl,?_⟩;refine Yj (λ e=>Yy ?_) (λ e=>?_)
    . have e':c<a:=(ZiH c a).mp (of_decide_eq_true e);exact fin _ (Zld hc (by unfold inR;rw[decide_eq_false (by omega)];rfl)).symm
    . have e':¬ c<a:=λ z=>e (decide_eq_true ((ZiH c a).mpr z));refine⟨_,rfl,_,rfl,_,_,rfl,rfl,_,rfl,?_⟩;refine Yj (λ f=>?_) (λ f=>?_)
      . have f':b<c:=(ZiH b c).mp (of_decide_eq_true f);exact fin _ (Zld hc (by unfold inR;rw[decide_eq_false (show ¬ c<=b by omega),Bool.and_false])).symm
      . have f':¬ b<c:=λ z=>f (decide_eq_true ((ZiH b c).mpr z));exact⟨rfl,Zno ha hc (by unfold inR;rw[decide_eq_true (show a<=c by omega),decide_eq_true (show c<=b by omega)];rfl),_,rfl⟩
  . rintro σ H2 ⟨rfl,ha,v,rfl⟩;rw[take_length]at ha;exact fin _ ha.symm
theorem Ziv {f:Addr}{fd:FuncData}(F:Fun K "good_word" "good_word" ZbT f fd)(T:Txt K g mg)(QaK:ZgW P w0 K g mg base):FnOk P w0 K mg base CX0 2 f fd ["word"] (ZdL K g):=by
  refine F.ok Zh8 (λ vs H Q E h=>?_) (λ cdv A outer s H vs Q E hr h=>?_)
  . obtain⟨x,rfl,_⟩:=h;rfl
  obtain⟨x,rfl,hx,q⟩:=h;refine⟨_,(
(Zf (Zk (X8 (Zjk Zhy Zhy Zd (Zx ZO rfl T.z_len boot_len (Za (pv 0) Zb)) (ZA (v:=.int 8) rfl T.QdA ⟨_,rfl⟩)) (X8 (Zs QaK (h_ hr) (Za (pv 0) (Za Zl (Za Zl Zb)))) (JD (YE ZaN (pv 0) (ZA (v:=.ref g.BARRED) rfl T.QdC rfl) rfl))))))),?_⟩
  have fin:∀ v,v=gw x->Q (.bl v) H:=λ v hv=>by rw[hv];exact q
  refine⟨_,rfl,_,_,rfl,⟨ZB (by omega),rfl⟩,_,_,rfl,rfl,_,rfl,?_⟩;refine Yj (λ c=>?_) (λ c=>?_)
  . have c':1<=x.length:=by have:=of_decide_eq_true c;omega
    refine⟨_,_,rfl,rfl,_,rfl,?_⟩;refine Yj (λ d=>?_) (λ d=>?_)
    . have d':x.length<=8:=by have:=of_decide_eq_true d;omega
      refine⟨_,rfl,x,97,122,rfl,_,rfl,?_⟩;refine Yj (λ e=>?_) (λ e=>?_)
      . refine⟨_,rfl,g.BARRED,_,rfl, .inr (T.Qc5 _),rfl,rfl,fin _ ?_⟩;unfold gw;rw[decide_eq_true c',decide_eq_true d',e];show(!(eqV (.str "crown") (.str x) || (eqV (.str "kids") (.str x) || false)))=_;show(!(("crown":Str) == x || (("kids":Str) == x || false)))=(!(decide (x="crown") || decide (x="kids")));rw[Bool.or_false,Zlb,Zlb]
      . refine fin _ ?_;unfold gw;rw[Bool.eq_false_iff.mpr e,Bool.and_false];rfl
    . refine fin _ ?_;unfold gw;rw[decide_eq_false (show ¬ x.length<=8 from λ z=>d (decide_eq_true (by omega))),Bool.and_false];rfl
  . refine⟨_,rfl,Z3 ?_⟩;refine fin _ ?_;unfold gw;rw[decide_eq_false (show ¬ 1<=x.length from λ z=>c (decide_eq_true (by omega)))];rfl
theorem Zgw {f:Addr}{fd:FuncData}(F:Fun K "good_number" "good_number" J6 f fd)(T:Txt K g mg)(QaK:ZgW P w0 K g mg base):FnOk P w0 K mg base CX0 2 f fd ["text"] (Zbq K g):=by
  refine F.ok Zf5 (λ vs H Q E h=>?_) (λ cdv A outer s H vs Q E hr h=>?_)
  . obtain⟨x,rfl,_⟩:=h;rfl
  obtain⟨x,rfl,hx,q⟩:=h;refine⟨_,(
(Zf (Zk (X8 (Zjk Zhy Zhy Zd (Zx ZO rfl T.z_len boot_len (Za (pv 0) Zb)) (ZA (v:=.int 2) rfl T.QdB ⟨_,rfl⟩)) (X8 (Zs QaK (h_ hr) (Za (pv 0) (Za Zl (Za Zl Zb)))) (JD (YE ZcJ (Zn ZmV (pv 0) Zd (λ _ _=>rfl)) Zl (Zr _)))))))),?_⟩
  have fin:∀ v,v=gn x->Q (.bl v) H:=λ v hv=>by rw[hv];exact q
  refine⟨_,rfl,_,_,rfl,⟨ZB (by omega),rfl⟩,_,_,rfl,rfl,_,rfl,?_⟩;refine Yj (λ c=>?_) (λ c=>?_)
  . have c':1<=x.length:=by have:=of_decide_eq_true c;omega
    refine⟨_,_,rfl,rfl,_,rfl,?_⟩;refine Yj (λ d=>?_) (λ d=>?_)
    . have d':x.length<=2:=by have:=of_decide_eq_true d;omega
      refine⟨_,rfl,x,48,57,rfl,_,rfl,?_⟩;refine Yj (λ e=>?_) (λ e=>?_)
      . have hl:x.cps.toList.length=x.length:=length_toList;obtain⟨c0,hc0⟩:∃ c0,x.cps.toList[0]? = some c0:=⟨_,getElem?_eq_getElem (by omega)⟩;have hat:atI x.cps.toList ((0:Nat):Int)=some c0:=JY hc0;refine⟨_,rfl,x,_,c0,rfl,rfl,ZB (by omega),hat,rfl,fin _ ?_⟩;unfold gn;rw[decide_eq_true c',decide_eq_true d',e];show(!decide (V.str ⟨#[c0]⟩=V.str "0"))=(!decide (x.cps.toList.head? = some 48));have z:(V.str ⟨#[c0]⟩=V.str "0")↔c0=48:=by
          rw[show("0":Str)=⟨#[48]⟩ by decide +kernel];constructor
          . intro w;injection w with w;injection w with w;simpa using w
          . rintro rfl;rfl
        rw[List.head?_eq_getElem?,hc0];congr 1;rw[Bool.eq_iff_iff,decide_eq_true_iff,decide_eq_true_iff,z];simp
      . refine fin _ ?_;unfold gn;rw[Bool.eq_false_iff.mpr e,Bool.and_false];rfl
    . refine fin _ ?_;unfold gn;rw[decide_eq_false (show ¬ x.length<=2 from λ z=>d (decide_eq_true (by omega))),Bool.and_false];rfl
  . refine⟨_,rfl,Z3 ?_⟩;refine fin _ ?_;unfold gn;rw[decide_eq_false (show ¬ 1<=x.length from λ z=>c (decide_eq_true (by omega)))];rfl
theorem Zmx {f:Addr}{fd:FuncData}(F:Fun K "parts" "parts" Zic f fd)(T:Txt K g mg)(QaL:Zb8 P w0 K g mg base)(Qbu:ZcO P w0 K g mg base):FnOk P w0 K mg base (CXR P w0 base) 3 f fd ["name"] (Zi5 K g):=by
  refine F.okX ZdS (λ vs H Q E h=>?_) (λ cdv A outer s H vs Q E hr h=>?_)
  . obtain⟨x,rfl,_⟩:=h;rfl
  obtain⟨x,rfl,hx,qe,q⟩:=h;refine⟨_,(
(Zc (Zde (YJ plainAttrs_str PySem.F.slot_str_split PySem.F.type_str_split ZjI (pv 0) (Za Zl Zb)) (ZnH rfl (Yp (ZM (i:=1) ZdS.nd rfl (Or.inl rfl)) (Yp (ZM (i:=2) ZdS.nd rfl (Or.inl rfl)) ZaM))))
 (Zc (Zu (PW.pt (Jd (Y7 (ZS (Zs QaL (h_ hr) (Za (pv 1) Zb)))) (Xm (Zo Zay (Zx ZO rfl T.z_len boot_len (Za (pv 2) Zb)) (ZA (v:=.int 5) rfl T.Qc4 ⟨_,rfl⟩) (Zr _)))))
 (Zf (Y8 T.Qbs.x T.Qbr Zl))
 Zp)
 (Zc (Xv PassesOwn.leaving rfl (ZQ (pv 2)) (ZM (i:=3) ZdS.nd rfl (Or.inl rfl))
 (Zf (Zu (Y7 (ZS (Zs Qbu (h_ hr) (Za (pv 3) Zb))))
 (Zf (Y8 T.Qbs.x T.Qbr Zl))
 Zp)))
 (Zf (Zk (Zq Zgq (Z6 (Za (pv 1) Zb)) (Je (x:="number") (cl:=[]) (caps:=[]) rfl (ZQ (pv 2)) (λ _ _ _ _ _=>JC) (λ _ _ _ _ _=>(ZU Zhn rfl T.z_int PyProof.Rows.boot_int (Za (pv 0) Zb))) rfl (by decide +kernel) rfl (by decide +kernel) rfl (λ _ _ h=>nomatch h) (Yr rfl) (λ p hp=>nomatch hp) (by decide +kernel))))))))),?_⟩
  have h2:(Builtin.Str.partsBetween x (Builtin.Str.occurrences x dot 0 x.length (x.length+1)) dot.length).length<=sizeLine:=by
    rw[PyProof.Rows.len_partsBetween];have:=StrLaws.occ_length_le x dot 0 x.length (x.length+1);exact ZB (by omega)
  have nl:=ZnO x;refine⟨_,rfl,rfl,x,dot,rfl,rfl,by decide +kernel,ZB (by omega),h2,λ l hl=>?_⟩;have s1:=Zi hl (.lst ((Txt.split x dot).map V.str));have pe:(Txt.split x dot).map V.str = .str (wd x)::(nms x).map V.str:=by rw[show Txt.split x dot=wd x::nms x from Xy x];rfl
  refine⟨l, .str (wd x),(nms x).map V.str,rfl,SqL.of (by rw[Ze,pe]),by rw[length_map];omega,λ D hD=>?_⟩;have s2:=s1.trans (Zi hD (.lst ((nms x).map V.str)));have hD2:upd (upd H l (.lst ((Txt.split x dot).map V.str))) D (.lst ((nms x).map V.str)) D=some (.lst ((nms x).map V.str)):=Ze;generalize upd (upd H l (.lst ((Txt.split x dot).map V.str))) D (.lst ((nms x).map V.str))=H2 at *;have wl:(wd x).length<=200:=le_trans (Zmu (x:=x) (by rw[Xy];exact mem_cons_self ..)) hx;have pl:∀ p∈nms x,p.length<=200:=λ p hp=>le_trans (Zmu (x:=x) (by rw[Xy];exact mem_cons_of_mem _ hp)) hx;refine⟨_,_,rfl,_,_,rfl,rfl,?_⟩;refine⟨_,rfl,wd x,rfl,wl,_,rfl,?_⟩;cases g1:gw (wd x) with
  |false=>
    refine Yy ?_;refine Yy ⟨rfl,qe (by unfold pok;rw[g1];rfl) H2 s2⟩
  |true=>
    refine Z3 ?_;refine⟨_,rfl,_,_,rfl, .inl ⟨_,SqL.of hD2,rfl⟩,_,_,rfl,rfl,_,rfl,?_⟩;refine Yj (λ c=>?_) (λ c=>?_)
    . have c':¬ (nms x).length<=5:=by have:=of_decide_eq_true c;rw[length_map]at this;omega
      exact⟨rfl,qe (by unfold pok;rw[g1,decide_eq_false c'];rfl) H2 s2⟩
    . have c':(nms x).length<=5:=by
        have c2:¬ ((5:Int)<(((nms x).map V.str).length:Nat)):=λ z=>c (decide_eq_true z);rw[length_map]at c2;omega
      refine⟨_,rfl,D,rfl,⟨_,SqL.of hD2⟩,JJ (xs:=(nms x).map V.str) (λ i σ H3=>H3=H2/\((nms x).take i).all gn=true/\∃ v,σ=[some (.str x),some (.str (wd x)),some (.ref D),v]) ⟨rfl,rfl,_,rfl⟩ ?_ ?_ ?_⟩
      . rintro i σ H3 _ ⟨rfl,_⟩;exact SqL.of hD2
      . rintro i v σ H3 hv ⟨rfl,ha,w,rfl⟩;rw[getElem?_map]at hv;have ci:i<(nms x).length:=by
          cases z:(nms x)[i]? with
          |none=>rw[z]at hv;cases hv
          |some y=>exact(List.getElem?_eq_some_iff.mp z).1
        rw[getElem?_eq_getElem ci]at hv;cases hv;refine⟨_,rfl,(nms x)[i],rfl,pl _ (getElem_mem ci),_,rfl,?_⟩;cases g2:gn (nms x)[i] with
        |false=>
          refine Yy ⟨rfl,qe ?_ H3 s2⟩;unfold pok;have z:(nms x).all gn=false:=by
            cases e:(nms x).all gn with
            |false=>rfl
            |true=>
              have:=List.all_eq_true.mp e _ (getElem_mem ci);rw[g2]at this;cases this
          rw[z,Bool.and_false]
        |true=>
          refine Z3 ⟨rfl,?_,_,rfl⟩;rw[take_succ,getElem?_eq_getElem ci,all_append,ha];simp[g2]
      . rintro σ H3 ⟨rfl,ha,w,rfl⟩;rw[length_map,take_length]at ha;have pk:pok x=true:=by unfold pok;rw[g1,decide_eq_true c',ha];rfl
        refine⟨_,rfl,(by show 1<=sizeLine;decide),λ b1 hb1=>?_⟩;have s3:=Zi hb1 (.lst [V.str (wd x)]);have hb1':upd H3 b1 (.lst [V.str (wd x)]) b1=some (.lst [V.str (wd x)]):=Ze;have hD3:=s3 _ _ hD2;generalize upd H3 b1 (.lst [V.str (wd x)])=H4 at *;refine⟨_,rfl,D,rfl,⟨_,SqL.of hD3⟩,λ E1 hE1=>⟨λ i m H5=>i<=(nms x).length/\m=(nms x).length - i/\Zj H4 H5/\H5 E1=some (.lst (((nms x).take i).map λ p=>V.int (iv p))),⟨(nms x).length,zero_le _,rfl,Zi hE1 _,Ze⟩,?_⟩⟩;rintro i m H5 ⟨hi,rfl,s5,hE5⟩
        by_cases ci:i<(nms x).length
        . refine .inr ⟨⟨_, .str (nms x)[i],s5.seq (SqL.of hD3),by simp[ci]⟩,λ v H' ⟨e,ev⟩=>?_⟩;subst e;have ev':=ev _ (s5.seq (SqL.of hD3));rw[getElem?_map,getElem?_eq_getElem ci]at ev';cases ev';refine tAll_T ?_;have g3:=List.all_eq_true.mp ha _ (getElem_mem ci);refine⟨_,rfl,(nms x)[i],_,rfl,(iv_gn g3).1,by have:=pl _ (getElem_mem ci);omega,_,(nms x).length - (i+1),hE5,Zz (by rw[length_map,length_take];omega),by omega,ci,rfl,Z0 s5 hE1,?_⟩;rw[Ze,<- Zel ci,map_append];rfl
        . have e:i=(nms x).length:=by omega
          subst e;rw[take_length]at hE5;refine .inl ⟨⟨_,s5.seq (SqL.of hD3),by rw[length_map];exact le_refl _⟩,?_⟩;refine⟨b1,E1,_,_,rfl,rfl,s5 _ _ hb1',hE5,le_of_lt (Zz (by rw[length_map];show 1+(nms x).length<=1000;omega)),λ R hR=>?_⟩;have s6:=(s2.trans s3).trans s5;exact q pk R _ (s6.trans (Zi hR _)) (s6.free hR) Ze
theorem Zim {f:Addr}{fd:FuncData}(F:Fun K "shortened" "shortened" ZbJ f fd)(T:Txt K g mg)  : FnOk P w0 K mg base CX0 1 f fd ["name"] (ZdC K g):=by
  refine F.ok Zh5 (λ vs H Q E h=>?_) (λ cdv A outer s H vs Q E hr h=>?_)
  . obtain⟨x,rfl,_⟩:=h;rfl
  obtain⟨x,rfl,hx,q⟩:=h;refine⟨_,(
(Zf (Zk (Zn Zm (YJ plainAttrs_str PySem.F.slot_str_rpartition PySem.F.type_str_rpartition ZmF (pv 0) (Za Zl Zb)) Zd (λ _ _=>rfl))))),?_⟩
  refine⟨_,rfl,rfl,x,dot,rfl,rfl,by decide +kernel,ZB (by omega),λ l hl=>?_⟩;have s1:=Zi hl;cases e:Builtin.Str.lastOccurrence x dot 0 x.length with
  |some i=>
    have u:up x=Builtin.Str.strSub x 0 i:=by unfold up;rw[e]
    refine⟨l,_,_,_,rfl,rfl,SqT.of Ze,rfl,?_⟩;rw[<- u];exact q _ (s1 _)
  |none=>
    have u:up x=Str.empty:=by unfold up;rw[e]
    refine⟨l,_,_,_,rfl,rfl,SqT.of Ze,rfl,?_⟩;rw[<- u];exact q _ (s1 _)
theorem ZeF {f:Addr}{fd:FuncData}(F:Fun K "nearest" "Lives.nearest" X5 f fd)(T:Txt K g mg)(QaF:ZiQ P w0 K g mg base)(Qbv:Zfj P w0 K g mg base):FnOk P w0 K mg base (CXR P w0 base) 4 f fd ["self","name"] (Zat K g):=by
  refine F.okX XF (λ vs H Q E h=>?_) (λ cdv A outer s H vs Q E hr h=>?_)
  . obtain⟨b,bs,ds,R,n,rfl,_⟩:=h;rfl
  obtain⟨b,bs,ds,R,n,rfl,L,hx,q1,q⟩:=h;refine⟨_,(
(Zc (ZD (X7 Xz QaF (h_ hr) (Za (pv 1) Zb)))
 (Zc (Zt (i:=2) XF.nd rfl (Or.inl rfl) (pv 1))
 (Zc (Zd0 PassesOwn.leaving (PW.pt (XL (Zgl (pv 2) (λ _=>rfl)) (Xh (YM (Yt (ZP hr) (pv 2) (Zw (pv 0) rfl))))))
 (Zf (Zt (i:=2) XF.nd rfl (Or.inl rfl) (Zs Qbv (h_ hr) (Za (pv 2) Zb)))))
 (Zf (Zk (pv 2))))))),?_⟩
  refine⟨_,rfl,n,rfl,hx,q1,λ hp l H1 s1 _ _=>?_⟩;refine⟨_,rfl,λ mm σ H2=>∃ z:Str,mm=z.length/\σ=[some (.ref b),some (.str n),some (.str z)]/\z.length<=200/\nr bs z=nr bs n/\Zj H H2,⟨_,n,rfl,rfl,hx,rfl,s1⟩,?_⟩;rintro mm σ H2 ⟨z,rfl,rfl,hz,hnr,s2⟩;have L2:=L.same s2;obtain⟨d1,d2,d3,ws,B,k1,k2,eR⟩:=id L2.ex;obtain⟨dx,hb⟩:=B.obj
  by_cases h0:z.length=0
  . refine⟨_,rfl,false,⟨ZB (by omega),by rw[h0];rfl⟩,Z3 ?_⟩;refine Z3 ⟨_,rfl,?_⟩;have e:nr bs n=z:=by rw[<- hnr,ZjL h0,Zdi]
    rw[<- e];exact q hp H2 s2
  . refine⟨_,rfl,true,⟨ZB (by omega),?_⟩,Yy ?_⟩
    . have h1:((z.length:Nat):Int)≠0:=by omega
      exact(bne_iff_ne.mpr h1).symm
    refine⟨_,rfl,_,rfl,b,_,dx,_,_,rfl,hb,T.Qab,T.Qan,rfl,d1,_,rfl,B.births z,_,rfl,?_⟩;rw[Zy];cases hh:has bs z with
    |true=>
      refine Z3 ⟨_,rfl,?_⟩;have e:nr bs n=z:=by rw[<- hnr,Z2 h0 hh]
      rw[<- e];exact q hp H2 s2
    |false=>
      have hu:=Zbh h0;refine Yy ⟨λ σ' H'=>σ'=[some (.ref b),some (.str n),some (.str (up z))]/\Zj H H',λ σ' H' ⟨e1,e2⟩=>⟨(up z).length,hu,up z,rfl,e1,by omega,by rw[<- hnr,ZgI h0 hh],e2⟩,?_⟩;exact⟨_,rfl,z,rfl,hz,λ H3 s3=>⟨rfl,s2.trans s3⟩⟩
theorem ZeA {f:Addr}{fd:FuncData}(F:Fun K "nearest_named" "nearest_named" X1 f fd)(T:Txt K g mg)(Qai:YB P w0 K g mg base):FnOk P w0 K mg base (CXR P w0 base) 5 f fd ["world","name"] (Zao K g):=by
  refine F.okX Zav (λ vs H Q E h=>?_) (λ cdv A outer s H vs Q E hr h=>?_)
  . obtain⟨w,S,R,n,rfl,_⟩:=h;rfl
  obtain⟨w,S,R,n,rfl,W,hn,q1,q2,q⟩:=h;refine⟨_,(
(Zc (Zt (i:=2) Zav.nd rfl (Or.inl rfl) (ZT Xz Qai (h_ hr) (Zw (pv 0) rfl) (Za (pv 1) Zb)))
 (Zc (Zu (Zo Z1 (pv 2) Zl (Zr _))
 (Zf (Y8 T.Qc2.x T.Qc1 Zl))
 Zp)
 (Zf (Zk (pv 2)))))),?_⟩
  obtain⟨dx,b,hd,RL,hw,L,hh,eR,n1,n2⟩:=W.ex;obtain⟨dy,y1,y2,y3,hb⟩:=L.obj;refine⟨_,rfl,w,_,dx,_,_,rfl,hw,T.Qaa,T.Qah,rfl,b,dy,_,rfl,hb,rfl,_,rfl,b,S.bs,S.ds,RL,n,rfl,L,hn,q1,λ hp H' s=>?_⟩
  by_cases e:nr S.bs n=("":Str)
  . rw[e];exact⟨_,rfl,rfl,_,rfl,Zbc ⟨rfl,q2 hp e H' s⟩⟩
  . exact⟨_,rfl,rfl,_,rfl,Yo (beq_eq_false_iff_ne.mpr e) ⟨_,rfl,q hp e H' s⟩⟩
theorem ZgD {f:Addr}{fd:FuncData}(F:Fun K "known" "Lives.known" Zad f fd)(T:Txt K g mg)  : FnOk P w0 K mg base CX0 1 f fd ["self","name"] (Zbx K g):=by
  refine F.ok Zgc (λ vs H Q E h=>?_) (λ cdv A outer s H vs Q E hr h=>?_)
  . obtain⟨b,bs,ds,R,n,rfl,_⟩:=h;rfl
  obtain⟨b,bs,ds,R,n,rfl,L,q⟩:=h;refine⟨_,(
(Zf (Zk (Zdf (XM (ZP hr) (pv 1) (Zw (pv 0) rfl)))))),?_⟩
  obtain⟨d1,d2,d3,ws,B,k1,k2,eR⟩:=id L.ex;obtain⟨dx,hb⟩:=B.obj;refine⟨_,rfl,_,rfl,b,_,dx,_,_,rfl,hb,T.Qab,T.Qan,rfl,d1,_,rfl,B.births n,?_⟩;rw[Zy];exact q
theorem ZcA {f:Addr}{fd:FuncData}(F:Fun K "want_known" "Lives.want_known" Xk f fd)(T:Txt K g mg)(Qag:YH P w0 K g mg base):FnOk P w0 K mg base (CXR P w0 base) 2 f fd ["self","name"] (Jb K g):=by
  refine F.okX Zcx (λ vs H Q E h=>?_) (λ cdv A outer s H vs Q E hr h=>?_)
  . obtain⟨b,bs,ds,R,n,rfl,_⟩:=h;rfl
  obtain⟨b,bs,ds,R,n,rfl,L,qe,q⟩:=h;refine⟨_,(
(Zf (Zu (Y7 (ZS (ZT YU Qag (h_ hr) (pv 0) (Za (pv 1) Zb))))
 (Zf (Y8 T.Qc2.x T.Qc1 Zl))
 Zp))),?_⟩
  obtain⟨d1,d2,d3,ws,B,k1,k2,eR⟩:=id L.ex;obtain⟨dx,hb⟩:=B.obj;refine⟨_,rfl,b,dx,_,rfl,hb,rfl,_,rfl,b,bs,ds,R,n,rfl,L,_,rfl,?_⟩;cases e:has bs n with
  |false=>exact Yy ⟨rfl,qe e⟩
  |true=>exact Z3 (q e)
theorem ZfC {f:Addr}{fd:FuncData}(F:Fun K "age_in" "Lives.age_in" JB f fd)(T:Txt K g mg)(Qaj:Yu P w0 K g mg base):FnOk P w0 K mg base (CXR P w0 base) 3 f fd ["self","name","year"] (Za3 K g):=by
  refine F.okX Zfv (λ vs H Q E h=>?_) (λ cdv A outer s H vs Q E hr h=>?_)
  . obtain⟨b,bs,ds,R,n,t,rfl,_⟩:=h;rfl
  obtain⟨b,bs,ds,R,n,t,rfl,L,q1,q⟩:=h;refine⟨_,(
(Zc (ZD (ZT Xz Qaj (h_ hr) (pv 0) (Za (pv 1) Zb)))
 (Zf (Zk (Zq Zai (Zgp (ZP hr) (Zw (pv 0) rfl) (pv 1) (pv 2) ⟨rfl,rfl,rfl,rfl⟩) (JU (ZP hr) (Zw (pv 0) rfl) (pv 1) (λ _ _=>rfl))))))),?_⟩
  obtain⟨d1,d2,d3,ws,B,k1,k2,eR⟩:=id L.ex;obtain⟨dx,hb⟩:=B.obj;refine⟨_,rfl,b,dx,_,rfl,hb,rfl,_,rfl,b,bs,ds,R,n,rfl,L,q1,λ hn=>?_⟩;have hn':=hn;unfold has at hn';cases hy:yr bs n with
  |none=>rw[hy]at hn';cases hn'
  |some y=>
    have g0:=B.births n;rw[YN,hy]at g0;have g1:=B.deaths n;rw[YN]at g1;refine⟨_,rfl,b,_,dx,_,_,rfl,hb,T.Qab,T.QaG,rfl,d2,rfl, .inl ⟨_, .inl B.h2⟩,_,rfl,_,rfl,_,g1,_,rfl,b,_,dx,_,_,rfl,hb,T.Qab,T.Qan,rfl,_,rfl,d1,_,rfl,g0,(yr ds n).getD t,y,?_,rfl,q y hy⟩;cases yr ds n <;> rfl
theorem Ziz {f:Addr}{fd:FuncData}(F:Fun K "age" "World.age" ZbX f fd)(T:Txt K g mg)(Qbw:Zcf P w0 K g mg base):FnOk P w0 K mg base (CXR P w0 base) 4 f fd ["self","name"] (ZdP K g):=by
  refine F.okX Zia (λ vs H Q E h=>?_) (λ cdv A outer s H vs Q E hr h=>?_)
  . obtain⟨w,S,R,n,rfl,_⟩:=h;rfl
  obtain⟨w,S,R,n,rfl,W,q0,q⟩:=h;refine⟨_,(
(Zf (Zk (ZT Xz Qbw (h_ hr) (Zw (pv 0) rfl) (Za (pv 1) (Za (Zw (pv 0) rfl) Zb)))))),?_⟩
  obtain⟨dx,b,hd,RL,hw,L,hh,eR,n1,n2⟩:=W.ex;obtain⟨dy,y1,y2,y3,hb⟩:=L.obj;exact⟨_,rfl,w,_,dx,_,_,rfl,hw,T.Qaa,T.Qah,rfl,b,dy,_,rfl,hb,rfl,_,rfl,_,rfl,w,_,dx,_,_,rfl,hw,T.Qaa,T.Qay,rfl,b,S.bs,S.ds,RL,n,_,rfl,L,q0,q⟩
theorem ZgH {f:Addr}{fd:FuncData}(F:Fun K "alive" "Lives.alive" Zah f fd)(T:Txt K g mg)  : FnOk P w0 K mg base CX0 1 f fd ["self","name"] (ZbB K g):=by
  refine F.ok Zgf (λ vs H Q E h=>?_) (λ cdv A outer s H vs Q E hr h=>?_)
  . obtain⟨b,bs,ds,R,n,rfl,_⟩:=h;rfl
  obtain⟨b,bs,ds,R,n,rfl,L,q⟩:=h;refine⟨_,(
(Zf (Zk (X8 (Zdf (XM (ZP hr) (pv 1) (Zw (pv 0) rfl))) (JD (Zdf (Yt (ZP hr) (pv 1) (Zw (pv 0) rfl)))))))),?_⟩
  obtain⟨d1,d2,d3,ws,B,k1,k2,eR⟩:=id L.ex;obtain⟨dx,hb⟩:=B.obj;refine⟨_,rfl,_,rfl,b,_,dx,_,_,rfl,hb,T.Qab,T.Qan,rfl,d1,_,rfl,B.births n,_,rfl,?_⟩;unfold al at q;rw[Zy];cases e:has bs n with
  |false=>
    rw[e]at q;exact Z3 q
  |true=>
    rw[e]at q;refine Yy ⟨_,rfl,_,rfl,b,_,dx,_,_,rfl,hb,T.Qab,T.QaG,rfl,d2,_,rfl,B.deaths n,?_⟩;rw[Zy];exact q
theorem Ziy {f:Addr}{fd:FuncData}(F:Fun K "age_stand" "age_stand" ZbW f fd)(T:Txt K g mg)(QaM:Zcd P w0 K g mg base)(Qad:Z7 P w0 K g mg base):FnOk P w0 K mg base CX0 5 f fd ["world","name","age"] (ZdO K g):=by
  refine F.ok Zh9 (λ vs H Q E h=>?_) (λ cdv A outer s H vs Q E hr h=>?_)
  . obtain⟨w,S,R,n,a,y,rfl,_⟩:=h;rfl
  obtain⟨w,S,R,n,a,y,rfl,W,hk,hy,q⟩:=h;refine⟨_,(
(Zc (Zu (Zo Zd3 (ZT Xa QaM (h_ hr) (pv 0) (Za (pv 1) Zb)) (pv 2) (Zr _))
 (Zf (Zk (ZA (v:=.str "met") rfl T.QaI ⟨_,rfl⟩)))
 Zp)
 (Zf (Zk (Y9 (ZS (ZT YU Qad (h_ hr) (Zw (pv 0) rfl) (Za (pv 1) Zb))) (ZA (v:=.str "hangs") rfl T.Qal ⟨_,rfl⟩) (ZA (v:=.str "failed") rfl T.QaJ ⟨_,rfl⟩)))))),?_⟩
  obtain⟨dx,b,hd,RL,hw,L,hh,eR,n1,n2⟩:=W.ex;obtain⟨dy,y1,y2,y3,hb⟩:=L.obj;refine⟨_,rfl,w,dx,_,rfl,hw,rfl,_,rfl,w,S,R,n,rfl,W,(λ e=>by rw[hk]at e;cases e),λ y1 e1=>?_⟩;obtain rfl:y=y1:=Option.some.inj (hy.symm.trans e1);refine⟨_,rfl,_,_,rfl,rfl,_,rfl,Yj (λ c=>?_) (λ c=>?_)⟩
  . have c':a<=Xs S n y:=of_decide_eq_true c;unfold YC at q;rw[if_pos c']at q;exact q
  . have c':¬ a<=Xs S n y:=λ z=>c (decide_eq_true z);unfold YC at q;rw[if_neg c']at q;refine⟨_,rfl,w,_,dx,_,_,rfl,hw,T.Qaa,T.Qah,rfl,b,dy,_,rfl,hb,rfl,_,rfl,b,S.bs,S.ds,RL,n,rfl,L,?_⟩;have e2:al S.bs S.ds n = !has S.ds n:=by unfold al;rw[hk];rfl
    rw[e2];cases hx:has S.ds n with
    |true=>rw[hx]at q;exact⟨_,rfl,q⟩
    |false=>rw[hx]at q;exact⟨_,rfl,q⟩
theorem Zfx {f:Addr}{fd:FuncData}(F:Fun K "person_stand" "person_stand" Jw f fd)(T:Txt K g mg)(Qag:YH P w0 K g mg base)(QaN:Zcb P w0 K g mg base)(Qad:Z7 P w0 K g mg base)(Qbx:Za6 P w0 K g mg base):FnOk P w0 K mg base (CXR P w0 base) 6 f fd ["world","atom"] (ZaY K g):=by
  refine F.okX Za4 (λ vs H Q E h=>?_) (λ cdv A outer s H vs Q E hr h=>?_)
  . obtain⟨w,S,R,p,t,n,rfl,_⟩:=h;rfl
  obtain⟨w,S,R,p,t,n,rfl,W,hp,ht,hn,q1,q⟩:=h;refine⟨_,(
(Zc (ps_par (i:=2) (j:=3) rfl Za4.nd rfl rfl (by decide) rfl rfl (Za (Zn Zm (pv 1) Zd (λ _ _=>rfl)) (Za (Zn Zm (pv 1) Zd (λ _ _=>rfl)) Zb)) rfl)
 (Zc (Zu (Y7 (ZS (ZT YU Qag (h_ hr) (Zw (pv 0) rfl) (Za (pv 3) Zb))))
 (Zf (Zk (Y9 (ZS (ZT YU Qad (h_ hr) (Zw (pv 0) rfl) (Za (X7 Xz Qbx (h_ hr) (Za (pv 0) (Za (pv 3) Zb))) Zb))) (ZA (v:=.str "hangs") rfl T.Qal ⟨_,rfl⟩) (ZA (v:=.str "failed") rfl T.QaJ ⟨_,rfl⟩))))
 Zp)
 (Zc (Zu (Zo Z1 (pv 2) Zl (Zr _))
 (Zf (Zk (Zs QaN (h_ hr) (Za (pv 0) (Za (pv 3) (Za (Zn Zm (pv 1) Zd (λ _ _=>rfl)) Zb))))))
 Zp)
 (Zc (Zu (PW.pt (XL (Zo Z1 (pv 2) Zl (Zr _)) (Xh (ZS (ZT YU Qad (h_ hr) (Zw (pv 0) rfl) (Za (pv 3) Zb))))))
 (Zf (Zk (ZA (v:=.str "hangs") rfl T.Qal ⟨_,rfl⟩)))
 Zp)
 (Zf (Zk (ZA (v:=.str "met") rfl T.QaI ⟨_,rfl⟩)))))))),?_⟩
  obtain⟨dx,b,hd,RL,hw,L,hh,eR,n1,n2⟩:=W.ex;obtain⟨dy,y1,y2,y3,hb⟩:=L.obj;cases t with
  |year y=>cases ht
  |comes y=>cases ht
  |born m=>
    obtain rfl:m=n:=Option.some.inj ht;have hk2:=Atm.bad_known (S:=S) ht;refine⟨_,rfl,p,_,_,_,rfl,rfl,SqT.of hp,rfl,_,rfl,p,_,_,_,rfl,rfl,SqT.of hp,rfl,_,_,rfl,_,rfl,w,_,dx,_,_,rfl,hw,T.Qaa,T.Qah,rfl,b,dy,_,rfl,hb,rfl,_,rfl,b,S.bs,S.ds,RL,m,rfl,L,_,rfl,Yj (λ c=>?_) (λ c=>?_)⟩
    . have hk:has S.bs m=false:=by cases h:has S.bs m with|false=>rfl|true=>rw[h]at c;cases c
      refine⟨_,rfl,w,_,dx,_,_,rfl,hw,T.Qaa,T.Qah,rfl,b,dy,_,rfl,hb,rfl,_,rfl,_,rfl,w,S,R,m,rfl,W,hn,(λ e=>q1 _ (Atm.bad_text ht hk e)),(λ e e2=>q1 _ (Atm.bad_lost ht hk e e2)),λ e e2 H' s=>?_⟩;have z:=q (Atm.bad_fine ht hk e e2) H' s;rw[Atm.stand_none ht hk]at z;unfold ZX at z;refine⟨b,S.bs,S.ds,RL,_,rfl,L.same s,_,rfl,?_⟩;cases ha:al S.bs S.ds (nr S.bs m) with
      |true=>rw[ha]at z;exact z
      |false=>rw[ha]at z;exact z
    . have hk:has S.bs m=true:=by cases h:has S.bs m with|true=>rfl|false=>rw[h]at c;exact absurd rfl c
      have z:=q (hk2 hk);refine⟨_,rfl,rfl,_,rfl,Yo (by decide +kernel) ⟨_,rfl,rfl,_,rfl,Yo (by decide +kernel) ?_⟩⟩;have z1:=z H (Zj.refl _);rw[show(Atm.born m).stand S=("met":Str) from if_pos hk]at z1;exact Z3 z1
  |dead m=>
    obtain rfl:m=n:=Option.some.inj ht;have hk2:=Atm.bad_known (S:=S) ht;refine⟨_,rfl,p,_,_,_,rfl,rfl,SqT.of hp,rfl,_,rfl,p,_,_,_,rfl,rfl,SqT.of hp,rfl,_,_,rfl,_,rfl,w,_,dx,_,_,rfl,hw,T.Qaa,T.Qah,rfl,b,dy,_,rfl,hb,rfl,_,rfl,b,S.bs,S.ds,RL,m,rfl,L,_,rfl,Yj (λ c=>?_) (λ c=>?_)⟩
    . have hk:has S.bs m=false:=by cases h:has S.bs m with|false=>rfl|true=>rw[h]at c;cases c
      refine⟨_,rfl,w,_,dx,_,_,rfl,hw,T.Qaa,T.Qah,rfl,b,dy,_,rfl,hb,rfl,_,rfl,_,rfl,w,S,R,m,rfl,W,hn,(λ e=>q1 _ (Atm.bad_text ht hk e)),(λ e e2=>q1 _ (Atm.bad_lost ht hk e e2)),λ e e2 H' s=>?_⟩;have z:=q (Atm.bad_fine ht hk e e2) H' s;rw[Atm.stand_none ht hk]at z;unfold ZX at z;refine⟨b,S.bs,S.ds,RL,_,rfl,L.same s,_,rfl,?_⟩;cases ha:al S.bs S.ds (nr S.bs m) with
      |true=>rw[ha]at z;exact z
      |false=>rw[ha]at z;exact z
    . have hk:has S.bs m=true:=by cases h:has S.bs m with|true=>rfl|false=>rw[h]at c;exact absurd rfl c
      have z:=q (hk2 hk);refine⟨_,rfl,rfl,_,rfl,Yo (by decide +kernel) ⟨_,rfl,rfl,_,rfl,Zbc ⟨_,rfl,w,_,dx,_,_,rfl,hw,T.Qaa,T.Qah,rfl,b,dy,_,rfl,hb,rfl,_,rfl,b,S.bs,S.ds,RL,m,rfl,L,_,rfl,?_⟩⟩⟩;have z1:=z H (Zj.refl _);rw[show(Atm.dead m).stand S=(if has S.ds m=true then ("met":Str) else "hangs") from if_pos hk]at z1;have e2:al S.bs S.ds m = !has S.ds m:=by unfold al;rw[hk];rfl
      rw[e2];cases hx:has S.ds m with
      |true=>rw[hx]at z1;exact Z3 z1
      |false=>rw[hx]at z1;exact Yy z1
  |age m a=>
    obtain rfl:m=n:=Option.some.inj ht;have hk2:=Atm.bad_known (S:=S) ht;refine⟨_,rfl,p,_,_,_,rfl,rfl,SqT.of hp,rfl,_,rfl,p,_,_,_,rfl,rfl,SqT.of hp,rfl,_,_,rfl,_,rfl,w,_,dx,_,_,rfl,hw,T.Qaa,T.Qah,rfl,b,dy,_,rfl,hb,rfl,_,rfl,b,S.bs,S.ds,RL,m,rfl,L,_,rfl,Yj (λ c=>?_) (λ c=>?_)⟩
    . have hk:has S.bs m=false:=by cases h:has S.bs m with|false=>rfl|true=>rw[h]at c;cases c
      refine⟨_,rfl,w,_,dx,_,_,rfl,hw,T.Qaa,T.Qah,rfl,b,dy,_,rfl,hb,rfl,_,rfl,_,rfl,w,S,R,m,rfl,W,hn,(λ e=>q1 _ (Atm.bad_text ht hk e)),(λ e e2=>q1 _ (Atm.bad_lost ht hk e e2)),λ e e2 H' s=>?_⟩;have z:=q (Atm.bad_fine ht hk e e2) H' s;rw[Atm.stand_none ht hk]at z;unfold ZX at z;refine⟨b,S.bs,S.ds,RL,_,rfl,L.same s,_,rfl,?_⟩;cases ha:al S.bs S.ds (nr S.bs m) with
      |true=>rw[ha]at z;exact z
      |false=>rw[ha]at z;exact z
    . have hk:has S.bs m=true:=by cases h:has S.bs m with|true=>rfl|false=>rw[h]at c;exact absurd rfl c
      have z:=q (hk2 hk);obtain⟨y,hy⟩:=XD hk;refine⟨_,rfl,rfl,_,rfl,Zbc ⟨_,rfl,_,rfl,_,rfl,p,_,_,_,rfl,rfl,SqT.of hp,rfl,w,S,R,m,a,y,rfl,W,hk,hy,?_⟩⟩;have z1:=z H (Zj.refl _);rw[show(Atm.age m a).stand S=YC S m y a from by show(match yr S.bs m with|some y=>_|none=>_)=_;rw[hy]]at z1;exact z1
theorem ZeE {f:Addr}{fd:FuncData}(F:Fun K "came_in" "World.came_in" X4 f fd)(T:Txt K g mg)  : FnOk P w0 K mg base CX0 1 f fd ["self","word"] (Zas K g):=by
  refine F.ok Zen (λ vs H Q E h=>?_) (λ cdv A outer s H vs Q E hr h=>?_)
  . obtain⟨w,S,R,n,rfl,_⟩:=h;rfl
  obtain⟨w,S,R,n,rfl,W,q⟩:=h;refine⟨_,(
(Zf (Zk (Zmt (ZP hr) (Zw (pv 0) rfl) (pv 1) ⟨rfl,rfl,rfl,rfl⟩)))),?_⟩
  obtain⟨dx,b,hd,RL,hw,L,hh,eR,n1,n2⟩:=W.ex;obtain⟨dy,y1,y2,y3,hb⟩:=L.obj;have g0:ZY H hd (.str n) (Y2 (yrs S.cs) (Sum.inr n:Key)):=ZY.k (k:=Sum.inr n) hh;rw[YN]at g0;exact⟨_,rfl,w,_,dx,_,_,rfl,hw,T.Qaa,T.Qa9,rfl,hd,rfl, .inl ⟨_, .inl hh⟩,_,rfl,_,g0,q⟩
theorem Zhi {f:Addr}{fd:FuncData}(F:Fun K "atom_stand" "atom_stand" ZaL f fd)(T:Txt K g mg)(Qby:Zb5 P w0 K g mg base)(Qbz:Zba P w0 K g mg base):FnOk P w0 K mg base (CXR P w0 base) 7 f fd ["world","atom"] (ZcH K g):=by
  refine F.okX ZcI (λ vs H Q E h=>?_) (λ cdv A outer s H vs Q E hr h=>?_)
  . obtain⟨w,S,R,p,t,rfl,_⟩:=h;rfl
  obtain⟨w,S,R,p,t,rfl,W,hp,hn,q1,q⟩:=h;refine⟨_,(
(Zc (Zt (i:=2) ZcI.nd rfl (Or.inl rfl) (Zn Zm (pv 1) Zd (λ _ _=>rfl)))
 (Zc (Zu (Zo Z1 (pv 2) Zl (Zr _))
 (Zf (Zk (Y9 (Zo Zd3 (Zw (pv 0) rfl) (Zn Zm (pv 1) Zd (λ _ _=>rfl)) (Zr _)) (ZA (v:=.str "met") rfl T.QaI ⟨_,rfl⟩) (ZA (v:=.str "hangs") rfl T.Qal ⟨_,rfl⟩))))
 Zp)
 (Zc (Zu (Zo Z1 (pv 2) Zl (Zr _))
 (Zf (Zk (Y9 (Zo op_isN (ZT YU Qbz (h_ hr) (pv 0) (Za (Zn Zm (pv 1) Zd (λ _ _=>rfl)) Zb)) pe_non (Zr _)) (ZA (v:=.str "hangs") rfl T.Qal ⟨_,rfl⟩) (ZA (v:=.str "met") rfl T.QaI ⟨_,rfl⟩))))
 Zp)
 (Zf (Zk (X7 Xz Qby (h_ hr) (Za (pv 0) (Za (pv 1) Zb))))))))),?_⟩
  obtain⟨dx,b,hd,RL,hw,L,hh,eR,n1,n2⟩:=W.ex;obtain⟨dy,y1,y2,y3,hb⟩:=L.obj;cases t with
  |year y=>
    have z:=q rfl H (Zj.refl _);refine⟨_,rfl,p,_,_,_,rfl,rfl,SqT.of hp,rfl,_,rfl,rfl,_,rfl,Zbc ⟨_,rfl,w,_,dx,_,_,rfl,hw,T.Qaa,T.Qay,rfl,_,rfl,p,_,_,_,rfl,rfl,SqT.of hp,rfl,_,_,rfl,rfl,_,rfl,Yj (λ c=>?_) (λ c=>?_)⟩⟩
    . rw[show(Atm.year y).stand S=("met":Str) from if_pos (of_decide_eq_true c)]at z;exact z
    . rw[show(Atm.year y).stand S=("hangs":Str) from if_neg (λ e=>c (decide_eq_true e))]at z;exact z
  |comes v=>
    have z:=q rfl H (Zj.refl _);refine⟨_,rfl,p,_,_,_,rfl,rfl,SqT.of hp,rfl,_,rfl,rfl,_,rfl,Yo (by decide +kernel) ⟨_,rfl,rfl,_,rfl,Zbc ⟨_,rfl,w,dx,_,rfl,hw,rfl,_,rfl,p,_,_,_,rfl,rfl,SqT.of hp,rfl,w,S,R,v,rfl,W,rfl,_,rfl,?_⟩⟩⟩;cases hy:yr S.cs v with
    |none=>
      rw[show(Atm.comes v).stand S=("hangs":Str) from if_neg (by unfold has;rw[hy];decide)]at z;exact Yy z
    |some y=>
      rw[show(Atm.comes v).stand S=("met":Str) from if_pos (by unfold has;rw[hy];rfl)]at z;exact Z3 z
  |born m=>exact⟨_,rfl,p,_,_,_,rfl,rfl,SqT.of hp,rfl,_,rfl,rfl,_,rfl,Yo (by decide +kernel) ⟨_,rfl,rfl,_,rfl,Yo (by decide +kernel) ⟨_,rfl,_,rfl,w,S,R,p,_,m,rfl,W,hp,rfl,hn m rfl,q1,q⟩⟩⟩
  |dead m=>exact⟨_,rfl,p,_,_,_,rfl,rfl,SqT.of hp,rfl,_,rfl,rfl,_,rfl,Yo (by decide +kernel) ⟨_,rfl,rfl,_,rfl,Yo (by decide +kernel) ⟨_,rfl,_,rfl,w,S,R,p,_,m,rfl,W,hp,rfl,hn m rfl,q1,q⟩⟩⟩
  |age m a=>exact⟨_,rfl,p,_,_,_,rfl,rfl,SqT.of hp,rfl,_,rfl,rfl,_,rfl,Yo (by decide +kernel) ⟨_,rfl,rfl,_,rfl,Yo (by decide +kernel) ⟨_,rfl,_,rfl,w,S,R,p,_,m,rfl,W,hp,rfl,hn m rfl,q1,q⟩⟩⟩
theorem Zjn {f:Addr}{fd:FuncData}(F:Fun K "together" "together" ZcW f fd)(T:Txt K g mg)  : FnOk P w0 K mg base CX0 1 f fd ["stands"] (ZeN K g):=by
  refine F.ok Zjb (λ vs H Q E h=>?_) (λ cdv A outer s H vs Q E hr h=>?_)
  . obtain⟨l,ss,rfl,_⟩:=h;rfl
  obtain⟨l,ss,rfl,hl,q⟩:=h;refine⟨_,(
(Zc (Zu (Zo XN (ZA (v:=.str "failed") rfl T.QaJ ⟨_,rfl⟩) (pv 0) rfl)
 (Zf (Zk (ZA (v:=.str "failed") rfl T.QaJ ⟨_,rfl⟩)))
 Zp)
 (Zf (Zk (Y9 (Zo XN (ZA (v:=.str "hangs") rfl T.Qal ⟨_,rfl⟩) (pv 0) rfl) (ZA (v:=.str "hangs") rfl T.Qal ⟨_,rfl⟩) (ZA (v:=.str "met") rfl T.QaI ⟨_,rfl⟩)))))),?_⟩
  unfold Yk at q;refine⟨_,rfl,l,_,rfl, .inl hl,rfl,Jq ss,_,rfl,?_⟩;rw[show(if false=true then !inV (V.str "failed") (ss.map V.str) else inV (V.str "failed") (ss.map V.str))=decide (("failed":Str)∈ss) from ZaB _ _]
  by_cases c:("failed":Str)∈ss
  . rw[if_pos c]at q;rw[decide_eq_true c];exact q
  rw[if_neg c]at q;rw[decide_eq_false c];refine Z3 ?_;refine⟨_,rfl,l,_,rfl, .inl hl,rfl,Jq ss,_,rfl,?_⟩;rw[show(if false=true then !inV (V.str "hangs") (ss.map V.str) else inV (V.str "hangs") (ss.map V.str))=decide (("hangs":Str)∈ss) from ZaB _ _]
  by_cases c2:("hangs":Str)∈ss
  . rw[if_pos c2]at q;rw[decide_eq_true c2];exact q
  rw[if_neg c2]at q;rw[decide_eq_false c2];exact q
theorem Zmw {f:Addr}{fd:FuncData}(F:Fun K "stand" "stand" Zib f fd)(T:Txt K g mg)(QaO:Zdn P w0 K g mg base)(QaP:ZaV P w0 K g mg base):FnOk P w0 K mg base CX0 8 f fd ["world","atoms"] (Zi4 K g):=by
  refine F.ok Zmj (λ vs H Q E h=>?_) (λ cdv A outer s H vs Q E hr h=>?_)
  . obtain⟨w,S,R,l,ts,ps,rfl,_⟩:=h;rfl
  obtain⟨w,S,R,l,ts,ps,rfl,W,A,hok,hlen,q⟩:=h;refine⟨_,(
(Zf (Zk (Zs QaO (h_ hr) (Za (Je (x:="atom") (cl:=[("world",s.heap.objs.size+1)]) (caps:=[("world",0)]) rfl (ZQ (pv 1)) (λ _ _ _ _ _=>JC) (λ _ _ _ _ _=>(X7 Xa QaP (h_ hr) (Za (pv 1) (Za (pv 0) Zb)))) rfl (by decide +kernel) rfl (by decide +kernel) rfl (λ _ _ h=>h) (Yr rfl) (λ p hp=>by rw[List.mem_singleton.mp hp];exact⟨rfl,rfl,by first|exact .inl rfl|exact .inr rfl⟩) (by decide +kernel)) Zb))))),?_⟩
  unfold ZfR tFn Zi3;refine ZmM (xs:=ps.map V.ref) (λ a H1=>a=l/\H1=H) ?_ ?_ (by rw[length_map,A.len];exact hlen) (λ _=>true) (λ i => .str ((ts[i]?.map (Atm.stand S)).getD "")) ?_ ?_ ?_
  . exact λ R0 r=>⟨_,rfl,r l H ⟨rfl,rfl⟩⟩
  . rintro a H1 ⟨rfl,rfl⟩;exact SqL.of A.lst
  . exact λ a H1 i x H2 hA hx s R0 r=>r H2 (Zj.refl _)
  . rintro a H1 i x H2 ⟨rfl,rfl⟩ hx _ s R0 r;obtain⟨p,t,rfl,ht,hp⟩:=(A.same s).at' hx;have ok:=hok t (mem_of_getElem? ht);have nb:=Atm.ok_bad ok;refine⟨_,rfl,_,rfl,w,S,R,p,t,rfl,W.same s,hp,Atm.ok_len ok,(λ e he=>by rw[nb]at he;cases he),λ _ H3 s3=>?_⟩;have z:=r H3 s3;rw[ht]at z;exact z
  rintro a H1 D H2 ⟨rfl,rfl⟩ hD s h2;rw[Zkr,length_map,A.len,Zhs]at h2;exact⟨D,_,rfl,SqL.of h2,q H2 s⟩
theorem Zd6 {f:Addr}{fd:FuncData}(F:Fun K "children" "Lives.children" XI f fd)(T:Txt K g mg)(Qaj:Yu P w0 K g mg base):FnOk P w0 K mg base (CXR P w0 base) 3 f fd ["self","name"] (JP K g):=by
  refine F.okX ZdX (λ vs H Q E h=>?_) (λ cdv A outer s H vs Q E hr h=>?_)
  . obtain⟨b,bs,ds,R,n,rfl,_⟩:=h;rfl
  obtain⟨b,bs,ds,R,n,rfl,L,q1,q⟩:=h;refine⟨_,(
(Zc (ZD (ZT Xz Qaj (h_ hr) (pv 0) (Za (pv 1) Zb)))
 (Zf (Zk (ZU (show Xt _ (.type "list") (Zgk K) from ZaW) rfl T.z_list boot_list (Za (JU (ZP hr) (Zw (pv 0) rfl) (pv 1) (λ _ _=>rfl)) Zb)))))),?_⟩
  obtain⟨d1,d2,d3,ws,B,k1,k2,eR⟩:=id L.ex;obtain⟨dx,hb⟩:=B.obj;refine⟨_,rfl,b,dx,_,rfl,hb,rfl,_,rfl,b,bs,ds,R,n,rfl,L,q1,λ hn=>?_⟩;obtain⟨a,hw⟩:=Znl k1 k2 hn;have g0:ZY H d3 (.str n) (Y2 (brs ws) (Sum.inr n:Key)):=ZY.k (k:=Sum.inr n) B.h3;rw[ZfP,hw]at g0;exact⟨_,rfl,b,_,dx,_,_,rfl,hb,T.Qab,T.QaH,rfl,_,rfl,d3,_,rfl,g0,a,_,rfl, .inl (SqL.of (B.kids _ (ZfN hw))),λ l hl=>q hn l _ (Zi hl _) hl Ze⟩
theorem Zmy {f:Addr}{fd:FuncData}(F:Fun K "brood" "brood" Zid f fd)(T:Txt K g mg)(Qag:YH P w0 K g mg base)(Qaz:Y6 P w0 K g mg base):FnOk P w0 K mg base CX0 4 f fd ["world","name"] (Zi6 K g):=by
  refine F.ok Zmk (λ vs H Q E h=>?_) (λ cdv A outer s H vs Q E hr h=>?_)
  . obtain⟨w,S,R,n,rfl,_⟩:=h;rfl
  obtain⟨w,S,R,n,rfl,W,q⟩:=h;refine⟨_,(
(Zf (Zk (Y9 (ZS (ZT YU Qag (h_ hr) (Zw (pv 0) rfl) (Za (pv 1) Zb))) (ZT Xa Qaz (h_ hr) (Zw (pv 0) rfl) (Za (pv 1) Zb)) (Z6 Zb))))),?_⟩
  obtain⟨dx,b,hd,RL,hw,L,hh,eR,n1,n2⟩:=W.ex;obtain⟨dy,y1,y2,y3,hb⟩:=L.obj;have wf:=W.wf;walk_at "g";cases hk:has S.bs n with
  |true=>
    refine Yy ?_;walk_at "g";refine⟨(λ e=>by rw[hk]at e;cases e),λ _ l H' s f0 h=>q l H' s f0 (by rw[h,ZmS];rfl)⟩
  |false=>
    refine Z3 ?_;exact⟨zero_le _,λ l hl=>q l _ (Zi hl _) hl (by rw[Ze,XY wf hk];rfl)⟩
theorem Zjr {f:Addr}{fd:FuncData}(F:Fun K "left_out" "left_out" Zc0 f fd)(T:Txt K g mg)(QaQ:ZiR P w0 K g mg base)(Qad:Z7 P w0 K g mg base):FnOk P w0 K mg base CX0 5 f fd ["world","name"] (ZeR K g):=by
  refine F.ok Zjd (λ vs H Q E h=>?_) (λ cdv A outer s H vs Q E hr h=>?_)
  . obtain⟨w,S,R,n,rfl,_⟩:=h;rfl
  obtain⟨w,S,R,n,rfl,W,hlen,q⟩:=h;refine⟨_,(
(Zf (Zk (Je (x:="child") (cl:=[("world",s.heap.objs.size+1)]) (caps:=[("world",0)]) rfl (ZQ (Zs QaQ (h_ hr) (Za (pv 0) (Za (pv 1) Zb)))) (λ _ _ _ _ _=>Yg (Y7 (ZS (ZT YU Qad (h_ hr) (show PE _ _ (tFld K (Zg9 1) "lives") from Zw (pv 1) rfl) (Za (pv 0) Zb))))) (λ _ _ _ _ _=>(pv 0)) rfl (by decide +kernel) rfl (by decide +kernel) rfl (λ _ _ h=>h) (Yr rfl) (λ p hp=>by rw[List.mem_singleton.mp hp];exact⟨rfl,rfl,by first|exact .inl rfl|exact .inr rfl⟩) (by decide +kernel))))),?_⟩
  have wf:=W.wf;unfold ZfR;refine lcS (ss:=Yd S n) (λ l1 H1=>Zj H H1/\H1 l1=some (.lst ((Yd S n).map V.str))/\H l1=none) (λ c => !al S.bs S.ds c) V.str ?_ (λ a H1 h=>SqL.of h.2.1) (by have:=JG wf n;omega) ?_ ?_ ?_
  . intro R0 r;walk_at "g";exact λ l H' s f h=>r l H' ⟨s,h,f⟩
  . rintro a0 H1 x H2 ⟨s1,h1,_⟩ hx s R0 r;obtain⟨dx,b,hd,RL,hw,L,hh,eR,n1,n2⟩:=(W.same (s1.trans s)).ex;obtain⟨dy,y1,y2,y3,hb⟩:=L.obj;walk_at "g";exact r H2 (Zj.refl _)
  . exact λ a H1 x H2 _ hx _ s R0 r=>⟨_,rfl,r H2 (Zj.refl _)⟩
  . rintro a0 H1 D H2 ⟨s1,h1,_⟩ hD s h;exact q D H2 (s1.trans s) (s1.free hD) (by rw[h,out_eq wf])
theorem Zkd {f:Addr}{fd:FuncData}(F:Fun K "members" "members" Zeq f fd)(T:Txt K g mg)(QaQ:ZiR P w0 K g mg base):FnOk P w0 K mg base CX0 5 f fd ["world","name","out"] (ZfU K g):=by
  refine F.ok Zj6 (λ vs H Q E h=>?_) (λ cdv A outer s H vs Q E hr h=>?_)
  . obtain⟨w,S,R,n,o,os,rfl,_⟩:=h;rfl
  obtain⟨w,S,R,n,o,os,rfl,W,ho,hlen,q⟩:=h;refine⟨_,(
(Zf (Zk (Je (x:="child") (cl:=[("out",s.heap.objs.size+1)]) (caps:=[("out",2)]) rfl (ZQ (Zs QaQ (h_ hr) (Za (pv 0) (Za (pv 1) Zb)))) (λ _ _ _ _ _=>Yg (Zo (show OpR _ (compareOp .NotIn) (rIn K true) from ZaN) (pv 0) (pv 1) rfl)) (λ _ _ _ _ _=>(pv 0)) rfl (by decide +kernel) rfl (by decide +kernel) rfl (λ _ _ h=>h) (Yr rfl) (λ p hp=>by rw[List.mem_singleton.mp hp];exact⟨rfl,rfl,by first|exact .inl rfl|exact .inr rfl⟩) (by decide +kernel))))),?_⟩
  have wf:=W.wf;unfold ZfR;refine lcS (ss:=Yd S n) (λ l1 H1=>Zj H H1/\H1 l1=some (.lst ((Yd S n).map V.str))/\H l1=none) (λ c => !decide (c∈os)) V.str ?_ (λ a H1 h=>SqL.of h.2.1) (by have:=JG wf n;omega) ?_ ?_ ?_
  . intro R0 r;walk_at "g";exact λ l H' s f h=>r l H' ⟨s,h,f⟩
  . rintro a0 H1 x H2 ⟨s1,h1,_⟩ hx s R0 r;refine⟨_,rfl,_,rfl,o,_,rfl, .inl ((s1.trans s).seq ho),rfl,Jq os,_,rfl,?_⟩;rw[show(if true=true then !inV (V.str x) (os.map V.str) else inV (V.str x) (os.map V.str)) = !decide (x∈os) from by rw[if_pos rfl,ZaB]];exact r H2 (Zj.refl _)
  . exact λ a H1 x H2 _ hx _ s R0 r=>⟨_,rfl,r H2 (Zj.refl _)⟩
  . rintro a0 H1 D H2 ⟨s1,h1,_⟩ hD s h;exact q D H2 (s1.trans s) (s1.free hD) h
theorem ZjD {f:Addr}{fd:FuncData}(F:Fun K "has_seat" "has_seat" Zdc f fd)(T:Txt K g mg)(QaR:ZeL P w0 K g mg base)(QaM:Zcd P w0 K g mg base):FnOk P w0 K mg base CX0 6 f fd ["world","name","age","out"] (Ze3 K g):=by
  refine F.ok Ze8 (λ vs H Q E h=>?_) (λ cdv A outer s H vs Q E hr h=>?_)
  . obtain⟨w,S,R,n,a,o,os,rfl,_⟩:=h;rfl
  obtain⟨w,S,R,n,a,o,os,rfl,W,ho,hlen,q⟩:=h;refine⟨_,(
(Zc (Xv PassesOwn.never rfl (ZQ (Zs QaR (h_ hr) (Za (pv 0) (Za (pv 1) (Za (pv 3) Zb))))) (ZM (i:=4) Ze8.nd rfl (Or.inl rfl))
 (Zf (Zu (Zo Zd3 (ZT Xa QaM (h_ hr) (pv 0) (Za (pv 4) Zb)) (pv 2) (Zr _))
 (Zf (Zk Xx))
 Zp)))
 (Zf (Zk Xx)))),?_⟩
  have wf:=W.wf;refine⟨_,rfl,_,rfl,_,rfl,w,S,R,n,o,os,rfl,W,ho,hlen,λ l1 H1 s1 f1 h1=>?_⟩;refine⟨l1,rfl,⟨_,SqL.of h1⟩,JJ (xs:=(YI S n os).map V.str) (λ i σ H2=>∃ v4:Option V,σ=[some (.ref w),some (.str n),some (.int a),some (.ref o),v4]/\Zj H1 H2/\((YI S n os).take i).any (λ c=>decide (a<=Xp S c))=false) ⟨_,rfl,Zj.refl _,rfl⟩ ?_ ?_ ?_⟩
  . rintro i σ H2 _ ⟨_,rfl,s2,_⟩;exact SqL.of (s2 _ _ h1)
  . rintro i x σ H2 hx ⟨v4,rfl,s2,no⟩;rw[getElem?_map]at hx;cases e:(YI S n os)[i]? with
    |none=>rw[e]at hx;cases hx
    |some c=>
      rw[e]at hx;cases hx;have hm:=mem_of_getElem? e;have hk:=Z4 wf (YQ hm);have W2:=(W.same s1).same s2;obtain⟨dx,b,hd,RL,hw,L,hh,eR,n1,n2⟩:=W2.ex;refine⟨_,rfl,w,dx,_,rfl,hw,rfl,_,rfl,w,S,R,c,rfl,W2,(λ z=>by rw[hk]at z;cases z),λ y hy=>?_⟩;rw[Zg7 hy];refine⟨_,rfl,_,_,rfl,rfl,_,rfl,Yj (λ cc=>?_) (λ cc=>?_)⟩
      . have z:Ye S n a os=true:=List.any_eq_true.mpr ⟨c,hm,cc⟩;rw[z]at q;exact q H2 (s1.trans s2)
      . refine⟨_,rfl,s2,?_⟩;rw[take_succ,e,List.any_append,no];show(false || ([c].any λ c=>decide (a<=Xp S c)))=false;rw[Bool.false_or,any_cons,List.any_nil,Bool.or_false];exact Bool.eq_false_iff.mpr cc
  . rintro σ H2 ⟨v4,rfl,s2,no⟩;rw[length_map,take_length]at no;have z:Ye S n a os=false:=no;rw[z]at q;exact q H2 (s1.trans s2)
theorem Zkc {f:Addr}{fd:FuncData}(F:Fun K "waiting" "waiting" Zep f fd)(T:Txt K g mg)(QaR:ZeL P w0 K g mg base)(QaN:Zcb P w0 K g mg base):FnOk P w0 K mg base CX0 6 f fd ["world","name","age","out"] (ZfT K g):=by
  refine F.ok Zj5 (λ vs H Q E h=>?_) (λ cdv A outer s H vs Q E hr h=>?_)
  . obtain⟨w,S,R,n,a,o,os,rfl,_⟩:=h;rfl
  obtain⟨w,S,R,n,a,o,os,rfl,W,ho,hlen,q⟩:=h;refine⟨_,(
(Zf (Zk (Je (x:="child") (cl:=[("world",s.heap.objs.size+1),("age",s.heap.objs.size+2)]) (caps:=[("world",0),("age",2)]) rfl (ZQ (Zs QaR (h_ hr) (Za (pv 0) (Za (pv 1) (Za (pv 3) Zb))))) (λ _ _ _ _ _=>Yg (Zo Z1 (Zs QaN (h_ hr) (Za (pv 1) (Za (pv 0) (Za (pv 2) Zb)))) (ZA (v:=.str "hangs") rfl T.Qal ⟨_,rfl⟩) (Zr _))) (λ _ _ _ _ _=>(pv 0)) rfl (by decide +kernel) rfl (by decide +kernel) rfl (L2.cl_sub (λ p hp=>by simp only[mem_cons,not_mem_nil,or_false]at hp;rcases hp with rfl|rfl <;> rfl)) (Yr rfl) (λ p hp=>by simp only[mem_cons,not_mem_nil,or_false]at hp;rcases hp with rfl|rfl <;> exact⟨rfl,rfl,by first|exact .inl rfl|exact .inr rfl⟩) (by decide +kernel))))),?_⟩
  have wf:=W.wf;unfold ZfR;refine lcS (ss:=YI S n os) (λ l1 H1=>Zj H H1/\H1 l1=some (.lst ((YI S n os).map V.str))/\H l1=none) (λ c => !decide (a<=Xp S c) && !has S.ds c) V.str ?_ (λ a H1 h=>SqL.of h.2.1) (by have:=ZaA wf (n:=n) (os:=os);omega) ?_ ?_ ?_
  . intro R0 r;walk_at "g";exact λ l H' s f h=>r l H' ⟨s,h,f⟩
  . rintro a0 H1 x H2 ⟨s1,h1,_⟩ hx s R0 r;have hk:=Z4 wf (YQ hx);obtain⟨y,hy⟩:=XD hk;have W2:=W.same (s1.trans s);refine⟨_,rfl,_,rfl,_,rfl,w,S,R,x,a,y,rfl,W2,hk,hy,rfl,_,rfl,?_⟩;rw[Zbk hy];exact r H2 (Zj.refl _)
  . exact λ a H1 x H2 _ hx _ s R0 r=>⟨_,rfl,r H2 (Zj.refl _)⟩
  . rintro a0 H1 D H2 ⟨s1,h1,_⟩ hD s h;exact q D H2 (s1.trans s) (s1.free hD) h
theorem Zjq {f:Addr}{fd:FuncData}(F:Fun K "may_grow" "may_grow" ZcZ f fd)(T:Txt K g mg)(Qad:Z7 P w0 K g mg base)(Qai:YB P w0 K g mg base):FnOk P w0 K mg base CX0 5 f fd ["world","name"] (ZeQ K g):=by
  refine F.ok Zjc (λ vs H Q E h=>?_) (λ cdv A outer s H vs Q E hr h=>?_)
  . obtain⟨w,S,R,n,rfl,_⟩:=h;rfl
  obtain⟨w,S,R,n,rfl,W,hp,q⟩:=h;refine⟨_,(
(Zf (Zk (ZT YU Qad (h_ hr) (Zw (pv 0) rfl) (Za (ZT Xa Qai (h_ hr) (Zw (pv 0) rfl) (Za (pv 1) Zb)) Zb))))),?_⟩
  obtain⟨dx,b,hd,RL,hw,L,hh,eR,n1,n2⟩:=W.ex;obtain⟨dy,y1,y2,y3,hb⟩:=L.obj;refine⟨_,rfl,w,_,dx,_,_,rfl,hw,T.Qaa,T.Qah,rfl,b,dy,_,rfl,hb,rfl,_,rfl,w,_,dx,_,_,rfl,hw,T.Qaa,T.Qah,rfl,b,dy,_,rfl,hb,rfl,_,rfl,b,S.bs,S.ds,RL,n,rfl,L,by have:=Yx hp;omega,(λ e=>by rw[hp]at e;cases e),λ _ H' s=>?_⟩;exact⟨b,S.bs,S.ds,RL,_,rfl,L.same s,q H' s⟩
theorem Zgx {f:Addr}{fd:FuncData}(F:Fun K "class_stand" "class_stand" J7 f fd)(T:Txt K g mg)(QaS:Zdo P w0 K g mg base)(QaA:Zcs P w0 K g mg base)(QaT:Zds P w0 K g mg base):FnOk P w0 K mg base CX0 7 f fd ["world","name","age","out"] (Zbr K g):=by
  refine F.ok Zf6 (λ vs H Q E h=>?_) (λ cdv A outer s H vs Q E hr h=>?_)
  . obtain⟨w,S,R,n,a,o,os,rfl,_⟩:=h;rfl
  obtain⟨w,S,R,n,a,o,os,rfl,W,ho,hlen,hp,q⟩:=h;refine⟨_,(
(Zc (Zu (PW.pt (Jd (ZS (Zs QaS (h_ hr) (Za (pv 0) (Za (pv 1) Zb)))) (Xm (Zgl (Zs QaA (h_ hr) (Za (pv 0) (Za (pv 1) (Za (pv 2) (Za (pv 3) Zb))))) (λ _=>rfl)))))
 (Zf (Zk (ZA (v:=.str "hangs") rfl T.Qal ⟨_,rfl⟩)))
 Zp)
 (Zf (Zk (Y9 (ZS (Zs QaT (h_ hr) (Za (pv 0) (Za (pv 1) (Za (pv 2) (Za (pv 3) Zb)))))) (ZA (v:=.str "met") rfl T.QaI ⟨_,rfl⟩) (ZA (v:=.str "failed") rfl T.QaJ ⟨_,rfl⟩)))))),?_⟩
  unfold clS at q;refine⟨_,rfl,_,rfl,w,S,R,n,rfl,W,hp,λ H1 s1=>⟨_,rfl,?_⟩⟩;cases ha:al S.bs S.ds (nr S.bs n) with
  |true=>
    rw[ha]at q;exact Yy (q H1 s1)
  |false=>
    rw[ha,Bool.false_or]at q;refine Z3 ⟨_,rfl,_,rfl,_,rfl,_,rfl,w,S,R,n,a,o,os,rfl,W.same s1,s1.seq ho,hlen,λ l2 H2 s2 f2 h2=>⟨_, .inl ⟨_,SqL.of h2,rfl⟩,?_⟩⟩;have e2:((ZH S n a os).map V.str).isEmpty=(ZH S n a os).isEmpty:=by cases ZH S n a os <;> rfl
    rw[e2];cases hw:(ZH S n a os).isEmpty with
    |false=>
      rw[hw]at q;exact Yy (q H2 (s1.trans s2))
    |true=>
      rw[hw]at q;have s12:=s1.trans s2;refine Z3 ⟨_,rfl,_,rfl,_,rfl,_,rfl,w,S,R,n,a,o,os,rfl,W.same s12,s12.seq ho,hlen,λ H3 s3=>⟨_,rfl,?_⟩⟩;cases hs:Ye S n a os with
      |true=>rw[hs]at q;exact q H3 (s12.trans s3)
      |false=>rw[hs]at q;exact q H3 (s12.trans s3)
theorem Zil {f:Addr}{fd:FuncData}(F:Fun K "want_word" "want_word" ZbI f fd)(T:Txt K g mg)(QaL:Zb8 P w0 K g mg base):FnOk P w0 K mg base (CXR P w0 base) 3 f fd ["word"] (ZdB K g):=by
  refine F.okX Zh4 (λ vs H Q E h=>?_) (λ cdv A outer s H vs Q E hr h=>?_)
  . obtain⟨x,rfl,_⟩:=h;rfl
  obtain⟨x,rfl,hx,qe,q⟩:=h;refine⟨_,(
(Zf (Zu (Y7 (ZS (Zs QaL (h_ hr) (Za (pv 0) Zb))))
 (Zf (Y8 T.Qbs.x T.Qbr Zl))
 Zp))),?_⟩
  refine⟨_,rfl,x,rfl,hx,_,rfl,?_⟩;cases hg:gw x with
  |false=>exact Yy ⟨rfl,qe hg⟩
  |true=>exact Z3 (q hg)
theorem Zd7 {f:Addr}{fd:FuncData}(F:Fun K "__init__" "Lives.__init__" XJ f fd)(T:Txt K g mg)  : FnOk P w0 K mg base CX0 1 f fd ["self"] (JQ K g):=by
  refine F.ok ZdY (λ vs H Q E h=>?_) (λ cdv A outer s H vs Q E hr h=>?_)
  . obtain⟨b,dx,rfl,_⟩:=h;rfl
  obtain⟨b,dx,rfl,hb,q⟩:=h;refine⟨_,(
(Zc (Zey (pv 0) Xw rfl)
 (Zc (Zey (pv 0) Xw rfl)
 (Zf (Zey (pv 0) Xw rfl))))),?_⟩
  intro d1 h1;have n1:b≠d1:=ZC hb h1;refine⟨_,rfl,b,_,dx,_,rfl,(by rw[Zh n1];exact hb),T.Qab,T.Qan,by decide,?_⟩;intro d2 h2;have z2:d2≠b:=λ e=>by rw[e,Ze]at h2;cases h2
  rw[Zh z2]at h2;have z21:d2≠d1:=λ e=>by rw[e,Ze]at h2;cases h2
  rw[Zh z21]at h2;refine⟨_,rfl,b,_,dx,_,rfl,(by rw[Zh (Ne.symm z2),Ze]),T.Qab,T.QaG,(by show 1<1000;decide),?_⟩;intro d3 h3;have z3:d3≠b:=λ e=>by rw[e,Ze]at h3;cases h3
  rw[Zh z3]at h3;have z32:d3≠d2:=λ e=>by rw[e,Ze]at h3;cases h3
  rw[Zh z32,Zh z3]at h3;have z31:d3≠d1:=λ e=>by rw[e,Ze]at h3;cases h3
  rw[Zh z31]at h3;refine⟨_,rfl,b,_,dx,_,rfl,(by rw[Zh (Ne.symm z3),Ze]),T.Qab,T.QaH,(by show 2<1000;decide),?_⟩;refine q (Zb3 b d1 d2 d3 []) _ ⟨λ a o na e=>?_,λ a e=>?_⟩ (λ a ha=>?_) ⟨⟨d1,d2,d3,[],⟨⟨dx,Ze⟩,?_,?_,?_,Ne.symm z21,Ne.symm z31,Ne.symm z32,(λ _ h=>nomatch h), .nil⟩,rfl,(λ _ h=>nomatch h),rfl⟩,Wf.nil⟩
  . have na:a≠b:=λ z=>na (by simp[z]);have a1:a≠d1:=ZC e h1;have a2:a≠d2:=ZC e h2;have a3:a≠d3:=ZC e h3;rw[Zh na,Zh a3,Zh na,Zh a2,Zh na,Zh a1];exact e
  . by_cases na:a=b
    . rw[na,Ze]at e;cases e
    . rw[Zh na]at e
      by_cases a3:a=d3
      . rw[a3,Ze]at e;cases e
      . rw[Zh a3,Zh na]at e
        by_cases a2:a=d2
        . rw[a2,Ze]at e;cases e
        . rw[Zh a2,Zh na]at e
          by_cases a1:a=d1
          . rw[a1,Ze]at e;cases e
          . rw[Zh a1]at e;exact e
  . unfold Zb3 at ha;simp only[mem_cons,map_nil,not_mem_nil,or_false]at ha;rcases ha with rfl|rfl|rfl|rfl
    . exact .inl rfl
    . exact .inr h1
    . exact .inr h2
    . exact .inr h3
  . rw[Zh (Ne.symm n1),Zh (Ne.symm z31),Zh (Ne.symm n1),Zh (Ne.symm z21),Zh (Ne.symm n1),Ze];rfl
  . rw[Zh z2,Zh (Ne.symm z32),Zh z2,Ze];rfl
  . rw[Zh z3,Ze];rfl
theorem ZgE {f:Addr}{fd:FuncData}(F:Fun K "enter" "Lives.enter" Zae f fd)(T:Txt K g mg)  : FnOk P w0 K mg base CX0 1 f fd ["self","name","year"] (Zby K g):=by
  refine F.ok Zgd (λ vs H Q E h=>?_) (λ cdv A outer s H vs Q E hr h=>?_)
  . obtain⟨b,d1,d2,d3,bs,ds,ws,n,y,rfl,_⟩:=h;rfl
  obtain⟨b,d1,d2,d3,bs,ds,ws,n,y,rfl,B,hn,hw,l1,l2,q⟩:=h;refine⟨_,(
(Zc (XT (ZP hr) (Zw (pv 0) rfl) (pv 1) (pv 2) rfl)
 (Zf (XT (ZP hr) (Zw (pv 0) rfl) (pv 1) (Z6 Zb) rfl)))),?_⟩
  obtain⟨dx,hb⟩:=B.obj;obtain⟨nb1,nb2,nb3⟩:=B.bne;have v0:Y2 (yrs bs) (Sum.inr n:Key)=none:=by
    have z:=Zy bs n;rw[hn]at z;cases e:Y2 (yrs bs) (Sum.inr n:Key) with
    |none=>rfl
    |some v=>rw[e]at z;cases z
  refine⟨_,rfl,_,rfl,b,_,dx,_,_,rfl,hb,T.Qab,T.Qan,rfl,_,rfl,d1,_,rfl,Zej.k (k:=Sum.inr n) B.h1 (Zz (by unfold yrs;rw[length_map];omega)),?_⟩;rw[Xu _ v0];have e1:yrs bs++[((Sum.inr n:Key),V.int y)]=yrs (bs++[(n,y)]):=by unfold yrs;rw[map_append];rfl
  rw[e1];refine⟨zero_le _,λ l hl=>?_⟩;obtain⟨B2,kp⟩:=B.entered (n:=n) (y:=y) hl rfl rfl;have hl0:H l=none:=by
    have z:d1≠l:=λ e=>by rw[<- e,Ze]at hl;cases hl
    rw[Zh (Ne.symm z)]at hl;exact hl
  have nlb:b≠l:=λ e=>by rw[e,hl0]at hb;cases hb
  have nl3:d3≠l:=λ e=>by have:=B.h3;rw[e,hl0]at this;cases this
  refine⟨_,rfl,b,_,dx,_,_,rfl,(by rw[Zh nlb,Zh nb1];exact hb),T.Qab,T.QaH,rfl,_,rfl,d3,_,rfl,Zej.k (k:=Sum.inr n) (by rw[Zh nl3,Zh (Ne.symm B.n13)];exact B.h3) (Zz (by unfold brs;rw[length_map];omega)),?_⟩;rw[Xu _ hw];have e3:brs ws++[((Sum.inr n:Key),V.ref l)]=brs (ws++[(n,l,0)]):=by unfold brs;rw[map_append];rfl
  rw[e3];exact q l _ hl0 kp B2
theorem ZcB {f:Addr}{fd:FuncData}(F:Fun K "want_alive" "Lives.want_alive" Xl f fd)(T:Txt K g mg)(Qaj:Yu P w0 K g mg base)(Qad:Z7 P w0 K g mg base):FnOk P w0 K mg base (CXR P w0 base) 3 f fd ["self","name"] (Jc K g):=by
  refine F.okX Zcy (λ vs H Q E h=>?_) (λ cdv A outer s H vs Q E hr h=>?_)
  . obtain⟨b,bs,ds,R,n,rfl,_⟩:=h;rfl
  obtain⟨b,bs,ds,R,n,rfl,L,q1,q2,q⟩:=h;refine⟨_,(
(Zc (ZD (ZT Xz Qaj (h_ hr) (pv 0) (Za (pv 1) Zb)))
 (Zf (Zu (Y7 (ZS (ZT YU Qad (h_ hr) (pv 0) (Za (pv 1) Zb))))
 (Zf (Y8 T.Qdv.x T.Qdt Zl))
 Zp)))),?_⟩
  obtain⟨d1,d2,d3,ws,B,k1,k2,eR⟩:=id L.ex;obtain⟨dx,hb⟩:=B.obj;refine⟨_,rfl,b,dx,_,rfl,hb,rfl,_,rfl,b,bs,ds,R,n,rfl,L,q1,λ hn=>?_⟩;refine⟨_,rfl,b,dx,_,rfl,hb,rfl,_,rfl,b,bs,ds,R,n,rfl,L,_,rfl,?_⟩;unfold al;rw[hn];cases e:has ds n with
  |false=>exact Z3 (q hn e)
  |true=>exact Yy ⟨rfl,q2 hn e⟩
theorem ZfB {f:Addr}{fd:FuncData}(F:Fun K "arrive" "Lives.arrive" JA f fd)(T:Txt K g mg)(QaU:Zb4 P w0 K g mg base)(Qag:YH P w0 K g mg base)(QaV:Zal P w0 K g mg base):FnOk P w0 K mg base (CXR P w0 base) 4 f fd ["self","word","born"] (Za2 K g):=by
  refine F.okX Zfu (λ vs H Q E h=>?_) (λ cdv A outer s H vs Q E hr h=>?_)
  . obtain⟨b,bs,ds,R,n,y,rfl,_⟩:=h;rfl
  obtain⟨b,bs,ds,R,n,y,rfl,L,hx,hl,q1,q2,q⟩:=h;refine⟨_,(
(Zc (ZD (X7 Xz QaU (h_ hr) (Za (pv 1) Zb)))
 (Zc (Zu (ZS (ZT YU Qag (h_ hr) (pv 0) (Za (pv 1) Zb)))
 (Zf (Y8 T.Qc3.x T.Qc0 Zl))
 Zp)
 (Zf (ZD (ZT YU QaV (h_ hr) (pv 0) (Za (pv 1) (Za (pv 2) Zb)))))))),?_⟩
  obtain⟨d1,d2,d3,ws,B,k1,k2,eR⟩:=id L.ex;obtain⟨dx,hb⟩:=B.obj;have wl:ws.length=bs.length:=by rw[<- length_map (f:=λ p=>p.1),k1,length_map]
  refine⟨_,rfl,n,rfl,hx,q1,λ hg=>?_⟩;refine⟨_,rfl,b,dx,_,rfl,hb,rfl,_,rfl,b,bs,ds,R,n,rfl,L,_,rfl,?_⟩;cases hn:has bs n with
  |true=>exact Yy ⟨rfl,q2 hg hn⟩
  |false=>
    refine Z3 ?_;refine⟨_,rfl,b,dx,_,rfl,hb,rfl,_,rfl,_,rfl,b,d1,d2,d3,bs,ds,ws,n,y,rfl,B,hn,ZmC k1 hn,by omega,by omega,λ l H' hl0 kp B2=>?_⟩;have c:=ZjR (l:=l) (y:=y) L.wf k1 k2 hg hn;subst eR;exact q hg hn _ H' (kp.wide (λ a ha=>by simp only[mem_cons,not_mem_nil,or_false]at ha;rcases ha with rfl|rfl;exact Zcr.2.1;exact Zcr.2.2.2.1)) (ZhE rfl hl0) ⟨⟨d1,d2,d3,_,B2,c.1,c.2,rfl⟩,L.wf.arrive hg hn (by omega)⟩
theorem ZgG {f:Addr}{fd:FuncData}(F:Fun K "birth" "Lives.birth" Zag f fd)(T:Txt K g mg)(QaW:Xn P w0 K g mg base)(QaV:Zal P w0 K g mg base):FnOk P w0 K mg base (CXR P w0 base) 4 f fd ["self","name","year"] (ZbA K g):=by
  refine F.okX ZbH (λ vs H Q E h=>?_) (λ cdv A outer s H vs Q E hr h=>?_)
  . obtain⟨b,bs,ds,R,n,y,rfl,_⟩:=h;rfl
  obtain⟨b,bs,ds,R,n,y,rfl,L,hl,h99,q1,q2,q3,q⟩:=h;refine⟨_,(
(Zc (ZD (ZT Xz QaW (h_ hr) (pv 0) (Za (pv 1) Zb)))
 (Zc (Zu (Zo Zd3 (YJ plainAttrs_str slot_str_count type_str_count XX (pv 1) (Za Zl Zb)) (ZA (v:=.int 5) rfl T.Qc4 ⟨_,rfl⟩) (Zr _))
 (Zf (Y8 T.Qdx.x T.Qdu Zl))
 Zp)
 (Zc (Zt (i:=3) ZbH.nd rfl (Or.inl rfl) (pe_fs (pv 1) (Zq Z8 (Zx ZO rfl T.z_len boot_len (Za (JU (ZP hr) (Zw (pv 0) rfl) (pv 1) (λ _ _=>rfl)) Zb)) Zd)))
 (Zc (ZD (YJ plainAttrs_list PySem.F.slot_list_append PySem.F.type_list_append YA (JU (ZP hr) (Zw (pv 0) rfl) (pv 1) (λ _ _=>rfl)) (Za (pv 3) Zb)))
 (Zc (ZD (ZT YU QaV (h_ hr) (pv 0) (Za (pv 3) (Za (pv 2) Zb))))
 (Zf (Zk (pv 3))))))))),?_⟩
  obtain⟨d1,d2,d3,ws,B,k1,k2,eR⟩:=id L.ex;obtain⟨dx,hb⟩:=B.obj;have wl:ws.length=bs.length:=by rw[<- length_map (f:=λ p=>p.1),k1,length_map]
  refine⟨_,rfl,b,dx,_,rfl,hb,rfl,_,rfl,b,bs,ds,R,n,rfl,L,q1,q2,λ hn hd=>?_⟩;refine⟨_,rfl,rfl,n,dot,rfl,rfl,_,_,rfl,rfl,_,rfl,Yj (λ z=>?_) (λ z=>?_)⟩
  . exact⟨rfl,q3 hn hd (by have z':=of_decide_eq_true z;unfold Yl;omega)⟩
  have hdot:Yl n<5:=by
    have z':¬ ((5:Int)<=(Yl n:Nat)):=λ w=>z (decide_eq_true w);omega
  have hx:=Yx (L.wf.wrt n hn);obtain⟨a,hw⟩:=Znl k1 k2 hn;have g0:ZY H d3 (.str n) (Y2 (brs ws) (Sum.inr n:Key)):=ZY.k (k:=Sum.inr n) B.h3;rw[ZfP,hw]at g0;have ha:=B.kids _ (ZfN hw);have kl:(YF n (nk bs n)).length=nk bs n:=by unfold YF;rw[length_map,length_range]
  have c0:(0:Int)<=((nk bs n:Nat):Int)+1:=by omega
  have c1:((nk bs n:Nat):Int)+1<131:=by omega
  have tl:=ZfQ c0 c1;have l3:(n++dot).length=n.length+1:=by rw[YO];rfl
  refine⟨_,rfl,n,rfl,ZB (by omega),ZB (by rw[show(n++(".":Str)).length=n.length+1 from l3];omega),?_⟩;refine⟨_,rfl,b,_,dx,_,_,rfl,hb,T.Qab,T.QaH,rfl,_,rfl,d3,_,rfl,g0,_,_,rfl, .inl ⟨_,SqL.of ha,rfl⟩,_,_,rfl,rfl,((nk bs n:Nat):Int)+1,(by rw[kl]),Jo c0 c1,ZB (by rw[YO,show(n++(".":Str)).length=n.length+1 from l3];omega),?_⟩;refine⟨_,rfl,b,_,dx,_,_,rfl,hb,T.Qab,T.QaH,rfl,_,rfl,d3,_,rfl,g0, .inl ⟨rfl,_,SqL.of ha⟩,_,rfl,a,_,_,rfl,rfl,ha,Zz (by rw[kl];omega),?_⟩;rw[show YF n (nk bs n)++[V.str (n++(".":Str)++(toString (((nk bs n:Nat):Int)+1):Str))]=YF n (nk bs n+1) from ZhB n (nk bs n)];have hk:(ws.map λ p=>p.1).Nodup:=by rw[k1];exact L.wf.nod
  have B2:=B.grown hk (ZfN hw);obtain⟨dx2,hb2⟩:=B2.obj;have hn2:=L.wf.no_kid n;refine⟨_,rfl,b,dx2,_,rfl,hb2,rfl,_,rfl,_,rfl,b,d1,d2,d3,bs,ds,L2.bump ws n,kid n (nk bs n),y,rfl,B2,hn2,by rw[ZjV];exact ZmC k1 hn2,by omega,by unfold L2.bump;rw[length_map];omega,λ l H' hl1 kp B3=>?_⟩;have hl0:H l=none:=by
    have z:l≠a:=λ e=>by rw[e,Ze]at hl1;cases hl1
    rw[Zh z]at hl1;exact hl1
  have c:=ZjS (l:=l) (y:=y) L.wf k1 k2 hn (by omega);subst eR;refine⟨_,rfl,q hn hd hdot _ H' ?_ (ZhE (ZjX ws n) hl0) ⟨⟨d1,d2,d3,_,B3,c.1,c.2,rfl⟩,L.wf.birth hn hdot (by omega) h99⟩⟩;have k0:Yz (Zb3 b d1 d2 d3 ws) H (upd H a (.lst (YF n (nk bs n+1)))):=Xd.wide (λ x hx=>by rw[List.mem_singleton.mp hx];exact Zcr.2.2.2.2 _ (ZfN hw));exact k0.tr kp (λ x hx=>by simp only[mem_cons,not_mem_nil,or_false]at hx;rcases hx with rfl|rfl;exact .inl Zcr.2.1;exact .inl Zcr.2.2.2.1)
theorem ZgF {f:Addr}{fd:FuncData}(F:Fun K "death" "Lives.death" Zaf f fd)(T:Txt K g mg)(QaW:Xn P w0 K g mg base):FnOk P w0 K mg base (CXR P w0 base) 4 f fd ["self","name","year"] (Zbz K g):=by
  refine F.okX Zge (λ vs H Q E h=>?_) (λ cdv A outer s H vs Q E hr h=>?_)
  . obtain⟨b,bs,ds,R,n,y,rfl,_⟩:=h;rfl
  obtain⟨b,bs,ds,R,n,y,rfl,L,hl,q1,q2,q⟩:=h;refine⟨_,(
(Zc (ZD (ZT Xz QaW (h_ hr) (pv 0) (Za (pv 1) Zb)))
 (Zf (XT (ZP hr) (Zw (pv 0) rfl) (pv 1) (pv 2) rfl)))),?_⟩
  obtain⟨d1,d2,d3,ws,B,k1,k2,eR⟩:=id L.ex;obtain⟨dx,hb⟩:=B.obj;refine⟨_,rfl,b,dx,_,rfl,hb,rfl,_,rfl,b,bs,ds,R,n,rfl,L,q1,q2,λ hn hd=>?_⟩;refine⟨_,rfl,_,rfl,b,_,dx,_,_,rfl,hb,T.Qab,T.QaG,rfl,_,rfl,d2,_,rfl,Zej.k (k:=Sum.inr n) B.h2 (Zz (by unfold yrs;rw[length_map];omega)),?_⟩;rw[Xu _ (Zcn hd),Zci];obtain⟨B2,kp⟩:=B.died (ds':=ds++[(n,y)]);subst eR;exact q hn hd _ (kp.wide (λ a ha=>by rw[List.mem_singleton.mp ha];exact Zcr.2.2.1)) ⟨⟨d1,d2,d3,ws,B2,k1,k2,rfl⟩,L.wf.death hn⟩
theorem ZeG {f:Addr}{fd:FuncData}(F:Fun K "born_in" "Lives.born_in" X6 f fd)(T:Txt K g mg)(Qaj:Yu P w0 K g mg base):FnOk P w0 K mg base (CXR P w0 base) 3 f fd ["self","name"] (Zau K g):=by
  refine F.okX Zeo (λ vs H Q E h=>?_) (λ cdv A outer s H vs Q E hr h=>?_)
  . obtain⟨b,bs,ds,R,n,rfl,_⟩:=h;rfl
  obtain⟨b,bs,ds,R,n,rfl,L,q1,q⟩:=h;refine⟨_,(
(Zc (ZD (ZT Xz Qaj (h_ hr) (pv 0) (Za (pv 1) Zb)))
 (Zf (Zk (JU (ZP hr) (Zw (pv 0) rfl) (pv 1) (λ _ _=>rfl)))))),?_⟩
  obtain⟨d1,d2,d3,ws,B,k1,k2,eR⟩:=id L.ex;obtain⟨dx,hb⟩:=B.obj;refine⟨_,rfl,b,dx,_,rfl,hb,rfl,_,rfl,b,bs,ds,R,n,rfl,L,q1,λ hn=>?_⟩;have hn':=hn;unfold has at hn';cases hy:yr bs n with
  |none=>rw[hy]at hn';cases hn'
  |some y=>
    have g0:=B.births n;rw[YN,hy]at g0;exact⟨_,rfl,b,_,dx,_,_,rfl,hb,T.Qab,T.Qan,rfl,_,rfl,d1,_,rfl,g0,q y hy⟩
theorem ZgC {f:Addr}{fd:FuncData}(F:Fun K "names" "Lives.names" Zac f fd)(T:Txt K g mg)  : FnOk P w0 K mg base CX0 1 f fd ["self"] (Zbw K g):=by
  refine F.ok Zgb (λ vs H Q E h=>?_) (λ cdv A outer s H vs Q E hr h=>?_)
  . obtain⟨b,bs,ds,R,rfl,_⟩:=h;rfl
  obtain⟨b,bs,ds,R,rfl,L,q⟩:=h;refine⟨_,(
(Zf (Zk (ZU (Zg5 rfl) rfl T.z_list boot_list (Za (Zw (pv 0) rfl) Zb))))),?_⟩
  obtain⟨d1,d2,d3,ws,B,k1,k2,eR⟩:=id L.ex;obtain⟨dx,hb⟩:=B.obj;refine⟨_,rfl,b,_,dx,_,_,rfl,hb,T.Qab,T.Qan,rfl,d1,_,rfl, .inl B.h1,λ l hl=>?_⟩;have e:(yrs bs).map (λ p=>kV p.1)=bs.map λ p=>V.str p.1:=by
    unfold yrs;rw[map_map];rfl
  rw[e];exact q l _ (Zi hl _) hl Ze
theorem ZfA {f:Addr}{fd:FuncData}(F:Fun K "living" "Lives.living" Jz f fd)(T:Txt K g mg)  : FnOk P w0 K mg base CX0 1 f fd ["self"] (Za1 K g):=by
  refine F.ok Zft (λ vs H Q E h=>?_) (λ cdv A outer s H vs Q E hr h=>?_)
  . obtain⟨b,bs,ds,R,rfl,_⟩:=h;rfl
  obtain⟨b,bs,ds,R,rfl,L,q⟩:=h;obtain⟨d1,d2,d3,ws,B,k1,k2,eR⟩:=id L.ex;have hlen:bs.length<1000:=L.wf.lim;obtain⟨dx,hb⟩:=B.obj;refine⟨_,(
(Zf (Zk (ZkM (d:=d1) (kvs:=yrs bs) (Je (x:="name") (cl:=[("self",s.heap.objs.size+1)]) (caps:=[("self",0)]) rfl (Zij (Zw (pv 0) rfl)) (λ _ _ _ _ _=>Yg (YM (Yt (ZP hr) (pv 0) (show PE _ _ (tFld K (Zg9 1) "deaths") from Zw (pv 1) rfl)))) (λ _ _ _ _ _=>(pv 0)) rfl (by decide +kernel) rfl (by decide +kernel) rfl (λ _ _ h=>h) (Yr rfl) (λ p hp=>by rw[List.mem_singleton.mp hp];exact⟨rfl,rfl,by first|exact .inl rfl|exact .inr rfl⟩) (by decide +kernel)))))),?_⟩
  obtain⟨nb1,nb2,nb3⟩:=B.bne;have yl:(yrs bs).length=bs.length:=by unfold yrs;rw[length_map]
  refine⟨B.h1,_,rfl,b,_,dx,_,_,rfl,hb,T.Qab,T.Qan,rfl,d1,_,rfl,B.h1,λ o D hD=>⟨λ i m H2=>i<=bs.length/\m=bs.length - i/\H2=upd (upd H d1 (.frz o (.dK (yrs bs)))) D (.lst (((bs.take i).filter λ p => !has ds p.1).map λ p=>V.str p.1)),⟨bs.length,zero_le _,rfl,rfl⟩,?_⟩⟩;have n1:D≠d1:=λ e=>by rw[e,Ze]at hD;cases hD
  have hD0:H D=none:=by rw[Zh n1]at hD;exact hD
  have nb:b≠D:=ZC hb hD0;have n2:d2≠D:=ZC B.h2 hD0;rintro i m H2 ⟨hi,rfl,rfl⟩
  by_cases ci:i<bs.length
  . refine .inr ⟨⟨by rw[Zh (Ne.symm n1),Ze],by rw[yl];exact ci⟩,λ x H' ⟨e,k,v,ek,ex⟩=>?_⟩;subst e;have ek':(yrs bs)[i]? = some ((Sum.inr (bs[i]).1:Key),V.int (bs[i]).2):=by unfold yrs;rw[getElem?_map,getElem?_eq_getElem ci];rfl
    rw[ek']at ek;cases ek;subst ex;have g:ZY (upd (upd H d1 (.frz o (.dK (yrs bs)))) D (.lst (((bs.take i).filter λ p => !has ds p.1).map λ p=>V.str p.1))) d2 (.str (bs[i]).1) (Y2 (yrs ds) (Sum.inr (bs[i]).1:Key)):=ZY.k (k:=Sum.inr (bs[i]).1) (by rw[Zh n2,Zh (Ne.symm B.n12)];exact B.h2);refine⟨_,rfl,_,rfl,b,_,dx,_,_,rfl,(by rw[Zh nb,Zh nb1];exact hb),T.Qab,T.QaG,rfl,d2,_,rfl,g,_,rfl,?_⟩;rw[Zy];have tk:bs.take (i+1)=bs.take i++[bs[i]]:=(Zel ci).symm;cases e:has ds (bs[i]).1 with
    |true=>
      refine Z3 ⟨bs.length - (i+1),by omega,ci,rfl,?_⟩;rw[tk,filter_append];simp[e]
    |false=>
      refine Yy ⟨_,rfl,_,bs.length - (i+1),Ze,Zz ?_,by omega,ci,rfl,?_⟩
      . rw[length_map];exact le_trans (length_filter_le _ _) (by rw[length_take];omega)
      . rw[ZhX,tk,filter_append,map_append];simp[e];rfl
  . have e:i=bs.length:=by omega
    subst e;refine .inl ⟨⟨by rw[Zh (Ne.symm n1),Ze],by rw[yl];exact le_refl _⟩,o,by rw[Zh (Ne.symm n1),Ze],?_⟩;rw[take_length];have eq:upd (upd (upd H d1 (.frz o (.dK (yrs bs)))) D (.lst ((bs.filter λ p => !has ds p.1).map λ p=>V.str p.1))) d1 (.dK (yrs bs))=upd H D (.lst ((bs.filter λ p => !has ds p.1).map λ p=>V.str p.1)):=by
      funext a
      by_cases ha:a=d1
      . rw[ha,Ze,Zh (Ne.symm n1),B.h1]
      . rw[Zh ha]
        by_cases hA:a=D
        . rw[hA,Ze,Ze]
        . rw[Zh hA,Zh ha,Zh hA]
    rw[eq];exact q D _ (Zi hD0 _) hD0 Ze
theorem ZjC {f:Addr}{fd:FuncData}(F:Fun K "is_class" "is_class" Zdb f fd)(T:Txt K g mg)  : FnOk P w0 K mg base CX0 1 f fd ["holder"] (Ze2 K g):=by
  refine F.ok Zjg (λ vs H Q E h=>?_) (λ cdv A outer s H vs Q E hr h=>?_)
  . obtain⟨p,h,rfl,_⟩:=h;rfl
  obtain⟨p,h,rfl,hp,q⟩:=h;refine⟨_,(
(Zf (Zk (YE Z1 (Zn Zm (pv 0) Zd (λ _ _=>rfl)) Zl (Zr _))))),?_⟩
  cases h with
  |one n=>
    walk_at "g";rw[Xg,decide_eq_false (by decide +kernel)];exact q
  |kids n a=>
    walk_at "g";rw[decide_eq_true rfl];exact q
theorem Zgt {f:Addr}{fd:FuncData}(F:Fun K "left_out_of" "left_out_of" J2 f fd)(T:Txt K g mg)(Qae:YZ P w0 K g mg base)(QaX:Zdp P w0 K g mg base):FnOk P w0 K mg base CX0 6 f fd ["world","holder"] (Zbn K g):=by
  refine F.ok Zf1 (λ vs H Q E h=>?_) (λ cdv A outer s H vs Q E hr h=>?_)
  . obtain⟨w,S,R,p,h,rfl,_⟩:=h;rfl
  obtain⟨w,S,R,p,h,rfl,W,hlen,hp,q⟩:=h;refine⟨_,(
(Zf (Zk (Y9 (ZS (Zs Qae (h_ hr) (Za (pv 1) Zb))) (Zs QaX (h_ hr) (Za (pv 0) (Za (Zn Zm (pv 1) Zd (λ _ _=>rfl)) Zb))) (Z6 Zb))))),?_⟩
  have hl9:S.bs.length<=900:=by omega
  cases h with
  |one n=>
    walk_at "g";exact λ l hl=>q l _ (Zi hl _) hl Ze
  |kids n a=>
    walk_at "g";exact λ l H' s f h=>q l H' s f h
theorem Zlz {f:Addr}{fd:FuncData}(F:Fun K "wanted" "wanted" Zgh f fd)(T:Txt K g mg)(Qae:YZ P w0 K g mg base):FnOk P w0 K mg base CX0 2 f fd ["holder","atoms"] (Zhu K g):=by
  refine F.ok Zln (λ vs H Q E h=>?_) (λ cdv A outer s H vs Q E hr h=>?_)
  . obtain⟨p,l,h,ts,ps,rfl,_⟩:=h;rfl
  obtain⟨p,l,h,ts,ps,rfl,hp,A0,tl,q⟩:=h;refine⟨_,(
(Zf (Zk (Y9 (ZS (Zs Qae (h_ hr) (Za (pv 0) Zb))) (ZU (show Xt _ (.type "list") (Zgk K) from ZaW) rfl T.z_list boot_list (Za (pv 1) Zb)) (Zq Zgq (pv 1) (Z6 (Za (Yc (Za Zl (Za (Zn Zm (pv 0) Zd (λ _ _=>rfl)) Zb))) Zb))))))),?_⟩
  have hlS:=SqL.of (K:=K) A0.lst;have hlst:=A0.lst;cases h with
  |one n=>
    walk_at "g";intro p1 hp1;have s1:=Zi hp1 (.tup [V.str "born",V.str n]);refine⟨ZB (by show 1<=500;omega),λ p2 hp2=>?_⟩;have s2:=Zi hp2 (.lst [V.ref p1]);have A2:=(A0.same s1).same s2;refine⟨l,p2,_,_,rfl,rfl,A2.lst,Ze,ZB (by rw[length_map,A0.len];show _+1<=500;omega),λ p3 hp3=>?_⟩;have s3:=Zi hp3 (.lst (ps.map V.ref++[V.ref p1]));exact q p3 (ps++[p1]) _ ((s1.trans s2).trans s3) (s1.free (s2.free hp3)) ((A2.same s3).snoc (t:=.born n) (s3 _ _ (s2 _ _ Ze)) Ze)
  |kids n a=>
    walk_at "g";intro l1 hl1;exact q l1 ps _ (Zi hl1 _) hl1 ((A0.same (Zi hl1 _)).copy Ze)
theorem Zgs {f:Addr}{fd:FuncData}(F:Fun K "whole_stand" "whole_stand" J1 f fd)(T:Txt K g mg)(QbA:Zk9 P w0 K g mg base)(QaO:Zdn P w0 K g mg base)(QaY:ZgX P w0 K g mg base)(Qae:YZ P w0 K g mg base)(QbB:ZcP P w0 K g mg base):FnOk P w0 K mg base CX0 9 f fd ["world","holder","atoms","out"] (Zbm K g):=by
  refine F.ok ZbE (λ vs H Q E h=>?_) (λ cdv A outer s H vs Q E hr h=>?_)
  . obtain⟨w,S,R,p,l,h,ts,ps,o,rfl,_⟩:=h;rfl
  obtain⟨w,S,R,p,l,h,ts,ps,o,rfl,W,hlen,hp,A0,oh,ok,tl,ho,q⟩:=h;refine⟨_,(
(Zc (Zt (i:=4) ZbE.nd rfl (Or.inl rfl) (Zs QbA (h_ hr) (Za (pv 0) (Za (Zs QaY (h_ hr) (Za (pv 1) (Za (pv 2) Zb))) Zb))))
 (Zc (Zu (PW.pt (Jd (Zo Z1 (pv 4) (ZA (v:=.str "failed") rfl T.QaJ ⟨_,rfl⟩) (Zr _)) (Xm (Y7 (ZS (Zs Qae (h_ hr) (Za (pv 1) Zb)))))))
 (Zf (Zk (pv 4)))
 Zp)
 (Zf (Zk (Zs QaO (h_ hr) (Za (Z6 (Za (pv 4) (Za (Zs QbB (h_ hr) (Za (pv 0) (Za (Zn Zm (pv 1) Zd (λ _ _=>rfl)) (Za (Zn Zm (pv 1) Zd (λ _ _=>rfl)) (Za (pv 3) Zb))))) Zb))) Zb))))))),?_⟩
  have tl100:ts.length<=100:=by omega
  walk_at "g";intro l1 p1 H1 s1 f1 A1;have W1:=W.same s1;have ok1:=Zdx oh ok;have tl1:(Zam h ts).length<=900:=by have:=ZfO h ts;omega
  walk_at "g";intro H2 s2;have hp2:=s2 _ _ (s1 _ _ hp);have s12:=s1.trans s2;have W2:=W1.same s2;have ho2:=s12 _ _ ho;cases h with
  |one n=>
    refine⟨_,rfl,rfl,_,rfl,Yj (λ c=>?_) (λ c=>?_)⟩
    . walk_at "g";exact q H2 s12
    . walk_at "g";exact q H2 s12
  |kids n a=>
    obtain⟨on,h0,h1⟩:=oh;have e1:Zam (.kids n a) ts=ts:=rfl;rw[e1];refine⟨_,rfl,rfl,_,rfl,?_⟩;rw[Xg];refine Yj (λ c=>?_) (λ c=>?_)
    . have c':=of_decide_eq_true c;walk_at "g";have z:=q H2 s12;have e:whS S (.kids n a) ts (Ho.out S (.kids n a))=Yk (ts.map (Atm.stand S)):=by show(if _ then _ else _)=_;rw[if_pos c',c']
      rw[e]at z;exact z
    . have hoS:SqL K H2 o ((Z5 S n).map V.str):=SqL.of ho2;have hl9:S.bs.length<=900:=by omega
      have pn:=on.1;walk_at "g";intro H3 s3;refine⟨ZB (by show 2<=500;omega),λ p1 hp1=>?_⟩;have s4:=Zi hp1 (.lst [V.str (Yk (ts.map (Atm.stand S))),V.str (clS S n a (Z5 S n))]);refine⟨p1,[Yk (ts.map (Atm.stand S)),clS S n a (Z5 S n)],rfl,SqL.of Ze,?_⟩;have z:=q _ ((s12.trans s3).trans s4);have c':Yk (ts.map (Atm.stand S))≠("failed":Str):=λ z=>c (decide_eq_true z);have e:whS S (.kids n a) ts (Ho.out S (.kids n a))=Yk [Yk (ts.map (Atm.stand S)),clS S n a (Z5 S n)]:=by show(if _ then _ else _)=_;rw[if_neg c'];rfl
      rw[e]at z;exact z
theorem Zfw {f:Addr}{fd:FuncData}(F:Fun K "want_between" "want_between" Jv f fd)(T:Txt K g mg)  : FnOk P w0 K mg base (CXR P w0 base) 1 f fd ["number","low","high"] (ZaX K g):=by
  refine F.okX Zfr (λ vs H Q E h=>?_) (λ cdv A outer s H vs Q E hr h=>?_)
  . obtain⟨n,lo,hi,rfl,_⟩:=h;rfl
  obtain⟨n,lo,hi,rfl,q1,q⟩:=h;refine⟨_,(
(Zf (Zu (PW.pt (Jd (Zo Zax (pv 0) (pv 1) (Zr _)) (Xm (Zo Zay (pv 0) (pv 2) (Zr _)))))
 (Zf (Y8 T.Qdw.x T.Qds Zl))
 Zp))),?_⟩
  refine⟨_,rfl,_,rfl,_,_,rfl,rfl,_,rfl,Yj (λ c=>Yy ⟨rfl,q1 ?_⟩) (λ c=>?_)⟩
  . have:=of_decide_eq_true c;omega
  refine⟨_,rfl,_,rfl,_,_,rfl,rfl,_,rfl,Yj (λ c2=>⟨rfl,q1 ?_⟩) (λ c2=>q ?_)⟩
  . have:=of_decide_eq_true c2;omega
  . have z1:¬ n<lo:=λ z=>c (decide_eq_true z);have z2:¬ hi<n:=λ z=>c2 (decide_eq_true z);omega
theorem Zd5 {f:Addr}{fd:FuncData}(F:Fun K "__init__" "World.__init__" XH f fd)(T:Txt K g mg)(QaB:XA P w0 K g mg base)(QbC:ZjN P w0 K g mg base):FnOk P w0 K mg base (CXR P w0 base) 3 f fd ["self","year"] (JO K g):=by
  refine F.okX ZdW (λ vs H Q E h=>?_) (λ cdv A outer s H vs Q E hr h=>?_)
  . obtain⟨w,dx,y,rfl,_⟩:=h;rfl
  obtain⟨w,dx,y,rfl,hw,q1,q⟩:=h;refine⟨_,(
(Zc (ZD (X7 Xz QaB (h_ hr) (Za (pv 1) (Za Zd (Za (ZA (v:=.int 9999) rfl T.QdE ⟨_,rfl⟩) Zb)))))
 (Zc (Zey (pv 0) (pv 1) rfl)
 (Zc (Zey (pv 0) (pe_mk0 YU QbC (h_ hr) rfl) rfl)
 (Zf (Zey (pv 0) Xw rfl)))))),?_⟩
  refine⟨_,rfl,y,0,9999,rfl,q1,λ hy=>?_⟩;refine⟨_,rfl,_,rfl,w,_,dx,_,rfl,hw,T.Qaa,T.Qay,by decide,?_⟩;intro b dxb nb ndb neb;have nwb:b≠w:=λ e=>by rw[e,Ze]at nb;cases nb
  have hb0:H b=none:=by rw[Zh nwb]at nb;exact nb
  refine⟨b,dxb,rfl,Ze,λ RL H1 kp fr L=>⟨rfl,?_⟩⟩;have s1:=made nb ndb kp;have hw1:=s1 _ _ (Ze (H:=H) (a:=w));have fRL:∀ a∈RL,upd H w (.ins g.World dx [("year", .int y)]) a=none:=λ a ha=>(fr a ha).elim (λ e=>by rw[e];exact nb) ZhA;have nwRL:w∉RL:=λ z=>by have:=fRL w z;rw[Ze]at this;cases this
  refine⟨_,rfl,w,_,dx,_,rfl,hw1,T.Qaa,T.Qah,(by show 1<1000;decide),?_⟩;intro hd hhd;have nhw:hd≠w:=λ e=>by rw[e,Ze]at hhd;cases hhd
  have hhd1:H1 hd=none:=by rw[Zh nhw]at hhd;exact hhd
  have nhRL:hd∉RL:=λ z=>by obtain⟨o,e⟩:=L.live hd z;rw[hhd1]at e;cases e
  refine⟨_,rfl,w,_,dx,_,rfl,(by rw[Zh (Ne.symm nhw),Ze]),T.Qaa,T.Qa9,(by show 2<1000;decide),?_⟩;have f0:∀ a,upd H w (.ins g.World dx [("year", .int y)]) a=none->H a=none:=λ a e=>by
    have n:a≠w:=λ z=>by rw[z,Ze]at e;cases e
    rw[Zh n]at e;exact e
  have hd0:H hd=none:=f0 hd (s1.free hhd1);refine q hy (w::hd::RL) _ ⟨λ a o hn e=>?_,λ a e=>?_⟩ (λ a ha=>?_) ⟨dx,b,hd,RL,Ze,?_,?_,rfl,nwRL,nhRL⟩
  . have na:a≠w:=λ z=>hn (by simp[z]);have nh:a≠hd:=ZC e hd0;rw[Zh na,Zh nh,Zh na];exact s1 _ _ (by rw[Zh na];exact e)
  . have na:a≠w:=λ z=>by rw[z,Ze]at e;cases e
    rw[Zh na]at e;have nh:a≠hd:=λ z=>by rw[z,Ze]at e;cases e
    rw[Zh nh,Zh na]at e;exact f0 a (s1.free e)
  . rcases List.mem_cons.mp ha with rfl|ha
    . exact .inl rfl
    rcases List.mem_cons.mp ha with rfl|ha
    . exact .inr hd0
    exact .inr (f0 a (fRL a ha))
  . refine L.mv λ a ha o e=>?_;have na:a≠w:=λ z=>nwRL (z▸ha);have nh:a≠hd:=λ z=>nhRL (z▸ha);rw[Zh na,Zh nh,Zh na];exact e
  . rw[Zh nhw,Ze];rfl
theorem Zcz {f:Addr}{fd:FuncData}(F:Fun K "pass_years" "World.pass_years" Xj f fd)(T:Txt K g mg)(QaB:XA P w0 K g mg base):FnOk P w0 K mg base (CXR P w0 base) 2 f fd ["self","many"] (Ja K g):=by
  refine F.okX Zcw (λ vs H Q E h=>?_) (λ cdv A outer s H vs Q E hr h=>?_)
  . obtain⟨w,S,R,k,rfl,_⟩:=h;rfl
  obtain⟨w,S,R,k,rfl,W,q1,q⟩:=h;refine⟨_,(
(Zc (ZD (X7 Xz QaB (h_ hr) (Za (pv 1) (Za Zd (Za (ZA (v:=.int 60) rfl T.Qbt ⟨_,rfl⟩) Zb)))))
 (Zf (Zls (pv 0) (pv 1) in_add)))),?_⟩
  obtain⟨dx,b,hd,RL,hw,L,hh,eR,n1,n2⟩:=W.ex;obtain⟨dy,y1,y2,y3,hb⟩:=L.obj;refine⟨_,rfl,k,1,60,rfl,q1,λ hk=>?_⟩;refine⟨_,rfl,w,_,dx,_,_,rfl,hw,T.Qaa,T.Qay,rfl,_,rfl,_,_,rfl,rfl,dx,_,hw,(by show 3<1000;decide),?_⟩;have nwh:hd≠w:=ZN hh hw (λ z=>by cases z);subst eR;exact q hk _ (Xd.wide (λ a ha=>by rw[List.mem_singleton.mp ha];simp)) ⟨dx,b,hd,RL,Ze,L.mv (λ a ha o e=>by rw[Zh (show a≠w from λ z=>n1 (by rw[<- z];exact ha))];exact e),by rw[Zh nwh];exact hh,rfl,n1,n2⟩
theorem Zfz {f:Addr}{fd:FuncData}(F:Fun K "arrive" "World.arrive" Jy f fd)(T:Txt K g mg)(QaB:XA P w0 K g mg base)(QbD:Zce P w0 K g mg base):FnOk P w0 K mg base (CXR P w0 base) 5 f fd ["self","word","age"] (Za0 K g):=by
  refine F.okX Zfs (λ vs H Q E h=>?_) (λ cdv A outer s H vs Q E hr h=>?_)
  . obtain⟨w,S,R,n,a,rfl,_⟩:=h;rfl
  obtain⟨w,S,R,n,a,rfl,W,hx,hl,q0,q1,q2,q⟩:=h;refine⟨_,(
(Zc (ZD (X7 Xz QaB (h_ hr) (Za (pv 2) (Za Zd (Za (ZA (v:=.int 120) rfl T.QdF ⟨_,rfl⟩) Zb)))))
 (Zf (ZD (ZT Xz QbD (h_ hr) (Zw (pv 0) rfl) (Za (pv 1) (Za (Zq Zai (Zw (pv 0) rfl) (pv 2)) Zb))))))),?_⟩
  obtain⟨dx,b,hd,RL,hw,L,hh,eR,n1,n2⟩:=W.ex;obtain⟨dy,y1,y2,y3,hb⟩:=L.obj;refine⟨_,rfl,a,0,120,rfl,q0,λ ha=>?_⟩;refine⟨_,rfl,w,_,dx,_,_,rfl,hw,T.Qaa,T.Qah,rfl,b,dy,_,rfl,hb,rfl,_,rfl,_,rfl,w,_,dx,_,_,rfl,hw,T.Qaa,T.Qay,rfl,_,rfl,_,_,rfl,rfl,b,S.bs,S.ds,RL,n,_,rfl,L,hx,hl,q1 ha,q2 ha,λ e1 e2 R' H' kp gr L'=>?_⟩;subst eR;obtain⟨W',k',g'⟩:=WorldAt.book (S:=S) hw hh n1 n2 kp gr L';exact q ha e1 e2 _ H' k' g' W'
theorem ZgB {f:Addr}{fd:FuncData}(F:Fun K "birth" "World.birth" Zab f fd)(T:Txt K g mg)(QbE:ZcV P w0 K g mg base):FnOk P w0 K mg base (CXR P w0 base) 5 f fd ["self","name"] (Zbv K g):=by
  refine F.okX Zga (λ vs H Q E h=>?_) (λ cdv A outer s H vs Q E hr h=>?_)
  . obtain⟨w,S,R,n,rfl,_⟩:=h;rfl
  obtain⟨w,S,R,n,rfl,W,hl,h99,q0,q1,q2,q⟩:=h;refine⟨_,(
(Zf (Zk (ZT Xz QbE (h_ hr) (Zw (pv 0) rfl) (Za (pv 1) (Za (Zw (pv 0) rfl) Zb)))))),?_⟩
  obtain⟨dx,b,hd,RL,hw,L,hh,eR,n1,n2⟩:=W.ex;obtain⟨dy,y1,y2,y3,hb⟩:=L.obj;refine⟨_,rfl,w,_,dx,_,_,rfl,hw,T.Qaa,T.Qah,rfl,b,dy,_,rfl,hb,rfl,_,rfl,_,rfl,w,_,dx,_,_,rfl,hw,T.Qaa,T.Qay,rfl,b,S.bs,S.ds,RL,n,_,rfl,L,hl,h99,q0,q1,q2,λ e1 e2 e3 R' H' kp gr L'=>?_⟩;subst eR;obtain⟨W',k',g'⟩:=WorldAt.book (S:=S) hw hh n1 n2 kp gr L';exact q e1 e2 e3 _ H' k' g' W'
theorem Zgz {f:Addr}{fd:FuncData}(F:Fun K "death" "World.death" J9 f fd)(T:Txt K g mg)(QbF:ZcU P w0 K g mg base):FnOk P w0 K mg base (CXR P w0 base) 5 f fd ["self","name"] (Zbt K g):=by
  refine F.okX Zf8 (λ vs H Q E h=>?_) (λ cdv A outer s H vs Q E hr h=>?_)
  . obtain⟨w,S,R,n,rfl,_⟩:=h;rfl
  obtain⟨w,S,R,n,rfl,W,hl,q0,q1,q⟩:=h;refine⟨_,(
(Zf (ZD (ZT Xz QbF (h_ hr) (Zw (pv 0) rfl) (Za (pv 1) (Za (Zw (pv 0) rfl) Zb)))))),?_⟩
  obtain⟨dx,b,hd,RL,hw,L,hh,eR,n1,n2⟩:=W.ex;obtain⟨dy,y1,y2,y3,hb⟩:=L.obj;refine⟨_,rfl,w,_,dx,_,_,rfl,hw,T.Qaa,T.Qah,rfl,b,dy,_,rfl,hb,rfl,_,rfl,_,rfl,w,_,dx,_,_,rfl,hw,T.Qaa,T.Qay,rfl,b,S.bs,S.ds,RL,n,_,rfl,L,hl,q0,q1,λ e1 e2 H' kp L'=>?_⟩;subst eR;obtain⟨W',k',g'⟩:=WorldAt.book (S:=S) hw hh n1 n2 kp (Zdv.refl _ _) L';exact q e1 e2 H' k' W'
theorem ZgA {f:Addr}{fd:FuncData}(F:Fun K "comes" "World.comes" Zaa f fd)(T:Txt K g mg)(QaU:Zb4 P w0 K g mg base):FnOk P w0 K mg base (CXR P w0 base) 4 f fd ["self","word"] (Zbu K g):=by
  refine F.okX Zf9 (λ vs H Q E h=>?_) (λ cdv A outer s H vs Q E hr h=>?_)
  . obtain⟨w,S,R,n,rfl,_⟩:=h;rfl
  obtain⟨w,S,R,n,rfl,W,hx,hl,q0,q1,q⟩:=h;refine⟨_,(
(Zc (ZD (X7 Xz QaU (h_ hr) (Za (pv 1) Zb)))
 (Zc (Zu (YM (XM (ZP hr) (pv 1) (Zw (pv 0) rfl)))
 (Zf (Y8 T.Qc3.x T.Qc0 Zl))
 Zp)
 (Zf (XT (ZP hr) (Zw (pv 0) rfl) (pv 1) (Zw (pv 0) rfl) rfl))))),?_⟩
  obtain⟨dx,b,hd,RL,hw,L,hh,eR,n1,n2⟩:=W.ex;obtain⟨dy,y1,y2,y3,hb⟩:=L.obj;refine⟨_,rfl,n,rfl,hx,q0,λ hg=>?_⟩;refine⟨_,rfl,_,rfl,w,_,dx,_,_,rfl,hw,T.Qaa,T.Qa9,rfl,hd,_,rfl,ZY.k (k:=Sum.inr n) hh,_,rfl,?_⟩;rw[Zy];cases hc:has S.cs n with
  |true=>exact Yy ⟨rfl,q1 hg hc⟩
  |false=>
    refine Z3 ⟨_,rfl,w,_,dx,_,_,rfl,hw,T.Qaa,T.Qay,rfl,_,rfl,w,_,dx,_,_,rfl,hw,T.Qaa,T.Qa9,rfl,_,rfl,hd,_,rfl,Zej.k (k:=Sum.inr n) hh (Zz (by unfold yrs;rw[length_map];omega)),?_⟩;rw[Xu _ (Zcn hc),Zci];have nwh:w≠hd:=ZN hw hh (λ z=>by cases z);subst eR;exact q hg hc _ (Xd.wide (λ a ha=>by rw[List.mem_singleton.mp ha];simp)) ⟨dx,b,hd,RL,by rw[Zh nwh];exact hw,L.mv (λ a ha o e=>by rw[Zh (show a≠hd from λ z=>n2 (by rw[<- z];exact ha))];exact e),Ze,rfl,n1,n2⟩
theorem Zix {f:Addr}{fd:FuncData}(F:Fun K "class_end" "class_end" ZbV f fd)(T:Txt K g mg)(QaX:Zdp P w0 K g mg base)(QaS:Zdo P w0 K g mg base)(QaT:Zds P w0 K g mg base)(QaZ:X9 P w0 K g mg base)(QaA:Zcs P w0 K g mg base):FnOk P w0 K mg base CX0 7 f fd ["world","name","age"] (ZdN K g):=by
  refine F.ok ZaI (λ vs H Q E h=>?_) (λ cdv A outer s H vs Q E hr h=>?_)
  . obtain⟨w,S,R,n,a,rfl,_⟩:=h;rfl
  obtain⟨w,S,R,n,a,rfl,W,hlen,on,h0,h1,q⟩:=h;refine⟨_,(
(Zc (Zt (i:=3) ZaI.nd rfl (Or.inl rfl) (Zs QaX (h_ hr) (Za (pv 0) (Za (pv 1) Zb))))
 (Zc (Zu (PW.pt (Jd (ZS (Zs QaS (h_ hr) (Za (pv 0) (Za (pv 1) Zb)))) (Xm (ZS (Zs QaT (h_ hr) (Za (pv 0) (Za (pv 1) (Za (pv 2) (Za (pv 3) Zb)))))))))
 (Zf (Zk (Zw (pv 0) rfl)))
 Zp)
 (Zc (XW (i:=4) ZaI.nd rfl (Or.inl rfl) (x:="child") (cl:=[("world",s.heap.objs.size+1)]) (caps:=[("world",0)]) rfl (ZQ (Zs QaA (h_ hr) (Za (pv 0) (Za (pv 1) (Za (pv 2) (Za (pv 3) Zb)))))) (λ _ _ _ _ _=>JC) (λ _ _ _ _ _=>(ZT Xa QaZ (h_ hr) (show PE _ _ (tFld K (Zg9 1) "lives") from Zw (pv 1) rfl) (Za (pv 0) Zb))) rfl (by decide +kernel) rfl (by decide +kernel) rfl (λ _ _ h=>h) (Yr rfl) (λ p hp=>by rw[List.mem_singleton.mp hp];exact⟨rfl,rfl,by first|exact .inl rfl|exact .inr rfl⟩) (by decide +kernel))
 (Zf (Zk (Y9 (Zgl (pv 4) (λ _=>rfl)) (Zq Z8 (Zx (ZlZ rfl) rfl T.z_min PyProof.Rows.boot_min (Za (pv 4) Zb)) (pv 2)) (Zw (pv 0) rfl)))))))),?_⟩
  have wf:=W.wf;have hl9:S.bs.length<=900:=by omega
  have pn:=on.1;walk_at "g";intro o H1 s1 fo ho;have W1:=W.same s1;have hoS:=SqL.of (K:=K) ho;walk_at "g";intro H2 s2;have W2:=W1.same s2;have hoS2:=s2.seq hoS;walk_at "g";have s12:=s1.trans s2;cases hal:al S.bs S.ds (nr S.bs n) with
  |true=>
    obtain⟨dx,b,hd,RL,hw,L,hh,eR,n1,n2⟩:=W2.ex;walk_at "g";exact q S.y _ ⟨λ _=>rfl,λ z=>by rw[hal]at z;cases z⟩ s12
  |false=>
    walk_at "g";intro H3 s3;have s13:=s12.trans s3;have W3:=W2.same s3;have hoS3:=s3.seq hoS2;cases hse:Ye S n a (Z5 S n) with
    |true=>
      obtain⟨dx,b,hd,RL,hw,L,hh,eR,n1,n2⟩:=W3.ex;walk_at "g";exact q S.y _ ⟨λ _=>rfl,λ z=>by rw[hal,hse]at z;cases z⟩ s13
    |false=>
      refine⟨_,rfl,Z3 ?_⟩;unfold ZkH;dsimp only;unfold ZhZ Zha;dsimp only;refine lcS (ss:=ZH S n a (Z5 S n)) (λ l1 H4=>Zj H3 H4/\H4 l1=some (.lst ((ZH S n a (Z5 S n)).map V.str))/\H3 l1=none) (λ _=>true) (λ c => .int (Xf S c)) ?_ (λ a H1 h=>SqL.of h.2.1) (by have:=length_filter_le (λ c => !decide (a<=Xp S c) && !has S.ds c) (YI S n (Z5 S n));have:=ZaA wf (n:=n) (os:=Z5 S n);show(List.filter _ _).length<=_;omega) ?_ ?_ ?_
      . intro R0 r;walk_at "g";exact λ l H' s f h=>r l H' ⟨s,h,f⟩
      . exact λ a0 H1 x H2 _ hx s R0 r=>r H2 (Zj.refl _)
      . rintro a0 H4 x H5 ⟨s4,h4,_⟩ hx _ s R0 r;have hk:=Z4 wf (Zhp hx);obtain⟨dx,b,hd,RL,hw,L,hh,eR,n1,n2⟩:=(W3.same (s4.trans s)).ex;obtain⟨dy,y1,y2,y3,hb⟩:=L.obj;walk_at "g";refine⟨(λ z=>by rw[hk]at z;cases z),λ y hy=>?_⟩;rw[<- Zeh hy];exact r H5 (Zj.refl _)
      . rintro a0 H4 D H5 ⟨s4,h4,_⟩ hD s h;have s15:=s13.trans (s4.trans s);obtain⟨dx,b,hd,RL,hw,L,hh,eR,n1,n2⟩:=(W3.same (s4.trans s)).ex;have h':H5 D=some (.lst (((ZH S n a (Z5 S n)).map (Xf S)).map V.int)):=by rw[h,List.filter_eq_self.mpr (λ _ _=>rfl),map_map];rfl
        walk_at "g";cases hwa:ZH S n a (Z5 S n) with
        |nil=>
          walk_at "g";exact q S.y _ ⟨λ _=>rfl,λ _ z=>absurd hwa z⟩ s15
        |cons x0 r0=>
          have ne:(ZH S n a (Z5 S n)).map (Xf S)≠[]:=by rw[hwa];exact List.cons_ne_nil _ _
          have hb':=SqL.of (K:=K) h';walk_at "g";intro M hM hle;walk_at "g";exact q _ _ ⟨(λ z=>by rw[hal,hse,hwa]at z;rcases z with z|z <;> cases z),λ _ _=>⟨M,hM,hle,rfl⟩⟩ s15
theorem Ziw {f:Addr}{fd:FuncData}(F:Fun K "first_end" "first_end" ZbU f fd)(T:Txt K g mg)(Qae:YZ P w0 K g mg base)(QaZ:X9 P w0 K g mg base)(QbG:Zfq P w0 K g mg base)(Qad:Z7 P w0 K g mg base):FnOk P w0 K mg base CX0 8 f fd ["world","holder","atoms"] (ZdM K g):=by
  refine F.ok ZaH (λ vs H Q E h=>?_) (λ cdv A outer s H vs Q E hr h=>?_)
  . obtain⟨w,S,R,p,l,h,ts,ps,rfl,_⟩:=h;rfl
  obtain⟨w,S,R,p,l,h,ts,ps,rfl,W,hlen,hp,A0,oh,ok,tl,q⟩:=h;refine⟨_,(
(Zc (Zt (i:=3) ZaH.nd rfl (Or.inr rfl) (Zw (pv 0) rfl))
 (Zc (XW (i:=4) ZaH.nd rfl (Or.inl rfl) (x:="atom") (cl:=[("lives",s.heap.objs.size+1)]) (caps:=[("lives",3)]) rfl (ZQ (pv 2)) (λ _ _ _ _ _=>Yg (PW.pt (XL (Zo Z1 (Zn (show IxR _ (Zex K) from Zm) (pv 0) Zd (λ _ _=>rfl)) Zl (Zr _)) (Xh (ZS (ZT YU Qad (h_ hr) (pv 1) (Za (Zn (show IxR _ (Zex K) from Zm) (pv 0) Zd (λ _ _=>rfl)) Zb))))))) (λ _ _ _ _ _=>(Zq Z8 (ZT Xa QaZ (h_ hr) (pv 1) (Za (Zn (show IxR _ (Zex K) from Zm) (pv 0) Zd (λ _ _=>rfl)) Zb)) (Zn (show IxR _ (Zex K) from Zm) (pv 0) Zd (λ _ _=>rfl)))) rfl (by decide +kernel) rfl (by decide +kernel) rfl (λ _ _ h=>h) (Yr rfl) (λ p hp=>by rw[List.mem_singleton.mp hp];exact⟨rfl,rfl,by first|exact .inl rfl|exact .inr rfl⟩) (by decide +kernel))
 (Zc (Zu (ZS (Zs Qae (h_ hr) (Za (pv 1) Zb)))
 (Zf (ZD (YJ plainAttrs_list PySem.F.slot_list_append PySem.F.type_list_append YA (pv 4) (Za (Zs QbG (h_ hr) (Za (pv 0) (Za (Zn Zm (pv 1) Zd (λ _ _=>rfl)) (Za (Zn Zm (pv 1) Zd (λ _ _=>rfl)) Zb)))) Zb))))
 Zp)
 (Zf (Zk (Zx (Zl0 rfl) rfl T.z_max boot_max (Za (Zq Zgq (Z6 (Za (Zw (pv 0) rfl) Zb)) (pv 4)) Zb)))))))),?_⟩
  have wf:=W.wf;obtain⟨dx,b,hd,RL,hw,L,hh,eR,n1,n2⟩:=W.ex;obtain⟨dy,y1,y2,y3,hb⟩:=L.obj;refine⟨_,rfl,w,_,dx,_,_,rfl,hw,T.Qaa,T.Qah,rfl,?_⟩;unfold Zfh;dsimp only;unfold ZhZ Zha;dsimp only;refine ZmM (xs:=ps.map V.ref) (λ a H1=>a=l/\H1=H) ?_ ?_ (by rw[length_map,A0.len];omega) (λ i=>(ts[i]?.map (isAg S)).getD false) (λ i => .int ((ts[i]?.map (agY S)).getD 0)) ?_ ?_ ?_
  . exact λ R0 r=>⟨_,rfl,r l H ⟨rfl,rfl⟩⟩
  . rintro a H1 ⟨rfl,rfl⟩;exact SqL.of A0.lst
  . rintro a H1 i x H2 ⟨rfl,rfl⟩ hx s R0 r;obtain⟨p2,t,rfl,ht,hp2⟩:=(A0.same s).at' hx;rw[ht]at r;have LL:=L.same s;have hb2:=s _ _ hb;cases t with
    |age n a=>
      walk_at "g";exact r H2 (Zj.refl _)
    |born n=>
      walk_at "g";rw[Xg,decide_eq_false (by decide +kernel)];exact Z3 (r H2 (Zj.refl _))
    |dead n=>
      walk_at "g";rw[Xg,decide_eq_false (by decide +kernel)];exact Z3 (r H2 (Zj.refl _))
    |year n=>
      walk_at "g";rw[Xg,decide_eq_false (by decide +kernel)];exact Z3 (r H2 (Zj.refl _))
    |comes n=>
      walk_at "g";rw[Xg,decide_eq_false (by decide +kernel)];exact Z3 (r H2 (Zj.refl _))
  . rintro a H1 i x H2 ⟨rfl,rfl⟩ hx hf s R0 r;obtain⟨p2,t,rfl,ht,hp2⟩:=(A0.same s).at' hx;rw[ht]at r hf;have LL:=L.same s;have hb2:=s _ _ hb;cases t with
    |age n a=>
      have hk:has S.bs n=true:=by
        have z:al S.bs S.ds n=true:=hf;unfold al at z;rw[and_eq_true]at z;exact z.1
      walk_at "g";refine⟨(λ z=>by rw[hk]at z;cases z),λ y hy=>?_⟩;have z:=r H2 (Zj.refl _);rw[show((some (Atm.age n a)).map (agY S)).getD 0=y+a from by show Xf S n+a=_;rw[Zeh hy]]at z;walk_at "g";exact z
    |_=>cases hf
  rintro a1 H1 D H2 ⟨rfl,rfl⟩ hD s2 h2;rw[length_map,A0.len,ag_of]at h2;have W2:=W.same s2;have hp2:=s2 _ _ hp;have hw2:=s2 _ _ hw;have al:=Zn5 S ts;cases h with
  |one n=>
    walk_at "g";intro l5 hl5;have s5:=Zi hl5 (.lst [V.int S.y]);have h5:=s5 _ _ h2;refine⟨_,rfl,l5,D,_,_,rfl,rfl,Ze,h5,ZB (by rw[length_map];show 1+_<=500;omega),λ l6 hl6=>?_⟩;have s6:=Zi hl6 (.lst ([V.int S.y]++(agL S ts).map V.int));refine⟨l6,S.y::agL S ts,rfl,SqL.of Ze,by simp,λ M hm hl=>q M _ ⟨S.y,rfl,mem_cons_of_mem _ hm,λ x hx=>?_⟩ ((s2.trans s5).trans s6)⟩;rcases List.mem_cons.mp hx with rfl|hx
    . exact hl _ (by simp)
    . exact hl x hx
  |kids n a=>
    obtain⟨on,h0,h1⟩:=oh;walk_at "g";intro e H3 he s3;have h3:=s3 _ _ h2;have lS:((agL S ts).map V.int).length<sizeLine:=Zz (by rw[length_map];omega);have nwD:w≠D:=λ z=>by rw[z,hD]at hw;cases hw
    have hw4:upd H3 D (.lst ((agL S ts).map V.int++[V.int e])) w=H1 w:=by rw[Zh nwD,s3 _ _ hw2,hw]
    rw[hw]at hw4;have h4:upd H3 D (.lst ((agL S ts).map V.int++[V.int e])) D=some (.lst ((agL S ts).map V.int++[V.int e])):=Ze;have s4:Zj H1 (upd H3 D (.lst ((agL S ts).map V.int++[V.int e]))):=Z0 (s2.trans s3) hD;walk_at "g";intro l5 hl5;have s5:=Zi hl5 (.lst [V.int S.y]);have h5:=s5 _ _ h4;refine⟨_,rfl,l5,D,_,_,rfl,rfl,Ze,h5,ZB (by rw[length_append,length_map];show 1+(_+1)<=500;omega),λ l6 hl6=>?_⟩;have s6:=Zi hl6 (.lst ([V.int S.y]++((agL S ts).map V.int++[V.int e])));refine⟨l6,S.y::(agL S ts++[e]),rfl,SqL.of (by rw[Ze,map_cons,map_append];rfl),by simp,λ M hm hl=>q M _ ⟨e,he,?_,λ x hx=>hl x ?_⟩ ((s4.trans s5).trans s6)⟩
    . simp only[mem_cons,mem_append,mem_singleton]at hm ⊢;rcases hm with z|z|z
      . exact .inl z
      . exact .inr (.inr z)
      . rcases z with z|z
        . exact .inr (.inl z)
        . cases z
    . simp only[mem_cons,mem_append,mem_singleton]at hx ⊢;rcases hx with z|z|z
      . exact .inl z
      . exact .inr (.inr (.inl z))
      . exact .inr (.inl z)
theorem Zgy {f:Addr}{fd:FuncData}(F:Fun K "births_away" "births_away" J8 f fd)(T:Txt K g mg)(Qai:YB P w0 K g mg base):FnOk P w0 K mg base CX0 5 f fd ["world","name"] (Zbs K g):=by
  refine F.ok Zf7 (λ vs H Q E h=>?_) (λ cdv A outer s H vs Q E hr h=>?_)
  . obtain⟨w,S,R,n,rfl,_⟩:=h;rfl
  obtain⟨w,S,R,n,rfl,W,on,q⟩:=h;refine⟨_,(
(Zf (Zk (Zq Zai (YJ plainAttrs_str slot_str_count type_str_count XX (pv 1) (Za Zl Zb)) (YJ plainAttrs_str slot_str_count type_str_count XX (ZT Xa Qai (h_ hr) (Zw (pv 0) rfl) (Za (pv 1) Zb)) (Za Zl Zb)))))),?_⟩
  have pn:=on.1;have nl:=Yx on.1;obtain⟨dx,b,hd,RL,hw,L,hh,eR,n1,n2⟩:=W.ex;obtain⟨dy,y1,y2,y3,hb⟩:=L.obj;have nl2:n.length<=200:=by omega
  walk_at "g";refine⟨(λ z=>by rw[pn]at z;cases z),λ _ H1 s1=>?_⟩;walk_at "g";exact q H1 s1
theorem Zfy {f:Addr}{fd:FuncData}(F:Fun K "atom_lingers" "atom_lingers" Jx f fd)(T:Txt K g mg)(QbH:ZcQ P w0 K g mg base):FnOk P w0 K mg base CX0 6 f fd ["world","atom","end","term"] (ZaZ K g):=by
  refine F.ok X0 (λ vs H Q E h=>?_) (λ cdv A outer s H vs Q E hr h=>?_)
  . obtain⟨w,S,R,p,t,F,tm,rfl,_⟩:=h;rfl
  obtain⟨w,S,R,p,t,F,tm,rfl,W,hp,okt,q⟩:=h;refine⟨_,(
(Zc (Zt (i:=4) X0.nd rfl (Or.inl rfl) (Zn Zm (pv 1) Zd (λ _ _=>rfl)))
 (Zc (Zu (Zo Z1 (pv 4) Zl (Zr _))
 (Zf (Zk (YE Zax (Zq Z8 (pv 2) (pv 3)) (Zn Zm (pv 1) Zd (λ _ _=>rfl)) (Zr _))))
 Zp)
 (Zc (Zu (Zo Z1 (pv 4) Zl (Zr _))
 (Zf (Zk Xx))
 Zp)
 (Zc (Zt (i:=5) X0.nd rfl (Or.inl rfl) (Zs QbH (h_ hr) (Za (pv 0) (Za (Zn Zm (pv 1) Zd (λ _ _=>rfl)) Zb))))
 (Zc (Zu (Zo Z1 (pv 5) Zd (Zr _))
 (Zf (Zk (pe_or (YE Z1 (pv 4) Zl (Zr _)) (JD (X8 (YE Z1 (pv 4) Zl (Zr _)) (JD (YE Zay (Zn Zm (pv 1) Zd (λ _ _=>rfl)) (pv 3) (Zr _))))))))
 Zp)
 (Zf (Zk (YE Zay (pv 5) Zd (Zr _)))))))))),?_⟩
  cases t with
  |year y=>
    walk_at "g";exact q H (Zj.refl _)
  |comes c=>
    walk_at "g";exact Yy (q H (Zj.refl _))
  |born n=>
    have on:okN S n:=okt;walk_at "g";intro H1 s1;refine⟨_,rfl,rfl,_,rfl,?_⟩;rw[ZfH];have z:=q H1 s1;have e:XO S F tm (.born n)=if Yv S n=1 then false else decide (Yv S n>1):=rfl
    rw[e]at z;refine Yj (λ c=>?_) (λ c=>?_)
    . rw[if_pos (of_decide_eq_true c)]at z;walk_at "g";rw[Xg,decide_eq_false (by decide +kernel)];exact Z3 z
    . rw[if_neg (λ w=>c (decide_eq_true w))]at z;walk_at "g";exact z
  |dead n=>
    have on:okN S n:=okt;walk_at "g";intro H1 s1;refine⟨_,rfl,rfl,_,rfl,?_⟩;rw[ZfH];have z:=q H1 s1;have e:XO S F tm (.dead n)=if Yv S n=1 then true else decide (Yv S n>1):=rfl
    rw[e]at z;refine Yj (λ c=>?_) (λ c=>?_)
    . rw[if_pos (of_decide_eq_true c)]at z;walk_at "g";exact Yy z
    . rw[if_neg (λ w=>c (decide_eq_true w))]at z;walk_at "g";exact z
  |age n a=>
    have on:okN S n:=okt.1;walk_at "g";intro H1 s1;have hp1:=s1 _ _ hp;refine⟨_,rfl,rfl,_,rfl,?_⟩;rw[ZfH];have z:=q H1 s1;have e:XO S F tm (.age n a)=if Yv S n=1 then decide (a>tm) else decide (Yv S n>1):=rfl
    rw[e]at z;refine Yj (λ c=>?_) (λ c=>?_)
    . rw[if_pos (of_decide_eq_true c)]at z;walk_at "g";exact z
    . rw[if_neg (λ w=>c (decide_eq_true w))]at z;walk_at "g";exact z
theorem ZeC {f:Addr}{fd:FuncData}(F:Fun K "class_lingers" "class_lingers" X2 f fd)(T:Txt K g mg)(Qag:YH P w0 K g mg base)(Qad:Z7 P w0 K g mg base):FnOk P w0 K mg base CX0 2 f fd ["world","name","age","term"] (Zaq K g):=by
  refine F.ok Zem (λ vs H Q E h=>?_) (λ cdv A outer s H vs Q E hr h=>?_)
  . obtain⟨w,S,R,n,a,tm,rfl,_⟩:=h;rfl
  obtain⟨w,S,R,n,a,tm,rfl,W,q⟩:=h;refine⟨_,(
(Zc (Zu (Y7 (ZS (ZT YU Qag (h_ hr) (Zw (pv 0) rfl) (Za (pv 1) Zb))))
 (Zf (Zk Xx))
 Zp)
 (Zf (Zk (X8 (ZT YU Qad (h_ hr) (Zw (pv 0) rfl) (Za (pv 1) Zb)) (JD (YE Zay (pv 2) (pv 3) (Zr _)))))))),?_⟩
  obtain⟨dx,b,hd,RL,hw,L,hh,eR,n1,n2⟩:=W.ex;obtain⟨dy,y1,y2,y3,hb⟩:=L.obj;have qq:Q (.bl (if has S.bs n=false then true else al S.bs S.ds n && decide (a>tm))) H:=q;walk_at "g";cases hk:has S.bs n with
  |false=>
    rw[if_pos hk]at qq;walk_at "g";exact qq
  |true=>
    rw[if_neg (by rw[hk];decide)]at qq;walk_at "g";cases ha:al S.bs S.ds n with
    |false=>
      rw[ha]at qq;exact Z3 qq
    |true=>
      rw[ha]at qq;refine Yy ?_;walk_at "g";exact qq
theorem Zki {f:Addr}{fd:FuncData}(F:Fun K "hanging" "hanging" Zev f fd)(T:Txt K g mg)(QaY:ZgX P w0 K g mg base)(QaP:ZaV P w0 K g mg base):FnOk P w0 K mg base CX0 8 f fd ["world","holder","atoms"] (ZfZ K g):=by
  refine F.ok Zka (λ vs H Q E h=>?_) (λ cdv A outer s H vs Q E hr h=>?_)
  . obtain⟨w,S,R,p,l,h,ts,ps,rfl,_⟩:=h;rfl
  obtain⟨w,S,R,p,l,h,ts,ps,rfl,W,hp,A0,oh,ok,tl,q⟩:=h;refine⟨_,(
(Zf (Zk (Je (x:="atom") (cl:=[("world",s.heap.objs.size+1)]) (caps:=[("world",0)]) rfl (ZQ (Zs QaY (h_ hr) (Za (pv 1) (Za (pv 2) Zb)))) (λ _ _ _ _ _=>Yg (Zo Z1 (X7 Xa QaP (h_ hr) (Za (pv 1) (Za (pv 0) Zb))) (ZA (v:=.str "hangs") rfl T.Qal ⟨_,rfl⟩) (Zr _))) (λ _ _ _ _ _=>(pv 0)) rfl (by decide +kernel) rfl (by decide +kernel) rfl (λ _ _ h=>h) (Yr rfl) (λ p hp=>by rw[List.mem_singleton.mp hp];exact⟨rfl,rfl,by first|exact .inl rfl|exact .inr rfl⟩) (by decide +kernel))))),?_⟩
  have tl100:ts.length<=100:=by omega
  have tw:=ZfO h ts;have okw:=Zdx oh ok;unfold ZfR;refine lcAtR (tl':=Zam h ts) ?_ (by omega) (isHg S) ?_ ?_ ?_
  . intro R0 r;walk_at "g";exact λ l' ps' H' s f A=>r l' ps' H' s f A
  . intro p2 t H2 s2 ht hp2 R0 r;have okt:=okw t ht;have W2:=W.same s2;have hbad:=Atm.ok_bad okt;have hln:=Atm.ok_len okt;refine⟨_,rfl,_,rfl,w,S,R,p2,t,rfl,W2,hp2,hln,(λ e z=>by rw[hbad]at z;cases z),λ _ H3 s3=>?_⟩;walk_at "g";have z:=r H3 s3;rw[Xg];exact z
  . exact λ x H2 s2 R0 r=>⟨_,rfl,r H2 (Zj.refl _)⟩
  . exact λ D ps' H2 s f A=>q D ps' H2 s f A
theorem Zkh {f:Addr}{fd:FuncData}(F:Fun K "is_late" "is_late" Zeu f fd)(T:Txt K g mg)(Qa0:Zb9 P w0 K g mg base)(Qae:YZ P w0 K g mg base)(QbI:Za8 P w0 K g mg base)(QbJ:Zca P w0 K g mg base)(QaC:Zcu P w0 K g mg base):FnOk P w0 K mg base CX0 9 f fd ["world","holder","atoms","term"] (ZfY K g):=by
  refine F.ok Zf4 (λ vs H Q E h=>?_) (λ cdv A outer s H vs Q E hr h=>?_)
  . obtain⟨w,S,R,p,l,h,ts,ps,tm,rfl,_⟩:=h;rfl
  obtain⟨w,S,R,p,l,h,ts,ps,tm,rfl,W,hlen,hp,A0,oh,ok,tl,q⟩:=h;refine⟨_,(
(Zc (Zt (i:=4) Zf4.nd rfl (Or.inr rfl) (Zs Qa0 (h_ hr) (Za (pv 0) (Za (pv 1) (Za (pv 2) Zb)))))
 (Zc (Zu (Zo XN Xx (Je (x:="atom") (cl:=[("world",s.heap.objs.size+1),("term",s.heap.objs.size+2),("end",s.heap.objs.size+3)]) (caps:=[("world",0),("end",4),("term",3)]) rfl (ZQ (Zs QaC (h_ hr) (Za (pv 0) (Za (pv 1) (Za (pv 2) Zb))))) (λ _ _ _ _ _=>JC) (λ _ _ _ _ _=>(Zs QbJ (h_ hr) (Za (pv 1) (Za (pv 0) (Za (pv 2) (Za (pv 3) Zb)))))) rfl (by decide +kernel) rfl (by decide +kernel) rfl (L2.cl_sub (λ p hp=>by simp only[mem_cons,not_mem_nil,or_false]at hp;rcases hp with rfl|rfl|rfl <;> rfl)) (Yr rfl) (λ p hp=>by simp only[mem_cons,not_mem_nil,or_false]at hp;rcases hp with rfl|rfl|rfl <;> exact⟨rfl,rfl,by first|exact .inl rfl|exact .inr rfl⟩) (by decide +kernel)) rfl)
 (Zf (Zk Xx))
 Zp)
 (Zf (Zk (X8 (Zs Qae (h_ hr) (Za (pv 1) Zb)) (JD (Zs QbI (h_ hr) (Za (pv 0) (Za (Zn Zm (pv 1) Zd (λ _ _=>rfl)) (Za (Zn Zm (pv 1) Zd (λ _ _=>rfl)) (Za (pv 3) Zb)))))))))))),?_⟩
  have tl100:ts.length<=100:=by omega
  walk_at "g";intro F H1 hF s1;have W1:=W.same s1;have hp1:=s1 _ _ hp;have A1:=A0.same s1;have hl:=Zeb S h ts;have okh:=ZfJ oh ok;unfold Zfh;dsimp only;unfold ZhZ tIfS tTest tOp tC;dsimp only;refine ZmN (tl':=XZ S h ts) ?_ (by omega) (λ _=>true) (λ t => .bl (XO S F tm t)) ?_ ?_ ?_
  . intro R0 r;walk_at "g";exact λ l' ps' H' s f A=>r l' ps' H' s f A
  . exact λ p2 t H2 s2 ht hp2 R0 r=>r H2 (Zj.refl _)
  . intro p2 t H2 s2 ht _ hp2 R0 r;have okt:=okh t ht;have W2:=W1.same s2;walk_at "g";exact λ H3 s3=>r H3 s3
  . intro D H2 s2 fD h2;have e0:(List.filter (λ _=>true) (XZ S h ts)).map (λ t=>V.bl (XO S F tm t))=((XZ S h ts).map (XO S F tm)).map V.bl:=by rw[List.filter_eq_self.mpr (λ _ _=>rfl),map_map];rfl
    rw[e0]at h2;refine⟨D,_,rfl, .inl (SqL.of h2),rfl,Zm8 _,_,rfl,?_⟩;have e1:(if false=true then !inV (V.bl true) (((XZ S h ts).map (XO S F tm)).map V.bl) else inV (V.bl true) (((XZ S h ts).map (XO S F tm)).map V.bl))=(XZ S h ts).any (XO S F tm):=by rw[if_neg (by decide),ZnV,List.any_map];rfl
    rw[e1];have s12:=s1.trans s2;have hp2:=s2 _ _ hp1;have W2:=W1.same s2;have z:=q F H2 hF s12;unfold Za5 at z;refine Yj (λ c=>?_) (λ c=>?_)
    . rw[c]at z;walk_at "g";exact z
    . rw[Bool.eq_false_iff.mpr c,Bool.false_or]at z;cases h with
      |one n=>
        walk_at "g";exact z
      |kids n a=>
        walk_at "g";exact z
theorem Zgr {f:Addr}{fd:FuncData}(F:Fun K "years_deeds" "years_deeds" J0 f fd)(T:Txt K g mg)  : FnOk P w0 K mg base CX0 1 f fd ["many"] (Zbl K g):=by
  refine F.ok Ju (λ vs H Q E h=>?_) (λ cdv A outer s H vs Q E hr h=>?_)
  . obtain⟨n,rfl,_⟩:=h;rfl
  obtain⟨n,rfl,hn,q⟩:=h;refine⟨_,(
(Zc (Zt (i:=1) Ju.nd rfl (Or.inl rfl) (Z6 Zb))
 (Zc (Zd0 PassesOwn.never (Zo Zay (pv 0) Zd (Zr _))
 (Zc (ZD (YJ plainAttrs_list PySem.F.slot_list_append PySem.F.type_list_append YA (pv 1) (Za (Yc (Za Zl (Za (Zx (ZhO rfl) rfl T.z_min PyProof.Rows.boot_min (Za (pv 0) (Za (ZA (v:=.int 60) rfl T.Qbt ⟨_,rfl⟩) Zb))) Zb))) Zb)))
 (Zf (ps_aug (i:=0) Ju.nd rfl (Or.inl rfl) (ZA (v:=.int 60) rfl T.Qbt ⟨_,rfl⟩) ip_sub))))
 (Zf (Zk (pv 1)))))),?_⟩
  walk_at "g";intro l hl;refine⟨YdI H n l,⟨_,n,[],[],rfl,rfl,hn,Zi hl _,hl,⟨Ze,rfl,λ i p d e=>by cases e⟩,(λ x hx=>by cases hx),by simp;omega,rfl⟩,?_⟩;rintro m σ H2 ⟨j,ds,ps,rfl,rfl,hj,s2,hl0,D2,fp,hl2,e⟩;have hD:=D2.lst;walk_at "g";refine Yj (λ c=>?_) (λ c=>?_)
  . have cj:0<j:=of_decide_eq_true c;refine⟨λ σ' H'=>∃ m',m'<j.toNat/\YdI H n l m' σ' H',λ _ _ h=>h,?_⟩;have lS:(ps.map V.ref).length<sizeLine:=Zz (by rw[length_map,D2.len];omega);walk_at "g";intro p hp;have s3:=Zi hp (.tup [V.str "years",V.int (if 60<j then 60 else j)]);refine⟨l,_,_,rfl,rfl,s3 _ _ hD,lS,?_⟩;refine⟨_,rfl,j,60,rfl,rfl,(j - 60).toNat,by omega,j - 60,ds++[.years (if 60<j then 60 else j)],ps++[p],rfl,rfl,by omega,Z0 (s2.trans s3) hl0,hl0,D2.push s3 Ze,?_,?_,?_⟩
    . intro x hx;rcases List.mem_append.mp hx with hx|hx
      . exact fp x hx
      . rw[List.mem_singleton.mp hx];exact s2.free hp
    . rw[length_append];show _+1+_<=_;omega
    . have e2:(j - 60).toNat=j.toNat - 60:=by omega
      have e3:(if ((j.toNat:Nat):Int)<60 then ((j.toNat:Nat):Int) else 60)=(if 60<j then 60 else j):=by rw[Int.toNat_of_nonneg (by omega)];split <;> split <;> omega
      rw[e,ZfE (by omega),e2,e3];simp
  . walk_at "g";have e0:j.toNat=0:=by have:¬ (0<j):=λ z=>c (decide_eq_true z);omega
    rw[e0,ydl,map_nil,append_nil]at e;exact q l ps H2 s2 hl0 fp (by rw[e];exact D2)
theorem ZeD {f:Addr}{fd:FuncData}(F:Fun K "child_towards" "child_towards" X3 f fd)(T:Txt K g mg)(Qai:YB P w0 K g mg base)(QaF:ZiQ P w0 K g mg base):FnOk P w0 K mg base CX0 5 f fd ["world","name"] (Zar K g):=by
  refine F.ok Zaw (λ vs H Q E h=>?_) (λ cdv A outer s H vs Q E hr h=>?_)
  . obtain⟨w,S,R,n,rfl,_⟩:=h;rfl
  obtain⟨w,S,R,n,rfl,W,on,hn,q⟩:=h;refine⟨_,(
(Zc (Zt (i:=2) Zaw.nd rfl (Or.inl rfl) (ZT Xa Qai (h_ hr) (Zw (pv 0) rfl) (Za (pv 1) Zb)))
 (Zf (Zk (Yc (Za (pv 2) (Za (Zn ZG (X7 Xa QaF (h_ hr) (Za (pv 1) Zb)) (Zx ZO rfl T.z_len boot_len (Za (X7 Xa QaF (h_ hr) (Za (pv 2) Zb)) Zb)) (λ _ _=>rfl)) Zb))))))),?_⟩
  have pn:=on.1;have nl:=Yx on.1;obtain⟨dx,b,hd,RL,hw,L,hh,eR,n1,n2⟩:=W.ex;obtain⟨dy,y1,y2,y3,hb⟩:=L.obj;have nl2:n.length<=200:=by omega
  walk_at "g";refine⟨(λ z=>by rw[pn]at z;cases z),λ _ H1 s1=>?_⟩;have oa:=Zcm on;have pa:=ZiG W.wf oa;have al2:=Yx pa.1;have al3:(nr S.bs n).length<=200:=by omega
  walk_at "g";refine⟨(λ z=>by rw[pn]at z;cases z),λ _ l1 H2 s2 f1 h1=>?_⟩;walk_at "g";refine⟨(λ z=>by rw[pa.1]at z;cases z),λ _ l2 H3 s3 f2 h2=>?_⟩;obtain⟨ca,cb,cc⟩:=ct_at W.wf on hn;have e1:(pvl (nr S.bs n)).length=Yl (nr S.bs n)+1:=by unfold pvl;rw[length_cons,length_map,Y5]
  walk_at "g";refine⟨SqL.of (s3 _ _ h1),(by rw[e1];exact JY ca),?_⟩;refine⟨ZB (by show 2<=500;omega),λ p hp=>?_⟩;have s13:=(s1.trans s2).trans s3;exact q p _ (s13.trans (Zi hp _)) (s13.free hp) Ze
theorem Zdh {f:Addr}{fd:FuncData}(F:Fun K "children_wanted" "children_wanted" YD f fd)(T:Txt K g mg)(Qbc:Za9 P w0 K g mg base)(Qae:YZ P w0 K g mg base)(Qad:Z7 P w0 K g mg base)(QaC:Zcu P w0 K g mg base)(Qag:YH P w0 K g mg base)(Qaz:Y6 P w0 K g mg base):FnOk P w0 K mg base CX0 9 f fd ["world","holder","atoms"] (Jt K g):=by
  refine F.ok Yb (λ vs H Q E h=>?_) (λ cdv A outer s H vs Q E hr h=>?_)
  . obtain⟨w,S,R,p,l,h,ts,ps,rfl,_⟩:=h;rfl
  obtain⟨w,S,R,p,l,h,ts,ps,rfl,W,hlen,hp,A0,oh,ok,tl,q⟩:=h;have pl:=Zd1 S h ts;have rest3:PSs (Xo CX0 P w0 K mg base ["world","holder","atoms","names","pairs","most","parent","number"] "children_wanted" (Zg YD) f cdv A outer s H E).nox ((Yf YD).drop 3) (λ D σ H5=>∃(dn dp:Addr)(ps5:List Addr),σ=[some (.ref w),some (.ref p),some (.ref l),some (.ref dn),some (.ref dp),none,none,none]/\Zj H H5/\TupsAt H5 dp ((prs S h ts).map λ q=>[V.str q.1,V.int q.2]) ps5/\D.rt=Q):=by
    refine @XC _ _ _ _ ((Zc (Zt (i:=5) Yb.nd rfl (Or.inl rfl) Xw)
 (Zc (Xv PassesOwn.never rfl (ZQ (pv 4)) (Zez rfl (Yp (ZM (i:=6) Yb.nd rfl (Or.inl rfl)) (Yp (ZM (i:=7) Yb.nd rfl (Or.inl rfl)) ZaM)))
 (Zf (XT (ZP hr) (pv 5) (pv 6) (Zx (Zcv rfl) rfl T.z_max boot_max (Za (pv 7) (Za (Zgp (ZP hr) (pv 5) (pv 6) Zd ⟨rfl,rfl,rfl,rfl⟩) Zb))) rfl)))
 (Zf (Zk (pv 5)))))) ?_
    rintro D σ H5 ⟨dn,dp,ps5,rfl,s5,T5,hq⟩;walk_at "g";intro d hd;have hl5:ps5.length=(prs S h ts).length:=by rw[T5.len,length_map]
    have sd:=Zi hd (.dK []);walk_at "g";refine⟨⟨_,SqL.of (T5.same sd).lst⟩,JJ (xs:=ps5.map V.ref) (λ i σ H6=>∃ v6 v7:Option V,σ=[some (.ref w),some (.ref p),some (.ref l),some (.ref dn),some (.ref dp),some (.ref d),v6,v7]/\Zj H5 H6/\H6 d=some (.dK (yrs (((prs S h ts).take i).foldl Yh [])))) ⟨_,_,rfl,sd,Ze⟩ ?_ ?_ ?_⟩
    . rintro i σ H6 _ ⟨v6,v7,rfl,s6,h6⟩;exact SqL.of (T5.same s6).lst
    . rintro i x σ H6 hx ⟨v6,v7,rfl,s6,h6⟩;obtain⟨p6,vs6,rfl,hv6,hp6⟩:=(T5.same s6).get hx;rw[getElem?_map]at hv6;cases e:(prs S h ts)[i]? with
      |none=>rw[e]at hv6;cases hv6
      |some qq=>
        rw[e]at hv6;cases hv6;walk_at "g";have gd:=ZY.k (H:=H6) (k:=(Sum.inr qq.1:Key)) h6;rw[YN]at gd;have m6:(yrs (((prs S h ts).take i).foldl Yh [])).length<sizeLine:=Zz (by
          unfold yrs;rw[length_map];have z:∀(l:List (Str×Int))(m:List (Str×Int)),(l.foldl Yh m).length<=m.length+l.length:=λ l=>by
            induction l with
            |nil=>intro m;exact le_refl _
            |cons x r ih=>intro m;have:=ih (Yh m x);have:=ZeI m x;rw[foldl_cons,length_cons];omega
          have z1:=z ((prs S h ts).take i) [];have z2:=List.length_take_le i (prs S h ts);have z3:=List.length_take_le' i (prs S h ts);simp only[List.length_nil,Nat.zero_add]at z1;omega)
        have nx6:((prs S h ts).take (i+1)).foldl Yh []=Yh (((prs S h ts).take i).foldl Yh []) qq:=by rw[take_succ,e,List.foldl_append];rfl
        refine⟨.inl ⟨_, .inl h6⟩,_,rfl,_,gd,?_⟩;have e7:(((yr (((prs S h ts).take i).foldl Yh []) qq.1).map V.int).getD (V.int 0))=V.int ((yr (((prs S h ts).take i).foldl Yh []) qq.1).getD 0):=by cases yr (((prs S h ts).take i).foldl Yh []) qq.1 <;> rfl
        rw[e7];refine⟨_,_,rfl,_,rfl,_,rfl,d,_,rfl,Zej.k (k:=(Sum.inr qq.1:Key)) h6 m6,?_⟩;exact⟨_,_,rfl,Z0 s6 hd,by rw[Ze,nx6,Zmo];rfl⟩
    . rintro σ H6 ⟨v6,v7,rfl,s6,h6⟩;rw[length_map,hl5,take_length]at h6;walk_at "g";rw[hq];exact q d H6 (s5.trans s6) (s5.free hd) h6
  refine⟨_,(Zc (XW (i:=3) Yb.nd rfl (Or.inl rfl) (x:="atom") (cl:=[]) (caps:=[]) rfl (ZQ (Zs QaC (h_ hr) (Za (pv 0) (Za (pv 1) (Za (pv 2) Zb))))) (λ _ _ _ _ _=>Yg (Zo (show OpR _ (compareOp .In) (rIn K false) from XN) (Zn (show IxR _ (Zex K) from Zm) (pv 0) Zd (λ _ _=>rfl)) (ZA (v:=.ref g.ABOUT_PEOPLE) rfl T.Qc7 rfl) rfl)) (λ _ _ _ _ _=>(Zn (show IxR _ (Zex K) from Zm) (pv 0) Zd (λ _ _=>rfl))) rfl (by decide +kernel) rfl (by decide +kernel) rfl (λ _ _ h=>nomatch h) (Yr rfl) (λ p hp=>nomatch hp) (by decide +kernel))
 (Zc (XW (i:=4) Yb.nd rfl (Or.inl rfl) (x:="name") (cl:=[("world",s.heap.objs.size+1)]) (caps:=[("world",0)]) rfl (ZQ (pv 3)) (λ _ _ _ _ _=>Yg (Y7 (ZS (ZT YU Qag (h_ hr) (show PE _ _ (tFld K (Zg9 1) "lives") from Zw (pv 1) rfl) (Za (pv 0) Zb))))) (λ _ _ _ _ _=>(Zs Qbc (h_ hr) (Za (pv 1) (Za (pv 0) Zb)))) rfl (by decide +kernel) rfl (by decide +kernel) rfl (λ _ _ h=>h) (Yr rfl) (λ p hp=>by rw[List.mem_singleton.mp hp];exact⟨rfl,rfl,by first|exact .inl rfl|exact .inr rfl⟩) (by decide +kernel))
 (Zc (Zu (PW.pt (XL (ZS (Zs Qae (h_ hr) (Za (pv 1) Zb))) (Xh (ZS (ZT YU Qad (h_ hr) (Zw (pv 0) rfl) (Za (Zn Zm (pv 1) Zd (λ _ _=>rfl)) Zb))))))
 (Zf (ZD (YJ plainAttrs_list PySem.F.slot_list_append PySem.F.type_list_append YA (pv 4) (Za (Yc (Za (Zn Zm (pv 1) Zd (λ _ _=>rfl)) (Za (Zq Z8 (Zx ZO rfl T.z_len boot_len (Za (ZT Xa Qaz (h_ hr) (Zw (pv 0) rfl) (Za (Zn Zm (pv 1) Zd (λ _ _=>rfl)) Zb)) Zb)) Zd) Zb))) Zb))))
 (Zf (Zu (PW.pt (XL (ZS (Zs Qae (h_ hr) (Za (pv 1) Zb))) (Xh (Y7 (ZS (ZT YU Qag (h_ hr) (Zw (pv 0) rfl) (Za (Zn Zm (pv 1) Zd (λ _ _=>rfl)) Zb)))))))
 (Zf (ZD (YJ plainAttrs_list PySem.F.slot_list_append PySem.F.type_list_append YA (pv 4) (Za (Zs Qbc (h_ hr) (Za (pv 0) (Za (Zn Zm (pv 1) Zd (λ _ _=>rfl)) Zb))) Zb))))
 Zp)))
 @rest3))),?_⟩
  have hl:=Zeb S h ts;have wl:=ZhV S h ts;have okh:=ZfJ oh ok;have okw:=Zl4 oh ok;have pok_:=Zie W.wf hlen oh ok;have pl:=Zd1 S h ts;unfold ZhZ Zha;dsimp only;refine ZmN (tl':=XZ S h ts) ?_ (by omega) (λ t=>t.who.isSome) (λ t => .str (t.who.getD "")) ?_ ?_ ?_
  . intro R0 r;walk_at "g";exact λ l' ps' H' s f A=>r l' ps' H' s f A
  . intro p2 t H2 s2 ht hp2 R0 r;cases t with
    |year y=>
      walk_at "g";refine⟨.inr (T.Qam _),rfl,rfl,_,rfl,?_⟩;rw[if_neg (by decide),(by decide +kernel:inV (.str "year") [.str "born", .str "dead", .str "age"]=false)];exact r H2 (Zj.refl _)
    |comes y=>
      walk_at "g";refine⟨.inr (T.Qam _),rfl,rfl,_,rfl,?_⟩;rw[if_neg (by decide),(by decide +kernel:inV (.str "comes") [.str "born", .str "dead", .str "age"]=false)];exact r H2 (Zj.refl _)
    |born y=>
      walk_at "g";refine⟨.inr (T.Qam _),rfl,rfl,_,rfl,?_⟩;rw[if_neg (by decide),(by decide +kernel:inV (.str "born") [.str "born", .str "dead", .str "age"]=true)];exact r H2 (Zj.refl _)
    |dead y=>
      walk_at "g";refine⟨.inr (T.Qam _),rfl,rfl,_,rfl,?_⟩;rw[if_neg (by decide),(by decide +kernel:inV (.str "dead") [.str "born", .str "dead", .str "age"]=true)];exact r H2 (Zj.refl _)
    |age y a=>
      walk_at "g";refine⟨.inr (T.Qam _),rfl,rfl,_,rfl,?_⟩;rw[if_neg (by decide),(by decide +kernel:inV (.str "age") [.str "born", .str "dead", .str "age"]=true)];exact r H2 (Zj.refl _)
  . intro p2 t H2 s2 ht hf hp2 R0 r;cases t with
    |born y=>
      walk_at "g";exact r H2 (Zj.refl _)
    |dead y=>
      walk_at "g";exact r H2 (Zj.refl _)
    |age y a=>
      walk_at "g";exact r H2 (Zj.refl _)
    |year y=>cases hf
    |comes y=>cases hf
  intro D1 H2 s2 fD1 h2;rw[ZkC _ (λ n=>V.str n)]at h2;have h2:H2 D1=some (.lst ((Y1 S h ts).map V.str)):=h2;have W2:=W.same s2;unfold Zfh;dsimp only;refine lcLT (xs:=(Y1 S h ts).map V.str) (λ a H1=>a=D1/\H1=H2) ?_ ?_ (by rw[length_map];omega) (λ i=>((Y1 S h ts)[i]?.map λ n => !has S.bs n).getD false) (λ _ _ i v H'=>∃ p,v=V.ref p/\H' p=some (.tup (((Y1 S h ts)[i]?.map λ n=>[V.str (nr S.bs n),V.int (ctn S n)]).getD []))/\True) ?_ ?_ ?_ ?_
  . exact λ R0 r=>⟨_,rfl,r D1 H2 ⟨rfl,rfl⟩⟩
  . rintro a H1 ⟨rfl,rfl⟩;exact SqL.of h2
  . rintro a H1 i v H H' D ys hD kk ⟨p,rfl,hp,_⟩;exact⟨p,rfl,kk.1 _ _ (λ z=>by rw[List.mem_singleton.mp z,hD]at hp;cases hp) hp,trivial⟩
  . rintro a H1 i x H4 ⟨rfl,rfl⟩ hx s R0 r;rw[getElem?_map]at hx;cases e:(Y1 S h ts)[i]? with
    |none=>rw[e]at hx;cases hx
    |some y=>
      rw[e]at hx r;cases hx;obtain⟨dx,b,hd,RL,hw,L,hh,eR,n1,n2⟩:=(W2.same s).ex;obtain⟨dy,y1,y2,y3,hb⟩:=L.obj;walk_at "g";exact r H4 (Zj.refl _)
  . rintro a H1 i x H4 ⟨rfl,rfl⟩ hx hf s R0 r;rw[getElem?_map]at hx;cases e:(Y1 S h ts)[i]? with
    |none=>rw[e]at hx;cases hx
    |some y=>
      rw[e]at hx hf r;cases hx;have oy:=okw y (mem_of_getElem? e);have ny:has S.bs y=false:=by simpa using hf
      have W4:=W2.same s;walk_at "g";exact λ p H5 s5 f5 h5=>r _ H5 s5 ⟨p,rfl,h5,trivial⟩
  rintro a1 H1 D ys H4 ⟨rfl,rfl⟩ hD s4 h4 hpd;obtain⟨ps4,T4,_⟩:=ZkF (fr:=λ _=>True) h4 hpd;have e4:=ZiP (Y1 S h ts) (λ n => !has S.bs n) (λ n=>[V.str (nr S.bs n),V.int (ctn S n)]) false [] (Y1 S h ts).length (le_refl _);rw[take_length]at e4;rw[length_map,e4]at T4;have s04:=s2.trans s4;have W4:=W.same s04;have hp4:=s04 _ _ hp;have fD:H D=none:=s2.free hD;obtain⟨dx,b,hd,RL,hw,L,hh,eR,n1,n2⟩:=W4.ex;obtain⟨dy,y1,y2,y3,hb⟩:=L.obj;cases h with
  |one n=>
    have T5:TupsAt H4 D ((prs S (.one n) ts).map λ q=>[V.str q.1,V.int q.2]) ps4:=by
      have e:prs S (.one n) ts=((Y1 S (.one n) ts).filter λ n => !has S.bs n).map (λ n=>(nr S.bs n,ctn S n)):=append_nil _;rw[e,map_map];exact T4
    walk_at "g";exact rfl
  |kids n a=>
    obtain⟨on,h0,h1⟩:=oh;have lS:(ps4.map V.ref).length<sizeLine:=Zz (by rw[length_map,T4.len,length_map];have:=length_filter_le (λ n => !has S.bs n) (Y1 S (.kids n a) ts);omega);have e0:prs S (.kids n a) ts=((Y1 S (.kids n a) ts).filter λ n => !has S.bs n).map (λ n=>(nr S.bs n,ctn S n))++(if al S.bs S.ds n=true then [(n,(nk S.bs n:Int)+1)] else if has S.bs n=false then [(nr S.bs n,ctn S n)] else []):=rfl;have T4l:=T4.lst;walk_at "g";cases ha:al S.bs S.ds n with
    |true=>
      have hkn:has S.bs n=true:=by unfold al at ha;rw[and_eq_true]at ha;exact ha.1
      refine Yy ?_;walk_at "g";refine⟨(λ z=>by rw[hkn]at z;cases z),λ _ l6 H6 s6 f6 h6=>?_⟩;have kl:(YF n (nk S.bs n)).length=nk S.bs n:=by unfold YF;simp
      have e5:(prs S (.kids n a) ts).map (λ q=>[V.str q.1,V.int q.2])=((Y1 S (.kids n a) ts).filter λ n => !has S.bs n).map (λ n=>[V.str (nr S.bs n),V.int (ctn S n)])++[[V.str n,V.int (((YF n (nk S.bs n)).length:Int)+1)]]:=by rw[e0,if_pos ha,map_append,map_map,kl];rfl
      walk_at "g";intro p7 hp7;have s7:Zj H6 (upd H6 p7 (.tup [V.str n,V.int (((YF n (nk S.bs n)).length:Int)+1)])):=Zi hp7 _;refine⟨D,_,_,rfl,rfl,s7 _ _ (s6 _ _ T4l),lS,?_⟩;have s47:=s6.trans s7;exact⟨a1,D,ps4++[p7],rfl,Z0 (s04.trans s47) fD,by rw[e5];exact(T4.same s47).push Ze,rfl⟩
    |false=>
      refine Z3 ?_;walk_at "g";cases hkn:has S.bs n with
      |true=>
        have T5:TupsAt H4 D ((prs S (.kids n a) ts).map λ q=>[V.str q.1,V.int q.2]) ps4:=by
          rw[e0,if_neg (by rw[ha];decide),if_neg (by rw[hkn];decide),append_nil,map_map];exact T4
        refine Z3 ?_;exact⟨a1,D,ps4,rfl,s04,T5,rfl⟩
      |false=>
        have e5:(prs S (.kids n a) ts).map (λ q=>[V.str q.1,V.int q.2])=((Y1 S (.kids n a) ts).filter λ n => !has S.bs n).map (λ n=>[V.str (nr S.bs n),V.int (ctn S n)])++[[V.str (nr S.bs n),V.int (ctn S n)]]:=by rw[e0,if_neg (by rw[ha];decide),if_pos hkn,map_append,map_map];rfl
        refine Yy ?_;walk_at "g";intro p7 H7 s7 f7 h7;refine⟨D,_,_,rfl,rfl,s7 _ _ T4l,lS,?_⟩;exact⟨a1,D,ps4++[p7],rfl,Z0 (s04.trans s7) fD,by rw[e5];exact(T4.same s7).push h7,rfl⟩
theorem Zjo {f:Addr}{fd:FuncData}(F:Fun K "story_of" "story_of" ZcX f fd)(T:Txt K g mg)(QbK:JX P w0 K g mg base)(Qbd:ZcL P w0 K g mg base)(Qa0:Zb9 P w0 K g mg base)(Qa1:JM P w0 K g mg base)(Qaz:Y6 P w0 K g mg base):FnOk P w0 K mg base CX0 10 f fd ["world","holder","atoms","term"] (ZeO K g):=by
  refine F.ok JR (λ vs H Q E h=>?_) (λ cdv A outer s H vs Q E hr h=>?_)
  . obtain⟨w,S,R,p,l,h,ts,ps,tm,rfl,_⟩:=h;rfl
  obtain⟨w,S,R,p,l,h,ts,ps,tm,rfl,W,hlen,DT,htm,hp,A0,oh,ok,tl,q⟩:=h;refine⟨_,(
(Zc (Zt (i:=4) JR.nd rfl (Or.inl rfl) (Zs QbK (h_ hr) (Za (pv 0) (Za (pv 1) (Za (pv 2) Zb)))))
 (Zc (Zt (i:=5) JR.nd rfl (Or.inl rfl) (Zs Qbd (h_ hr) (Za (Zq Zai (Zs Qa0 (h_ hr) (Za (pv 0) (Za (pv 1) (Za (pv 2) Zb)))) (Zw (pv 0) rfl)) Zb)))
 (Zc (Xv PassesOwn.never rfl (Zij (pv 4)) (ZM (i:=6) JR.nd rfl (Or.inl rfl))
 (Zf (ZD (YJ plainAttrs_list PySem.F.slot_list_extend PySem.F.type_list_extend ZeH (pv 5) (Za (Zq op_rep (Z6 (Za (Yc (Za Zl (Za (pv 6) Zb))) Zb)) (Zq Zai (JU (ZP hr) (pv 4) (pv 6) (λ _ _=>rfl)) (Zx ZO rfl T.z_len boot_len (Za (ZT Xa Qaz (h_ hr) (Zw (pv 0) rfl) (Za (pv 6) Zb)) Zb)))) Zb)))))
 (Zc (ZD (YJ plainAttrs_list PySem.F.slot_list_extend PySem.F.type_list_extend ZeH (pv 5) (Za (Je (x:="name") (cl:=[]) (caps:=[]) rfl (ZQ (Zmq YU Qa1 (h_ hr) (Zw (pv 0) rfl))) (λ _ _ _ _ _=>JC) (λ _ _ _ _ _=>(Yc (Za Zl (Za (pv 0) Zb)))) rfl (by decide +kernel) rfl (by decide +kernel) rfl (λ _ _ h=>nomatch h) (Yr rfl) (λ p hp=>nomatch hp) (by decide +kernel)) Zb)))
 (Zf (Zk (Zq Zgq (pv 5) (Zs Qbd (h_ hr) (Za (pv 3) Zb)))))))))),?_⟩
  have tl100:ts.length<=100:=by omega
  have hl9:S.bs.length<=900:=by omega
  have pl:=Zd1 S h ts;have pok_:=Zie W.wf hlen oh ok;walk_at "g";intro d H1 s1 fd h1;have W1:=W.same s1;have hp1:=s1 _ _ hp;have A1:=A0.same s1;walk_at "g";intro F H2 hF s2;have hF2:=ZfL DT oh ok W.wf hF;have W2:=W1.same s2;obtain⟨dx,b,hd,RL,hw,L,hh,eR,n1,n2⟩:=W2.ex;have fy:F - S.y<=500:=by omega
  walk_at "g";intro l3 ps3 H3 s3 f3 fp3 D3;have s13:=s2.trans s3;have h3:=s13 _ _ h1;have s03:=s1.trans s13;have fl3:H l3=none:=s1.free (s2.free f3);have nd:=ZlI S h ts;have mo:=ZiN (S:=S) (prs S h ts) [] (λ _ z=>by cases z) pok_;have ml:=ZgU (prs S h ts) [];have ml2:(mst S h ts).length<=22:=by show((prs S h ts).foldl Yh []).length<=22;simp only[List.length_nil,Nat.zero_add]at ml;omega
  have yl:=Zdw (F - S.y).toNat (F - S.y).toNat (le_refl _);have yl2:(ydl (F - S.y).toNat).length<=120:=by omega
  walk_at "g";intro o;have ldn:l3≠d:=λ z=>by rw[z]at D3;rw[D3.lst]at h3;cases h3
  refine Zm7 (Pv:=λ i σ H4=>∃(v6:Option V)(ps4:List Addr),σ=[some (.ref w),some (.ref p),some (.ref l),some (.int tm),some (.ref d),some (.ref l3),v6]/\Zj H H4/\H4 d=some (.frz o (.dK (yrs (mst S h ts))))/\DeedsAt H4 l3 ((ydl (F - S.y).toNat).map Deed.years++Y0 S ((mst S h ts).take i)) ps4) ?_ ?_ ?_ ?_
  . refine⟨_,ps3,rfl,Z0 s03 fd,Ze,?_⟩;rw[show Y0 S ((mst S h ts).take 0)=[] from rfl,append_nil];refine D3.mv λ a ha oo e=>?_;rw[Zh ?_]
    . exact e
    . rintro rfl;rcases List.mem_cons.mp ha with z|z
      . exact ldn z.symm
      . obtain⟨vs,z⟩:=D3.tup_of z;rw[h3]at z;cases z
  . rintro i σ H4 _ ⟨v6,ps4,rfl,s4,h4,D4⟩;exact h4
  . rintro i k v σ H4 hk ⟨v6,ps4,rfl,s4,h4,D4⟩;unfold yrs at hk;rw[getElem?_map]at hk;cases e:(mst S h ts)[i]? with
    |none=>rw[e]at hk;cases hk
    |some qq=>
      rw[e]at hk;cases hk;have hm:=mem_of_getElem? e;have hq:=mo qq hm;have hy:=Zi0 nd hm;have gd:ZY H4 d (.str qq.1) (some (V.int qq.2)):=.inl ⟨_,Sum.inr qq.1, .inr ⟨o,h4⟩,rfl,by rw[YN,hy];rfl⟩;have hD4:=D4.lst;walk_at "g";intro p7 hp7;refine⟨ZB (by show 1<=500;omega),λ l7 hl7=>?_⟩;have s7:Zj H4 (upd H4 p7 (.tup [V.str "birth",kV (Sum.inr qq.1:Key)])):=Zi hp7 _;have s8:Zj (upd H4 p7 (.tup [V.str "birth",kV (Sum.inr qq.1:Key)])) (upd (upd H4 p7 (.tup [V.str "birth",kV (Sum.inr qq.1:Key)])) l7 (.lst [V.ref p7])):=Zi hl7 _;have hl8:upd (upd H4 p7 (.tup [V.str "birth",kV (Sum.inr qq.1:Key)])) l7 (.lst [V.ref p7]) l7=some (.lst [V.ref p7]):=Ze;have hp8:=s8 _ _ (show upd H4 p7 (.tup [V.str "birth",kV (Sum.inr qq.1:Key)]) p7=some (.tup (Deed.vals (.birth qq.1))) from Ze);have s48:=s7.trans s8;generalize upd (upd H4 p7 (.tup [V.str "birth",kV (Sum.inr qq.1:Key)])) l7 (.lst [V.ref p7])=H8 at hl8 hp8 s48 ⊢;have gd8:ZY H8 d (.str qq.1) (some (V.int qq.2)):=.inl ⟨_,Sum.inr qq.1, .inr ⟨o,s48 _ _ h4⟩,rfl,by rw[YN,hy];rfl⟩;have W8:=W.same (s4.trans s48);obtain⟨dx,b,hd,RL,hw,L,hh,eR,n1,n2⟩:=W8.ex;obtain⟨dy,y1,y2,y3,hb⟩:=L.obj;have gd8':ZY H8 d (kV (Sum.inr qq.1:Key)) (some (V.int qq.2)):=gd8;walk_at "g";refine⟨(λ z=>by rw[hq.1]at z;cases z),λ _ l9 H9 s9 f9 h9=>?_⟩;have kl:(YF qq.1 (nk S.bs qq.1)).length=nk S.bs qq.1:=by unfold YF;simp
      have hl9':=s9 _ _ hl8;have hw9:=W.wf.few qq.1;refine⟨_,_,rfl, .inl ⟨_,SqL.of h9,rfl⟩,_,_,rfl,rfl,l7,_,_,rfl,rfl,hl9',?_,?_,?_,λ p9 hp9=>?_⟩
      . show -(2 ^ 63)<=qq.2 - ((YF qq.1 (nk S.bs qq.1)).length:Int);rw[kl];omega
      . show qq.2 - ((YF qq.1 (nk S.bs qq.1)).length:Int)<2 ^ 63;rw[kl];omega
      . show 1 * (qq.2 - ((YF qq.1 (nk S.bs qq.1)).length:Int)).toNat<=_;rw[kl,sizeLine_eq];omega
      have s10:=Zi hp9 (.lst (List.replicate (qq.2 - ((YF qq.1 (nk S.bs qq.1)).length:Int)).toNat [V.ref p7]).flatten);have s410:=(s48.trans s9).trans s10;have D10:=D4.same s410;have B10:DeedsAt (upd H9 p9 (.lst (List.replicate (qq.2 - ((YF qq.1 (nk S.bs qq.1)).length:Int)).toNat [V.ref p7]).flatten)) p9 (List.replicate (qq.2 - ((YF qq.1 (nk S.bs qq.1)).length:Int)).toNat (Deed.birth qq.1)) _:=Zkt (s10 _ _ (s9 _ _ hp8)) Ze;generalize upd H9 p9 (.lst (List.replicate (qq.2 - ((YF qq.1 (nk S.bs qq.1)).length:Int)).toNat [V.ref p7]).flatten)=H10 at s410 D10 B10 ⊢;have D11:=D10.ext B10;refine⟨l3,p9,_,_,rfl,rfl,D10.lst,B10.lst,?_,?_⟩
      . have t1:=Zg6 (S:=S) (m:=(mst S h ts).take i) (λ x hx=>mo x (List.mem_of_mem_take hx));have t2:=List.length_take_le' i (mst S h ts);have e7:=D10.len;rw[length_append,length_map]at e7;rw[length_map,length_map,length_replicate,kl,sizeLine_eq];omega
      have e12:(ydl (F - S.y).toNat).map Deed.years++Y0 S ((mst S h ts).take (i+1))=((ydl (F - S.y).toNat).map Deed.years++Y0 S ((mst S h ts).take i))++List.replicate (qq.2 - ((YF qq.1 (nk S.bs qq.1)).length:Int)).toNat (Deed.birth qq.1):=by rw[Zl1 e,<- append_assoc,kl]
      refine⟨_,ps4++List.replicate (qq.2 - ((YF qq.1 (nk S.bs qq.1)).length:Int)).toNat p7,rfl,Z0 (s4.trans s410) fl3,by rw[Zh (Ne.symm ldn)];exact s410 _ _ h4,?_⟩;rw[e12];exact D11
  . rintro σ H4 ⟨v6,ps4,rfl,s4,h4,D4⟩;have e4:(yrs (mst S h ts)).length=(mst S h ts).length:=by unfold yrs;rw[length_map]
    rw[e4,take_length]at D4;have hD4:=D4.lst;have W4:=W.same s4;obtain⟨dx,b,hd,RL,hw,L,hh,eR,n1,n2⟩:=W4.ex;obtain⟨dy,y1,y2,y3,hb⟩:=L.obj;refine⟨_,rfl, .inl ⟨rfl,_,SqL.of hD4⟩,?_⟩;unfold Zi3;obtain⟨ns,hns⟩:∃ ns,ns=(S.bs.filter λ p => !has S.ds p.1).map (·.1):=⟨_,rfl⟩;have nsl:ns.length<=98:=by rw[hns,length_map];exact le_trans (length_filter_le _ _) hlen
    refine lcLT (xs:=ns.map V.str) (λ a H1=>Zj H4 H1/\H1 a=some (.lst (ns.map V.str))) ?_ (λ a H1 h=>SqL.of h.2) (by rw[length_map];omega) (λ i=>(ns[i]?.map λ _=>true).getD false) (λ _ _ i v H'=>∃ p,v=V.ref p/\H' p=some (.tup ((ns[i]?.map λ n=>Deed.vals (.death n)).getD []))/\True) ?_ ?_ ?_ ?_
    . intro R0 r;walk_at "g";exact λ l H' s f h=>r l H' ⟨s,by rw[h,hns,map_map];rfl⟩
    . rintro a H1 i v H H' D ys hD kk ⟨p,rfl,hp,_⟩;exact⟨p,rfl,kk.1 _ _ (λ z=>by rw[List.mem_singleton.mp z,hD]at hp;cases hp) hp,trivial⟩
    . rintro a H1 i x H5 ⟨s5,h5⟩ hx s R0 r;rw[getElem?_map]at hx;cases e:ns[i]? with
      |none=>rw[e]at hx;cases hx
      |some y=>
        rw[e]at r;exact r H5 (Zj.refl _)
    . rintro a H1 i x H5 ⟨s5,h5⟩ hx hf s R0 r;rw[getElem?_map]at hx;cases e:ns[i]? with
      |none=>rw[e]at hx;cases hx
      |some y=>
        rw[e]at hx r;cases hx;walk_at "g";intro p9 hp9;exact r _ _ (Zi hp9 _) ⟨p9,rfl,Ze,trivial⟩
    rintro a1 H5 D ys H6 ⟨s5,h5⟩ hD s6 h6 hpd;obtain⟨psD,TD,_⟩:=ZkF (fr:=λ _=>True) h6 hpd;have e6:=ZiP ns (λ _=>true) (λ n=>Deed.vals (.death n)) false [] ns.length (le_refl _);rw[take_length,List.filter_eq_self.mpr (λ _ _=>rfl)]at e6;rw[length_map,e6]at TD;have D6:DeedsAt H6 D (Zbd S) psD:=Zhl (by
      have e:(Zbd S).map Deed.vals=ns.map (λ n=>Deed.vals (.death n)):=by unfold Zbd;rw[hns,map_map,map_map];rfl
      rw[e];exact TD)
    have s46:=s5.trans s6;have D46:=D4.same s46;have bl:=Zg6 mo;have dl:(Zbd S).length<=98:=by unfold Zbd;rw[length_map];exact le_trans (length_filter_le _ _) hlen
    refine⟨l3,D,_,_,rfl,rfl,D46.lst,D6.lst,?_,?_⟩
    . rw[length_map,length_map,D46.len,D6.len,length_append,length_map];have bl2:(Y0 S (mst S h ts)).length<=2200:=by have:(Y0 S (mst S h ts)).length<=(mst S h ts).length * 100:=bl;omega
      rw[sizeLine_eq];omega
    have s7:Zj H (upd H6 l3 (.lst (ps4.map V.ref++psD.map V.ref))):=Z0 (s4.trans s46) fl3;have D7:=D46.ext D6;generalize upd H6 l3 (.lst (ps4.map V.ref++psD.map V.ref))=H7 at s7 D7 ⊢;have tm5:tm<=500:=by omega
    have hD7:=D7.lst;walk_at "g";intro l8 ps8 H8 s8 f8 _ D8;have tl8:=Zdw tm.toNat tm.toNat (le_refl _);refine⟨l3,l8,_,_,rfl,rfl,s8 _ _ hD7,D8.lst,?_,λ p9 hp9=>?_⟩
    . have e7:=D7.len;rw[length_append]at e7;have e8:=D8.len;rw[length_map]at e8;have bl2:(Y0 S (mst S h ts)).length<=2200:=by have:(Y0 S (mst S h ts)).length<=(mst S h ts).length * 100:=bl;omega
      rw[length_append,length_append,length_map]at e7;rw[length_map,length_map,sizeLine_eq,length_append];omega
    exact q F p9 _ _ hF ((s7.trans s8).trans (Zi hp9 _)) ((s7.trans s8).free hp9) ((D7.same s8).app D8 Ze (λ p _ o e=>Zi hp9 _ p o e))
theorem Zjp {f:Addr}{fd:FuncData}(F:Fun K "names_of" "names_of" ZcY f fd)(T:Txt K g mg)(Qae:YZ P w0 K g mg base)(Qai:YB P w0 K g mg base)(Qad:Z7 P w0 K g mg base)(QaC:Zcu P w0 K g mg base)(QaA:Zcs P w0 K g mg base)(Qa2:Zaj P w0 K g mg base):FnOk P w0 K mg base CX0 9 f fd ["world","holder","atoms"] (ZeP K g):=by
  refine F.ok Ze5 (λ vs H Q E h=>?_) (λ cdv A outer s H vs Q E hr h=>?_)
  . obtain⟨w,S,R,p,l,h,ts,ps,rfl,_⟩:=h;rfl
  obtain⟨w,S,R,p,l,h,ts,ps,rfl,W,hlen,hp,A0,oh,ok,tl,q⟩:=h;refine⟨_,(
(Zc (XW (i:=3) Ze5.nd rfl (Or.inl rfl) (x:="atom") (cl:=[("world",s.heap.objs.size+1)]) (caps:=[("world",0)]) rfl (ZQ (Zs QaC (h_ hr) (Za (pv 0) (Za (pv 1) (Za (pv 2) Zb))))) (λ _ _ _ _ _=>Yg (Zo (show OpR _ (compareOp .In) (rIn K false) from XN) (Zn (show IxR _ (Zex K) from Zm) (pv 0) Zd (λ _ _=>rfl)) (ZA (v:=.ref g.ABOUT_PEOPLE) rfl T.Qc7 rfl) rfl)) (λ _ _ _ _ _=>(ZT Xa Qai (h_ hr) (show PE _ _ (tFld K (Zg9 1) "lives") from Zw (pv 1) rfl) (Za (Zn (show IxR _ (Zex K) from Zm) (pv 0) Zd (λ _ _=>rfl)) Zb))) rfl (by decide +kernel) rfl (by decide +kernel) rfl (λ _ _ h=>h) (Yr rfl) (λ p hp=>by rw[List.mem_singleton.mp hp];exact⟨rfl,rfl,by first|exact .inl rfl|exact .inr rfl⟩) (by decide +kernel))
 (Zc (Zu (ZS (Zs Qae (h_ hr) (Za (pv 1) Zb)))
 (Zc (ZD (YJ plainAttrs_list PySem.F.slot_list_extend PySem.F.type_list_extend ZeH (pv 3) (Za (Zs QaA (h_ hr) (Za (pv 0) (Za (Zn Zm (pv 1) Zd (λ _ _=>rfl)) (Za (Zn Zm (pv 1) Zd (λ _ _=>rfl)) (Za (Zs Qa2 (h_ hr) (Za (pv 0) (Za (pv 1) Zb))) Zb))))) Zb)))
 (Zf (Zu (ZS (ZT YU Qad (h_ hr) (Zw (pv 0) rfl) (Za (Zn Zm (pv 1) Zd (λ _ _=>rfl)) Zb)))
 (Zf (ZD (YJ plainAttrs_list PySem.F.slot_list_append PySem.F.type_list_append YA (pv 3) (Za (Zn Zm (pv 1) Zd (λ _ _=>rfl)) Zb))))
 Zp)))
 Zp)
 (Zf (Zk (Zx (Zkx rfl) rfl T.z_sorted PyProof.Rows.boot_sorted (Za (ZU (ZlY rfl) rfl T.z_set PyProof.Rows.boot_set (Za (pv 3) Zb)) Zb))))))),?_⟩
  have hl:=Zeb S h ts;have okh:=ZfJ oh ok;unfold ZhZ Zha;dsimp only;refine ZmN (tl':=XZ S h ts) ?_ (by omega) (λ t=>t.who.isSome) (λ t => .str (nr S.bs (t.who.getD ""))) ?_ ?_ ?_
  . intro R0 r;walk_at "g";exact λ l' ps' H' s f A=>r l' ps' H' s f A
  . intro p2 t H2 s2 ht hp2 R0 r;cases t with
    |year y=>
      walk_at "g";refine⟨.inr (T.Qam _),rfl,rfl,_,rfl,?_⟩;rw[if_neg (by decide),(by decide +kernel:inV (.str "year") [.str "born", .str "dead", .str "age"]=false)];exact r H2 (Zj.refl _)
    |comes y=>
      walk_at "g";refine⟨.inr (T.Qam _),rfl,rfl,_,rfl,?_⟩;rw[if_neg (by decide),(by decide +kernel:inV (.str "comes") [.str "born", .str "dead", .str "age"]=false)];exact r H2 (Zj.refl _)
    |born y=>
      walk_at "g";refine⟨.inr (T.Qam _),rfl,rfl,_,rfl,?_⟩;rw[if_neg (by decide),(by decide +kernel:inV (.str "born") [.str "born", .str "dead", .str "age"]=true)];exact r H2 (Zj.refl _)
    |dead y=>
      walk_at "g";refine⟨.inr (T.Qam _),rfl,rfl,_,rfl,?_⟩;rw[if_neg (by decide),(by decide +kernel:inV (.str "dead") [.str "born", .str "dead", .str "age"]=true)];exact r H2 (Zj.refl _)
    |age y a=>
      walk_at "g";refine⟨.inr (T.Qam _),rfl,rfl,_,rfl,?_⟩;rw[if_neg (by decide),(by decide +kernel:inV (.str "age") [.str "born", .str "dead", .str "age"]=true)];exact r H2 (Zj.refl _)
  . intro p2 t H2 s2 ht hf hp2 R0 r;have okt:=okh t ht;obtain⟨dx,b,hd,RL,hw,L,hh,eR,n1,n2⟩:=(W.same s2).ex;obtain⟨dy,y1,y2,y3,hb⟩:=L.obj;cases t with
    |born y=>
      have oy:okN S y:=okt;have py:=oy.1;have yl:=Yx py;have yl2:y.length<=200:=by omega
      walk_at "g";refine⟨(λ z=>by rw[py]at z;cases z),λ _ H3 s3=>r H3 s3⟩
    |dead y=>
      have oy:okN S y:=okt;have py:=oy.1;have yl:=Yx py;have yl2:y.length<=200:=by omega
      walk_at "g";refine⟨(λ z=>by rw[py]at z;cases z),λ _ H3 s3=>r H3 s3⟩
    |age y a=>
      have oy:okN S y:=okt.1;have py:=oy.1;have yl:=Yx py;have yl2:y.length<=200:=by omega
      walk_at "g";refine⟨(λ z=>by rw[py]at z;cases z),λ _ H3 s3=>r H3 s3⟩
    |year y=>cases hf
    |comes y=>cases hf
  . intro D H2 s2 fD h2;rw[ZkC _ (λ n=>V.str (nr S.bs n))]at h2;have e0:(List.filterMap Atm.who (XZ S h ts)).map (λ n=>V.str (nr S.bs n))=((Y1 S h ts).map (nr S.bs)).map V.str:=by rw[map_map];rfl
    rw[e0]at h2;have hp2:=s2 _ _ hp;have W2:=W.same s2;have wl:=ZhV S h ts;have hl98:S.bs.length<=98:=by omega
    have hl900:S.bs.length<=900:=by omega
    unfold Zfh;dsimp only;cases h with
    |one n=>
      walk_at "g";have wl2:=ZfM ((Y1 S (.one n) ts).map (nr S.bs));rw[length_map]at wl2;refine⟨by rw[length_map];omega,λ a ha=>?_⟩;refine⟨a,_,rfl,Ze,by omega,λ ss l9 hpm hs hl9=>?_⟩;exact q ss l9 _ (by rw[show namL S (.one n) ts=(Y1 S (.one n) ts).map (nr S.bs) from append_nil _];exact hpm) hs ((s2.trans (Zi ha _)).trans (Zi hl9 _)) (s2.free ((Zi ha _).free hl9)) Ze
    |kids n a=>
      obtain⟨on,h0,h1⟩:=oh;walk_at "g";intro o H3 s3 fo ho;have W3:=W2.same s3;have hp3:=s3 _ _ hp2;have hoS:SqL K H3 o ((Z5 S n).map V.str):=SqL.of ho;walk_at "g";intro l4 H4 s4 f4 h4;have s34:=s3.trans s4;have wwl:=length_filter_le (λ c => !decide (a<=Xp S c) && !has S.ds c) (YI S n (Z5 S n));have wml:=ZaA W.wf (n:=n) (os:=Z5 S n);have wll:(ZH S n a (Z5 S n)).length<=S.bs.length:=by show(List.filter _ _).length<=_;omega
      refine⟨D,l4,_,_,rfl,rfl,s34 _ _ h2,h4,ZB (by rw[length_map,length_map,length_map];show _+_<=500;omega),?_⟩;have s5:Zj H (upd H4 D (.lst (((Y1 S (.kids n a) ts).map (nr S.bs)).map V.str++(ZH S n a (Z5 S n)).map V.str))):=Z0 (s2.trans s34) fD;have h5:upd H4 D (.lst (((Y1 S (.kids n a) ts).map (nr S.bs)).map V.str++(ZH S n a (Z5 S n)).map V.str)) D=some (.lst (((Y1 S (.kids n a) ts).map (nr S.bs)++ZH S n a (Z5 S n)).map V.str)):=by rw[Ze,map_append]
      generalize upd H4 D (.lst (((Y1 S (.kids n a) ts).map (nr S.bs)).map V.str++(ZH S n a (Z5 S n)).map V.str))=H5 at s5 h5 ⊢;have W5:=W.same s5;have hp5:=s5 _ _ hp;obtain⟨dx,b,hd,RL,hw,L,hh,eR,n1,n2⟩:=W5.ex;obtain⟨dy,y1,y2,y3,hb⟩:=L.obj;have wl2:=ZfM ((Y1 S (.kids n a) ts).map (nr S.bs)++ZH S n a (Z5 S n));have wl3:=ZfM (((Y1 S (.kids n a) ts).map (nr S.bs)++ZH S n a (Z5 S n))++[n]);rw[length_append,length_map]at wl2;rw[length_append,length_append,length_map,length_singleton]at wl3;walk_at "g";cases ha:al S.bs S.ds n with
      |true=>
        walk_at "g";refine⟨Zz (by rw[length_map,length_append,length_map];omega),?_⟩;have s6:Zj H (upd H5 D (.lst (((Y1 S (.kids n a) ts).map (nr S.bs)++ZH S n a (Z5 S n)).map V.str++[V.str n]))):=Z0 s5 fD;have h6:upd H5 D (.lst (((Y1 S (.kids n a) ts).map (nr S.bs)++ZH S n a (Z5 S n)).map V.str++[V.str n])) D=some (.lst ((((Y1 S (.kids n a) ts).map (nr S.bs)++ZH S n a (Z5 S n))++[n]).map V.str)):=by rw[Ze,map_append (l₂:=[n])];rfl
        generalize upd H5 D (.lst (((Y1 S (.kids n a) ts).map (nr S.bs)++ZH S n a (Z5 S n)).map V.str++[V.str n]))=H6 at s6 h6 ⊢;walk_at "g";refine⟨by rw[length_append,length_append,length_map];show _+_+1<1000;omega,λ a9 ha9=>?_⟩;refine⟨a9,_,rfl,Ze,by omega,λ ss l9 hpm hs hl9=>?_⟩;exact q ss l9 _ (by rw[show namL S (.kids n a) ts=((Y1 S (.kids n a) ts).map (nr S.bs)++ZH S n a (Z5 S n))++[n] from by show _++(_++(if _ then _ else _))=_;rw[if_pos ha,append_assoc]];exact hpm) hs ((s6.trans (Zi ha9 _)).trans (Zi hl9 _)) (s6.free ((Zi ha9 _).free hl9)) Ze
      |false=>
        walk_at "g";refine⟨by rw[length_append,length_map];omega,λ a9 ha9=>?_⟩;refine⟨a9,_,rfl,Ze,by omega,λ ss l9 hpm hs hl9=>?_⟩;exact q ss l9 _ (by rw[show namL S (.kids n a) ts=((Y1 S (.kids n a) ts).map (nr S.bs)++ZH S n a (Z5 S n)) from by show _++(_++(if _ then _ else _))=_;rw[if_neg (by rw[ha];decide),append_nil]];exact hpm) hs ((s5.trans (Zi ha9 _)).trans (Zi hl9 _)) (s5.free ((Zi ha9 _).free hl9)) Ze
theorem ZlB {f:Addr}{fd:FuncData}(F:Fun K "judged" "judged" Zgj f fd)(T:Txt K g mg)(QbL:ZhN P w0 K g mg base)(QbM:ZcM P w0 K g mg base)(QbN:ZgZ P w0 K g mg base)(Qa2:Zaj P w0 K g mg base)(QbO:ZgY P w0 K g mg base):FnOk P w0 K mg base CX0 11 f fd ["world","holder","atoms","term"] (Zhw K g):=by
  refine F.ok Zlp (λ vs H Q E h=>?_) (λ cdv A outer s H vs Q E hr h=>?_)
  . obtain⟨w,S,R,p,l,h,ts,ps,tm,rfl,_⟩:=h;rfl
  obtain⟨w,S,R,p,l,h,ts,ps,tm,rfl,W,hl40,DT,htm,hp,A0,oh,ok,tl,q⟩:=h;refine⟨_,(
(Zc (Zu (Zo ZcJ (Zs QbM (h_ hr) (Za (pv 0) (Za (pv 1) (Za (pv 2) (Za (Zs Qa2 (h_ hr) (Za (pv 0) (Za (pv 1) Zb))) Zb))))) (ZA (v:=.str "hangs") rfl T.Qal ⟨_,rfl⟩) (Zr _))
 (Zf (Zk (Yc (Za (ZA (v:=.str "sure") rfl T.Qc6 ⟨_,rfl⟩) (Za (Z6 Zb) Zb)))))
 Zp)
 (Zc (Zu (ZS (Zs QbL (h_ hr) (Za (pv 0) (Za (pv 1) (Za (pv 2) (Za (pv 3) Zb))))))
 (Zf (Zk (Yc (Za (ZA (v:=.str "late") rfl T.QdD ⟨_,rfl⟩) (Za (Zs QbO (h_ hr) (Za (pv 0) (Za (pv 1) (Za (pv 2) (Za (pv 3) Zb))))) Zb)))))
 Zp)
 (Zf (Zk (Yc (Za (ZA (v:=.str "sure") rfl T.Qc6 ⟨_,rfl⟩) (Za (Zs QbN (h_ hr) (Za (pv 0) (Za (pv 1) (Za (pv 2) Zb)))) Zb)))))))),?_⟩
  have hlen:S.bs.length<=98:=by omega
  walk_at "g";intro o H1 s1 fo ho;have W1:=W.same s1;have hp1:=s1 _ _ hp;have A1:=A0.same s1;walk_at "g";intro H2 s2;have s12:=s1.trans s2;have W2:=W.same s12;have hp2:=s12 _ _ hp;have A2:=A0.same s12;walk_at "g";cases hw:decide (whS S h ts (h.out S)=("hangs":Str)) with
  |false=>
    have hw':whS S h ts (h.out S)≠("hangs":Str):=of_decide_eq_false hw;rw[Xg,hw];refine Yy ?_;walk_at "g";intro l3 hl3;have s3:=Zi hl3 (.lst []);refine⟨ZB (by show 2<=500;omega),λ r hr=>?_⟩;have s4:=Zi hr (.tup [V.str "sure",V.ref l3]);exact q r l3 _ ((s12.trans s3).trans s4) (s12.free (s3.free hr)) (s12.free hl3) (.inl ⟨hw',Ze,s4 _ _ Ze⟩)
  |true=>
    have hw':whS S h ts (h.out S)=("hangs":Str):=of_decide_eq_true hw;rw[Xg,hw];refine Z3 ?_;unfold ZkH;dsimp only;walk_at "g";intro F H3 hF s3;have s13:=s12.trans s3;have W3:=W.same s13;have hp3:=s13 _ _ hp;have A3:=A0.same s13;walk_at "g";cases hL:Za5 S h ts F tm with
    |true=>
      refine Yy ?_;walk_at "g";intro F2 l4 ps4 H4 hF2 s4 f4 D4;obtain rfl:=hF.uniq hF2;refine⟨ZB (by show 2<=500;omega),λ r hr=>?_⟩;have s5:=Zi hr (.tup [V.str "late",V.ref l4]);exact q r l4 _ ((s13.trans s4).trans s5) (s13.free (s4.free hr)) (s13.free f4) (.inr (.inl ⟨hw',F,ps4,hF,hL,Ze,D4.same s5⟩))
    |false=>
      refine Z3 ?_;walk_at "g";intro ss l4 H4 hss hso s4 f4 h4;refine⟨ZB (by show 2<=500;omega),λ r hr=>?_⟩;have s5:=Zi hr (.tup [V.str "sure",V.ref l4]);exact q r l4 _ ((s13.trans s4).trans s5) (s13.free (s4.free hr)) (s13.free f4) (.inr (.inr ⟨hw',F,ss,hF,hL,hss,hso,Ze,s5 _ _ h4⟩))
theorem Zkf {f:Addr}{fd:FuncData}(F:Fun K "_law_num" "_law_num" Zes f fd)(T:Txt K g mg)  : FnOk P w0 K mg base CX0 1 f fd ["_law_found"] (ZfW K g):=by
  refine F.ok Zj8 (λ vs H Q E h=>?_) (λ cdv A outer s H vs Q E hr h=>?_)
  . obtain⟨i,rfl,_⟩:=h;rfl
  obtain⟨i,rfl,q⟩:=h;refine⟨_,(
(Zf (Zk (X8 (Zx Zcg rfl T.z_isinstance PyProof.Rows.boot_isinstance (Za (pv 0) (Za (Zd2 (v:=V.ty "int") rfl T.z_int PyProof.Rows.boot_int rfl) Zb))) (JD (pe_not (Zx Zcg rfl T.z_isinstance PyProof.Rows.boot_isinstance (Za (pv 0) (Za (Zd2 (v:=V.ty "bool") rfl T.z_bool PyProof.Rows.boot_bool rfl) Zb))))))))),?_⟩
  refine⟨_,rfl,_,_,_,_,rfl, .int _,kit_ii,_,rfl,Yy ?_⟩;exact⟨_,rfl,_,_,_,_,rfl, .int _,kit_ib,_,rfl,q⟩
theorem Zgv {f:Addr}{fd:FuncData}(F:Fun K "_law_cell_at" "_law_cell_at" J4 f fd)(T:Txt K g mg)  : FnOk P w0 K mg base CX0 1 f fd ["_law_script","_law_k"] (Zbp K g):=by
  refine F.ok Zf3 (λ vs H Q E h=>?_) (λ cdv A outer s H vs Q E hr h=>?_)
  . obtain⟨a,ns,k,rfl,_⟩:=h;rfl
  obtain⟨a,ns,k,rfl,hS,h0,q⟩:=h;refine⟨_,(
(Zc (Zu (Zo Zax (pv 1) (Zx ZO rfl T.z_len boot_len (Za (pv 0) Zb)) (Zr _))
 (Zf (Zk (Zn ZG (pv 0) (pv 1) (λ _ _=>rfl))))
 Zp)
 (Zf (Zk Zd)))),?_⟩
  have hl:(ns.map V.int).length=ns.length:=length_map _;refine⟨_,rfl,_,rfl,_,_,rfl, .inl ⟨_,hS,rfl⟩,_,_,rfl,rfl,_,rfl,?_⟩;refine Yj (λ c=>?_) (λ c=>?_)
  . have c':k<(((ns.map V.int).length:Nat):Int):=of_decide_eq_true c;rw[hl]at c';have hk:k.toNat<ns.length:=by omega
    have e:atI (ns.map V.int) ((k.toNat:Nat):Int)=some (.int ns[k.toNat]):=JY (by rw[getElem?_map,getElem?_eq_getElem hk] <;> rfl);rw[show((k.toNat:Nat):Int)=k by omega]at e;exact⟨_,rfl,_,rfl,a,_,_,_,rfl,rfl,hS,e,q _⟩
  . exact q 0
theorem Zjt {f:Addr}{fd:FuncData}(F:Fun K "_law_rich" "_law_rich" Zc2 f fd)(T:Txt K g mg)  : FnOk P w0 K mg base CX0 1 f fd ["_law_cell","_law_place"] (ZeT K g):=by
  refine F.ok ZbF (λ vs H Q E h=>?_) (λ cdv A outer s H vs Q E hr h=>?_)
  . obtain⟨c,p,rfl,_⟩:=h;rfl
  obtain⟨c,p,rfl,q⟩:=h;refine⟨_,(
(Zc (Zu (Zo Zd3 (pv 0) (Zq op_pow Zd Zd) (Zr _))
 (Zf (Zk (pv 0)))
 Zp)
 (Zc (Zt (i:=2) ZbF.nd rfl (Or.inl rfl) (Zq ZL (Zq Z8 (Zq Z8 (Zq ZbZ (pv 0) Zd) (Zq ZbZ (pv 1) Zd)) Zd) Zd))
 (Zc (Zt (i:=3) ZbF.nd rfl (Or.inl rfl) (Zq ZL (Zq Z8 (Zq Z8 (Zq ZbZ (pv 2) (pv 2)) (Zq ZbZ (pv 0) Zd)) (Zq ZbZ (pv 1) Zd)) Zd))
 (Zf (Zk (Zq Z8 (Zq ZbZ (pv 2) Zd) (pv 3)))))))),?_⟩
  refine⟨_,rfl,_,_,rfl,rfl,⟨by decide,by decide,by decide⟩,_,_,rfl,rfl,_,rfl,?_⟩;refine Yj (λ _=>?_) (λ _=>?_)
  . exact⟨_,rfl,q _⟩
  . have small:∀ z:Int,(-(2 ^ 64)<z % 2147483647/\z % 2147483647<2 ^ 64):=λ z=>⟨by omega,by omega⟩;refine⟨_,rfl,_,_,rfl,rfl, .inr ⟨by decide,by decide⟩,_,rfl,_,_,rfl,rfl, .inr ⟨by decide,by decide⟩,_,_,rfl,rfl,_,_,rfl,rfl,_,_,rfl,rfl,(by show(0:Int)<2147483647;decide),?_⟩;refine⟨_,rfl,_,rfl,_,_,rfl,rfl, .inl (small _),_,rfl,_,_,rfl,rfl, .inr ⟨by decide,by decide⟩,_,_,rfl,rfl,_,rfl,_,_,rfl,rfl, .inr ⟨by decide,by decide⟩,_,_,rfl,rfl,_,_,rfl,rfl,(by show(0:Int)<2147483629;decide),?_⟩;exact⟨_,rfl,_,_,rfl,rfl, .inr ⟨by decide,by decide⟩,_,rfl,_,_,rfl,rfl,q _⟩
theorem Zjs {f:Addr}{fd:FuncData}(F:Fun K "_law_word" "_law_word" Zc1 f fd)(T:Txt K g mg)  : FnOk P w0 K mg base CX0 1 f fd ["_law_n"] (ZeS K g):=by
  refine F.ok YV (λ vs H Q E h=>?_) (λ cdv A outer s H vs Q E hr h=>?_)
  . obtain⟨n,rfl,_⟩:=h;rfl
  obtain⟨n,rfl,q⟩:=h;refine⟨_,(
(Zc (Zt (i:=1) YV.nd rfl (Or.inl rfl) (Zq Z8 Zd (Zq ZL (pv 0) Zd)))
 (Zc (Zt (i:=0) YV.nd rfl (Or.inl rfl) (Zq ZZ (pv 0) Zd))
 (Zc (Zt (i:=2) YV.nd rfl (Or.inl rfl) Zl)
 (Zc (Xv PassesOwn.never rfl (Jn rfl T.z_range (Za (pv 1) Zb)) (ZM (i:=3) YV.nd rfl (Or.inl rfl))
 (Zc (Zt (i:=2) YV.nd rfl (Or.inl rfl) (Zq Yn (pv 2) (Zn ZmV Zl (Zq ZL (pv 0) Zd) (λ _ _=>rfl))))
 (Zf (Zt (i:=0) YV.nd rfl (Or.inl rfl) (Zq ZZ (pv 0) Zd)))))
 (Zc (Zu (PW.pt (Jd (Zo Z1 (pv 2) Zl (Zr _)) (Xm (Zo Z1 (pv 2) Zl (Zr _)))))
 (Zf (Zk (Zgo Zmg (pv 2) Zih (Zig Zd))))
 Zp)
 (Zf (Zk (pv 2))))))))),?_⟩
  refine⟨_,rfl,_,_,rfl,rfl,(by show(0:Int)<8;decide),_,_,rfl,rfl,?_⟩;refine⟨_,rfl,_,_,rfl,rfl,⟨by decide,by decide⟩,?_⟩;have b1:=emod_lt_of_pos n (show(0:Int)<8 by decide);have b0:=emod_nonneg n (show(8:Int)≠0 by decide);refine⟨_,rfl,1+n % 8,rfl,by omega,by omega,ZaC (n:=(1+n % 8).toNat) (λ i σ H2=>H2=H/\∃(n':Int)(z:Str)(v:Option V),σ=[some (.int n'),some (.int (1+n % 8)),some (.str z),v]/\z.length=i/\z.cps.toList.all (inR 97 122)=true) ⟨rfl,_,_,_,rfl,rfl,by decide +kernel⟩ ?_ ?_⟩
  . rintro i σ H2 hi ⟨rfl,n',z,v,rfl,hz,hk⟩;obtain⟨c,hc,hc2⟩:=abc_in (emod_nonneg n' (show(26:Int)≠0 by decide)) (emod_lt_of_pos n' (show(0:Int)<26 by decide));refine⟨_,rfl,_,rfl,_,_,rfl,rfl,(by show(0:Int)<26;decide),abc,_,c,rfl,rfl,by decide +kernel,hc,z,_,rfl,rfl,?_,?_⟩
    . have:(⟨#[c]⟩:Str).length=1:=rfl;have:=Zz (n:=9) (by decide);omega
    . refine⟨_,rfl,_,_,rfl,rfl,⟨by decide,by decide⟩,rfl,_,_,_,rfl,?_,?_⟩
      . rw[YO,hz];rfl
      . rw[Xi,all_append,hk];simp[hc2]
  . rintro σ H2 ⟨rfl,n',z,v,rfl,hz,hk⟩;have hz8:z.length<=8:=by omega
    have hz1:1<=z.length:=by omega
    have cut:gw (Txt.slice z none (some 3))=true->ZfR (tSl (λ x lo hi H Q=>∃ z,x = .str z/\z.length<=sizeLine/\Q (.str (Txt.slice z lo hi)) H) (Zg9 2) ZkG (tPart (tC (.int 3)))) { nx:=λ _ H'=>Q .non H',rt:=Q } [some (.int n'),some (.int (1+n % 8)),some (.str z),v] H2:=
      λ hg=>⟨_,rfl,_,rfl,z,rfl,le_of_lt (Zz (by omega)),q _ hg⟩
    refine⟨_,rfl,rfl,_,rfl,?_⟩;refine Yj (λ c=>Yy (cut ?_)) (λ c1=>?_)
    . have e:z="crown":=by injection (of_decide_eq_true c)
      rw[e];decide +kernel
    refine⟨_,rfl,rfl,_,rfl,?_⟩;refine Yj (λ c=>cut ?_) (λ c2=>?_)
    . have e:z="kids":=by injection (of_decide_eq_true c)
      rw[e];decide +kernel
    refine⟨_,rfl,q z ?_⟩;unfold gw;rw[decide_eq_true hz1,decide_eq_true hz8,hk,decide_eq_false (λ e=>c1 (by rw[e];rfl)),decide_eq_false (λ e=>c2 (by rw[e];rfl))];rfl
theorem Zir {f:Addr}{fd:FuncData}(F:Fun K "_law_model" "_law_model" ZbO f fd)(T:Txt K g mg)  : FnOk P w0 K mg base CX0 1 f fd ["_law_year"] (ZdH K g):=by
  refine F.ok Zh7 (λ vs H Q E h=>?_) (λ cdv A outer s H vs Q E hr h=>?_)
  . obtain⟨y,rfl,_⟩:=h;rfl
  obtain⟨y,rfl,q⟩:=h;refine⟨_,(
(Zf (Zk (Yc (Za (Z6 (Za (pv 0) Zb)) (Za Xw (Za Xw (Za Xw Zb)))))))),?_⟩
  refine⟨_,rfl,(by show 1<=sizeLine;decide),λ c hc=>?_⟩;intro e1 h1 e2 h2 e3 h3;refine⟨(by show 4<=sizeLine;decide),λ m hm=>?_⟩;have s1:=Zi hc (.lst [V.int y]);have s2:=Zi h1 (.dK []);have s3:=Zi h2 (.dK []);have s4:=Zi h3 (.dK []);have s5:=Zi hm (.tup [V.ref c,V.ref e1,V.ref e2,V.ref e3]);have t2:=s1.trans s2;have t3:=t2.trans s3;have t4:=t3.trans s4;have u1:upd (upd H c (.lst [V.int y])) e1 (.dK []) e1=some (.dK []):=Ze;have v1:=s3 _ _ u1;have u2:upd (upd (upd H c (.lst [V.int y])) e1 (.dK [])) e2 (.dK []) e2=some (.dK []):=Ze;have v2:=s4 _ _ u2;refine q m (Jf m c e1 e2 e3) _ (t4.trans s5) (λ a ha=>?_) ⟨c,e1,e2,e3,
    ⟨Ze,s5 _ _ (s4 _ _ (s3 _ _ (s2 _ _ Ze))),s5 _ _ (s4 _ _ v1),s5 _ _ v2,s5 _ _ Ze,ZC u1 h2,ZC v1 h3,ZC u2 h3⟩,rfl⟩
  unfold Jf at ha;simp only[mem_cons,not_mem_nil,or_false]at ha;rcases ha with rfl|rfl|rfl|rfl|rfl
  . exact t4.free hm
  . exact hc
  . exact s1.free h1
  . exact t2.free h2
  . exact t3.free h3
theorem Zjy {f:Addr}{fd:FuncData}(F:Fun K "_law_kids" "_law_kids" Zc7 f fd)(T:Txt K g mg)  : FnOk P w0 K mg base CX0 1 f fd ["_law_model_here","_law_name"] (ZeY K g):=by
  refine F.ok Ze6 (λ vs H Q E h=>?_) (λ cdv A outer s H vs Q E hr h=>?_)
  . obtain⟨m,S,R,n,rfl,_⟩:=h;rfl
  obtain⟨m,S,R,n,rfl,MM,W,hx,hk,q⟩:=h;obtain⟨c,e1,e2,e3,M,eR⟩:=MdlAt.ex MM;have h1:∀ i,i<nk S.bs n->has S.bs (kid n i)=true:=λ i hi=>(W.cnt n i (by omega)).mpr hi;have h2:=W.no_kid n;generalize nk S.bs n=k at *;refine⟨_,(
(Zc (Zt (i:=2) Ze6.nd rfl (Or.inl rfl) (Z6 Zb))
 (Zc (Zd0 PassesOwn.never (YM (XM (ZP hr) (Zq Yn (Zq Yn (pv 1) Zl) (ZU XB rfl T.z_str boot_str (Za (Zq Z8 (Zx ZO rfl T.z_len boot_len (Za (pv 2) Zb)) Zd) Zb))) (Zn Zm (pv 0) Zd (λ _ _=>rfl))))
 (Zf (ZD (YJ plainAttrs_list PySem.F.slot_list_append PySem.F.type_list_append YA (pv 2) (Za (Zq Yn (Zq Yn (pv 1) Zl) (ZU XB rfl T.z_str boot_str (Za (Zq Z8 (Zx ZO rfl T.z_len boot_len (Za (pv 2) Zb)) Zd) Zb))) Zb)))))
 (Zf (Zk (pv 2)))))),?_⟩
  refine⟨zero_le _,λ l hl=>?_⟩;have nm:m≠l:=ZC M.tup hl;have n1:e1≠l:=ZC M.h1 hl;refine⟨λ mm σ H2=>∃ i,i<=k/\mm=k - i/\σ=[some (.ref m),some (.str n),some (.ref l)]/\H2=upd H l (.lst (YF n i)),⟨k,0,zero_le _,rfl,rfl,rfl⟩,?_⟩;rintro mm σ H2 ⟨i,hi,rfl,rfl,rfl⟩;have kl:(YF n i).length=i:=by unfold YF;rw[length_map,length_range]
  have c0:(0:Int)<=(((YF n i).length:Nat):Int)+1:=by omega
  have c1:(((YF n i).length:Nat):Int)+1<131:=by omega
  have tl:=ZfQ c0 c1;have l3:(n++(".":Str)).length=n.length+1:=by rw[ZnS];rfl
  have ke:n++(".":Str)++(toString ((((YF n i).length:Nat):Int)+1):Str)=kid n i:=by rw[kl];rfl
  have g:ZY (upd H l (.lst (YF n i))) e1 (.str (kid n i)) (Y2 (yrs S.bs) (Sum.inr (kid n i):Key)):=ZY.k (k:=Sum.inr (kid n i)) (by rw[Zh n1];exact M.h1);refine⟨_,rfl,n,_,rfl,rfl,ZB (by show n.length+1<=500;omega),_,rfl,_,_,rfl, .inl ⟨_,SqL.of Ze,rfl⟩,_,_,rfl,rfl,_,rfl,Jo c0 c1,_,_,rfl,rfl,ZB (by rw[l3];omega),?_⟩;rw[ke];refine⟨_,rfl,m,_,_,_,rfl,rfl,SqT.of (by rw[Zh nm];exact M.tup),rfl,e1,_,rfl,g,_,rfl,?_⟩;rw[Zy]
  by_cases ci:i<k
  . rw[h1 i ci];refine Yy ⟨λ σ H2=>σ=[some (.ref m),some (.str n),some (.ref l)]/\H2=upd H l (.lst (YF n (i+1))),λ σ' H' ⟨a1,a2⟩=>⟨k - (i+1),by omega,i+1,ci,rfl,a1,a2⟩,?_⟩;refine⟨_,rfl, .inl ⟨rfl,_,SqL.of Ze⟩,_,rfl,n,_,rfl,rfl,ZB (by show n.length+1<=500;omega),_,rfl,_,_,rfl, .inl ⟨_,SqL.of Ze,rfl⟩,_,_,rfl,rfl,_,rfl,Jo c0 c1,_,_,rfl,rfl,ZB (by rw[l3];omega),l,_,_,rfl,rfl,Ze,Zz (by rw[kl];omega),rfl,?_⟩;rw[ke,ZhX,ZhB]
  . have e:i=k:=by omega
    subst e;rw[h2];exact Z3 ⟨_,rfl,q l _ (Zi hl _) hl Ze⟩
theorem Zhg {f:Addr}{fd:FuncData}(F:Fun K "_law_living" "_law_living" ZaK f fd)(T:Txt K g mg)  : FnOk P w0 K mg base CX0 1 f fd ["_law_model_here"] (ZcF K g):=by
  refine F.ok Zhd (λ vs H Q E h=>?_) (λ cdv A outer s H vs Q E hr h=>?_)
  . obtain⟨m,S,R,rfl,_⟩:=h;rfl
  obtain⟨m,S,R,rfl,MM,hlen,q⟩:=h;obtain⟨c,d1,d2,d3,B,eR⟩:=MdlAt.ex MM;obtain⟨y,bs,ds,cs⟩:=S;simp only at B hlen q;refine⟨_,(
(Zf (Zk (ZkM (d:=d1) (kvs:=yrs bs) (Je (x:="_law_name") (cl:=[("_law_model_here",s.heap.objs.size+1)]) (caps:=[("_law_model_here",0)]) rfl (Zij (Zn Zm (pv 0) Zd (λ _ _=>rfl))) (λ _ _ _ _ _=>Yg (YM (Yt (ZP hr) (pv 0) (Zn (show IxR _ (Zex K) from Zm) (pv 1) Zd (λ _ _=>rfl))))) (λ _ _ _ _ _=>(pv 0)) rfl (by decide +kernel) rfl (by decide +kernel) rfl (λ _ _ h=>h) (Yr rfl) (λ p hp=>by rw[List.mem_singleton.mp hp];exact⟨rfl,rfl,by first|exact .inl rfl|exact .inr rfl⟩) (by decide +kernel)))))),?_⟩
  have hb:=B.tup;have nb1:m≠d1:=ZN hb B.h1 (λ z=>by cases z);have yl:(yrs bs).length=bs.length:=by unfold yrs;rw[length_map]
  refine⟨B.h1,_,rfl,m,_,_,_,rfl,rfl,SqT.of hb,rfl,d1,_,rfl,B.h1,λ o D hD=>⟨λ i k H2=>i<=bs.length/\k=bs.length - i/\H2=upd (upd H d1 (.frz o (.dK (yrs bs)))) D (.lst (((bs.take i).filter λ p => !has ds p.1).map λ p=>V.str p.1)),⟨bs.length,zero_le _,rfl,rfl⟩,?_⟩⟩;have n1:D≠d1:=λ e=>by rw[e,Ze]at hD;cases hD
  have hD0:H D=none:=by rw[Zh n1]at hD;exact hD
  have nb:m≠D:=ZC hb hD0;have n2:d2≠D:=ZC B.h2 hD0;rintro i k H2 ⟨hi,rfl,rfl⟩
  by_cases ci:i<bs.length
  . refine .inr ⟨⟨by rw[Zh (Ne.symm n1),Ze],by rw[yl];exact ci⟩,λ x H' ⟨e,kk,v,ek,ex⟩=>?_⟩;subst e;have ek':(yrs bs)[i]? = some ((Sum.inr (bs[i]).1:Key),V.int (bs[i]).2):=by unfold yrs;rw[getElem?_map,getElem?_eq_getElem ci];rfl
    rw[ek']at ek;cases ek;subst ex;have g:ZY (upd (upd H d1 (.frz o (.dK (yrs bs)))) D (.lst (((bs.take i).filter λ p => !has ds p.1).map λ p=>V.str p.1))) d2 (.str (bs[i]).1) (Y2 (yrs ds) (Sum.inr (bs[i]).1:Key)):=ZY.k (k:=Sum.inr (bs[i]).1) (by rw[Zh n2,Zh (Ne.symm B.n12)];exact B.h2);refine⟨_,rfl,_,rfl,m,_,_,_,rfl,rfl,SqT.of (by rw[Zh nb,Zh nb1];exact hb),rfl,d2,_,rfl,g,_,rfl,?_⟩;rw[Zy];have tk:bs.take (i+1)=bs.take i++[bs[i]]:=(Zel ci).symm;cases e:has ds (bs[i]).1 with
    |true=>
      refine Z3 ⟨bs.length - (i+1),by omega,ci,rfl,?_⟩;rw[tk,filter_append];simp[e]
    |false=>
      refine Yy ⟨_,rfl,_,bs.length - (i+1),Ze,Zz ?_,by omega,ci,rfl,?_⟩
      . rw[length_map];exact le_trans (length_filter_le _ _) (by rw[length_take];omega)
      . rw[ZhX,tk,filter_append,map_append];simp[e];rfl
  . have e:i=bs.length:=by omega
    subst e;refine .inl ⟨⟨by rw[Zh (Ne.symm n1),Ze],by rw[yl];exact le_refl _⟩,o,by rw[Zh (Ne.symm n1),Ze],?_⟩;rw[take_length];have eq:upd (upd (upd H d1 (.frz o (.dK (yrs bs)))) D (.lst ((bs.filter λ p => !has ds p.1).map λ p=>V.str p.1))) d1 (.dK (yrs bs))=upd H D (.lst ((bs.filter λ p => !has ds p.1).map λ p=>V.str p.1)):=by
      funext a
      by_cases ha:a=d1
      . rw[ha,Ze,Zh (Ne.symm n1),B.h1]
      . rw[Zh ha]
        by_cases hA:a=D
        . rw[hA,Ze,Ze]
        . rw[Zh hA,Zh ha,Zh hA]
    rw[eq];exact q D _ (Zi hD0 _) hD0 Ze
theorem Zju {f:Addr}{fd:FuncData}(F:Fun K "_law_play" "_law_play" Zc3 f fd)(T:Txt K g mg)(Qak:JK P w0 K g mg base):FnOk P w0 K mg base CX0 2 f fd ["_law_model_here","_law_deed"] (ZeU K g):=by
  refine F.ok XV (λ vs H Q E h=>?_) (λ cdv A outer s H vs Q E hr h=>?_)
  . obtain⟨m,S,R,p,d,far,k,rfl,_⟩:=h;rfl
  obtain⟨m,S,R,p,d,far,k,rfl,M,hp,O,hk98,hg,q⟩:=h;obtain⟨c,e1,e2,e3,B,eR⟩:=MdlAt.ex M;refine⟨_,(
(Zc (Zde (pv 0) (Zez rfl (Yp (ZM (i:=2) XV.nd rfl (Or.inl rfl)) (Yp (ZM (i:=3) XV.nd rfl (Or.inl rfl)) (Yp (ZM (i:=4) XV.nd rfl (Or.inl rfl)) (Yp (ZM (i:=5) XV.nd rfl (Or.inl rfl)) ZaM))))))
 (Zc (Zu (Zo Z1 (Zn Zm (pv 1) Zd (λ _ _=>rfl)) Zl (Zr _))
 (Zf (Zde (Zq Z8 (Zn ZG (pv 2) Zd (λ _ _=>rfl)) (Zn Zm (pv 1) Zd (λ _ _=>rfl))) (pg_sub (pv 2) Zd Zmi)))
 Zp)
 (Zc (Zu (Zo Z1 (Zn Zm (pv 1) Zd (λ _ _=>rfl)) Zl (Zr _))
 (Zf (XT (ZP hr) (pv 3) (Zn Zm (pv 1) Zd (λ _ _=>rfl)) (Zq Zai (Zn ZG (pv 2) Zd (λ _ _=>rfl)) (Zn Zm (pv 1) Zd (λ _ _=>rfl))) rfl))
 Zp)
 (Zc (Zu (Zo Z1 (Zn Zm (pv 1) Zd (λ _ _=>rfl)) Zl (Zr _))
 (Zf (XT (ZP hr) (pv 3) (Zq Yn (Zq Yn (Zn Zm (pv 1) Zd (λ _ _=>rfl)) Zl) (ZU XB rfl T.z_str boot_str (Za (Zq Z8 (Zx ZO rfl T.z_len boot_len (Za (Zs Qak (h_ hr) (Za (pv 0) (Za (Zn Zm (pv 1) Zd (λ _ _=>rfl)) Zb))) Zb)) Zd) Zb))) (Zn ZG (pv 2) Zd (λ _ _=>rfl)) rfl))
 Zp)
 (Zc (Zu (Zo Z1 (Zn Zm (pv 1) Zd (λ _ _=>rfl)) Zl (Zr _))
 (Zf (XT (ZP hr) (pv 4) (Zn Zm (pv 1) Zd (λ _ _=>rfl)) (Zn ZG (pv 2) Zd (λ _ _=>rfl)) rfl))
 Zp)
 (Zf (Zu (Zo Z1 (Zn Zm (pv 1) Zd (λ _ _=>rfl)) Zl (Zr _))
 (Zf (XT (ZP hr) (pv 5) (Zn Zm (pv 1) Zd (λ _ _=>rfl)) (Zn ZG (pv 2) Zd (λ _ _=>rfl)) rfl))
 Zp)))))))),?_⟩
  refine⟨_,rfl,m,_,rfl,SqT.of B.tup,rfl,_,_,rfl,_,_,rfl,_,_,rfl,_,_,rfl,rfl,?_⟩;cases d with
  |arrive ww aa=>
    refine⟨_,rfl,p,_,_,_,rfl,rfl,SqT.of hp,rfl,rfl,_,rfl,Yo (by decide +kernel) ?_⟩;refine⟨_,rfl,p,_,_,_,rfl,rfl,SqT.of hp,rfl,rfl,_,rfl,Zbc ?_⟩;refine⟨_,rfl,c,_,_,_,rfl,rfl,SqL.of B.clk,rfl,_,rfl,p,_,_,_,rfl,rfl,SqT.of hp,rfl,_,_,rfl,rfl,_,rfl,_,rfl,p,_,_,_,rfl,rfl,SqT.of hp,rfl,e1,_,rfl,Zej.k (k:=Sum.inr ww) B.h1 (Zz (by unfold yrs;rw[length_map];have:=O.lb;omega)),?_⟩;rw[Xu _ (Zcn hg.2.1),Zci];obtain⟨hp,hk,fin⟩:=B.put1 eR hp (bs':=S.bs++[(ww,S.y - aa)]);refine⟨_,rfl,p,_,_,_,rfl,rfl,SqT.of hp,rfl,rfl,_,rfl,Yo (by decide +kernel) ?_⟩;refine⟨_,rfl,p,_,_,_,rfl,rfl,SqT.of hp,rfl,rfl,_,rfl,Yo (by decide +kernel) ?_⟩;refine⟨_,rfl,p,_,_,_,rfl,rfl,SqT.of hp,rfl,rfl,_,rfl,Yo (by decide +kernel) ?_⟩;exact q _ hk fin
  |birth nn=>
    refine⟨_,rfl,p,_,_,_,rfl,rfl,SqT.of hp,rfl,rfl,_,rfl,Yo (by decide +kernel) ?_⟩;refine⟨_,rfl,p,_,_,_,rfl,rfl,SqT.of hp,rfl,rfl,_,rfl,Yo (by decide +kernel) ?_⟩;refine⟨_,rfl,p,_,_,_,rfl,rfl,SqT.of hp,rfl,rfl,_,rfl,Zbc ?_⟩;have hx:=Yx (O.wf.wrt nn hg.1);have hf:=O.wf.few nn;have hlb:=O.lb;refine⟨_,rfl,c,_,_,_,rfl,rfl,SqL.of B.clk,rfl,_,rfl,_,rfl,p,_,_,_,rfl,rfl,SqT.of hp,rfl,nn,_,rfl,rfl,ZB (by show nn.length+1<=500;omega),_,rfl,_,rfl,p,_,_,_,rfl,rfl,SqT.of hp,rfl,m,S,R,nn,rfl,M,O.wf,by omega,by omega,λ l H1 s1 hl1 hl2=>?_⟩;have B:=B.keep s1;have hp:=s1 _ _ hp;have M:=M.same s1;have kl:(YF nn (nk S.bs nn)).length=nk S.bs nn:=by unfold YF;rw[length_map,length_range]
    have c0:(0:Int)<=((nk S.bs nn:Nat):Int)+1:=by omega
    have c1:((nk S.bs nn:Nat):Int)+1<131:=by omega
    have tl:=ZfQ c0 c1;refine⟨_,_,rfl, .inl ⟨_,SqL.of hl2,rfl⟩,_,_,rfl,rfl,?_⟩;rw[kl];refine⟨_,rfl,Jo c0 c1,_,_,rfl,rfl,ZB (by rw[show(nn++(".":Str)).length=nn.length+1 from YO _ _];omega),e1,_,rfl,Zej.k (k:=Sum.inr (kid nn (nk S.bs nn))) B.h1 (Zz (by unfold yrs;rw[length_map];omega)),?_⟩;rw[Xu _ (Zcn (O.wf.no_kid nn)),Zci];obtain⟨hp,hk1,fin⟩:=B.put1 eR hp (bs':=S.bs++[(kid nn (nk S.bs nn),S.y)]);have hk:=s1.kp.wide (Y:=R) (λ _ h=>nomatch h) |>.tr hk1 (λ a ha => .inl ha);refine⟨_,rfl,p,_,_,_,rfl,rfl,SqT.of hp,rfl,rfl,_,rfl,Yo (by decide +kernel) ?_⟩;refine⟨_,rfl,p,_,_,_,rfl,rfl,SqT.of hp,rfl,rfl,_,rfl,Yo (by decide +kernel) ?_⟩;exact q _ hk fin
  |death nn=>
    refine⟨_,rfl,p,_,_,_,rfl,rfl,SqT.of hp,rfl,rfl,_,rfl,Yo (by decide +kernel) ?_⟩;refine⟨_,rfl,p,_,_,_,rfl,rfl,SqT.of hp,rfl,rfl,_,rfl,Yo (by decide +kernel) ?_⟩;refine⟨_,rfl,p,_,_,_,rfl,rfl,SqT.of hp,rfl,rfl,_,rfl,Yo (by decide +kernel) ?_⟩;refine⟨_,rfl,p,_,_,_,rfl,rfl,SqT.of hp,rfl,rfl,_,rfl,Zbc ?_⟩;refine⟨_,rfl,c,_,_,_,rfl,rfl,SqL.of B.clk,rfl,_,rfl,_,rfl,p,_,_,_,rfl,rfl,SqT.of hp,rfl,e2,_,rfl,Zej.k (k:=Sum.inr nn) B.h2 (Zz (by unfold yrs;rw[length_map];have:=O.ld;omega)),?_⟩;rw[Xu _ (Zcn hg.2),Zci];obtain⟨hp,hk,fin⟩:=B.put2 eR hp (ds':=S.ds++[(nn,S.y)]);refine⟨_,rfl,p,_,_,_,rfl,rfl,SqT.of hp,rfl,rfl,_,rfl,Yo (by decide +kernel) ?_⟩;exact q _ hk fin
  |comes ww=>
    refine⟨_,rfl,p,_,_,_,rfl,rfl,SqT.of hp,rfl,rfl,_,rfl,Yo (by decide +kernel) ?_⟩;refine⟨_,rfl,p,_,_,_,rfl,rfl,SqT.of hp,rfl,rfl,_,rfl,Yo (by decide +kernel) ?_⟩;refine⟨_,rfl,p,_,_,_,rfl,rfl,SqT.of hp,rfl,rfl,_,rfl,Yo (by decide +kernel) ?_⟩;refine⟨_,rfl,p,_,_,_,rfl,rfl,SqT.of hp,rfl,rfl,_,rfl,Yo (by decide +kernel) ?_⟩;refine⟨_,rfl,p,_,_,_,rfl,rfl,SqT.of hp,rfl,rfl,_,rfl,Zbc ?_⟩;refine⟨_,rfl,c,_,_,_,rfl,rfl,SqL.of B.clk,rfl,_,rfl,_,rfl,p,_,_,_,rfl,rfl,SqT.of hp,rfl,e3,_,rfl,Zej.k (k:=Sum.inr ww) B.h3 (Zz (by unfold yrs;rw[length_map];have:=O.lc;omega)),?_⟩;rw[Xu _ (Zcn hg.2),Zci];obtain⟨hp,hk,fin⟩:=B.put3 eR hp (cs':=S.cs++[(ww,S.y)]);exact q _ hk fin
  |years kk=>
    refine⟨_,rfl,p,_,_,_,rfl,rfl,SqT.of hp,rfl,rfl,_,rfl,Zbc ?_⟩;refine⟨_,rfl,c,_,_,_,rfl,rfl,SqL.of B.clk,rfl,_,rfl,p,_,_,_,rfl,rfl,SqT.of hp,rfl,_,_,rfl,rfl,_,rfl,c,_,0,0,rfl,rfl,B.clk,rfl,?_⟩;have ky:=Xd (H:=H) (a:=c) (o:=.lst [V.int (S.y+kk)]);have hp:upd H c (.lst [V.int (S.y+kk)]) p=some (.tup (Deed.years kk).vals):=by rw[Zh (ZN hp B.clk (λ z=>by cases z))];exact hp
    have fin:Ys (upd H c (.lst [V.int (S.y+kk)])) m (S.step (.years kk)) R:=⟨c,e1,e2,e3,⟨by rw[Zh (ZN B.tup B.clk (λ z=>by cases z))];exact B.tup,Ze,by rw[Zh (ZN B.h1 B.clk (λ z=>by cases z))];exact B.h1,by rw[Zh (ZN B.h2 B.clk (λ z=>by cases z))];exact B.h2,by rw[Zh (ZN B.h3 B.clk (λ z=>by cases z))];exact B.h3,B.n12,B.n13,B.n23⟩,eR⟩;have hk:Yz R H (upd H c (.lst [V.int (S.y+kk)])):=ky.wide (λ a ha=>by rw[List.mem_singleton.mp ha,eR];simp[Jf]);refine⟨_,rfl,p,_,_,_,rfl,rfl,SqT.of hp,rfl,rfl,_,rfl,Yo (by decide +kernel) ?_⟩;refine⟨_,rfl,p,_,_,_,rfl,rfl,SqT.of hp,rfl,rfl,_,rfl,Yo (by decide +kernel) ?_⟩;refine⟨_,rfl,p,_,_,_,rfl,rfl,SqT.of hp,rfl,rfl,_,rfl,Yo (by decide +kernel) ?_⟩;refine⟨_,rfl,p,_,_,_,rfl,rfl,SqT.of hp,rfl,rfl,_,rfl,Yo (by decide +kernel) ?_⟩;exact q _ hk fin
theorem ZeB {f:Addr}{fd:FuncData}(F:Fun K "_law_next_deed" "_law_next_deed" ZK f fd)(T:Txt K g mg)(Qao:Jk P w0 K g mg base)(Qap:ZaS P w0 K g mg base):FnOk P w0 K mg base CX0 2 f fd ["_law_model_here","_law_n","_law_far"] (Zap K g):=by
  refine F.ok Ya (λ vs H Q E h=>?_) (λ cdv A outer s H vs Q E hr h=>?_)
  . obtain⟨m,S,R,n,far,rfl,_⟩:=h;rfl
  obtain⟨m,S,R,n,far,rfl,M,hlen,hfar,q⟩:=h;have rest6:PSs (Xo CX0 P w0 K mg base ["_law_model_here","_law_n","_law_far","_law_some","_law_kind","_law_word_here","_law_name"] "_law_next_deed" (Zg ZK) f cdv A outer s H E).nox ((Yf ZK).drop 6) (λ D σ H1=>∃(n' kd:Int)(l:Addr)(v5 v6:Option V),σ=[some (.ref m),some (.int n'),some (.int far),some (.ref l),some (.int kd),v5,v6]/\Zj H H1/\H1 l=some (.lst (Zb2 S.bs S.ds))/\(∀ d p H',S.good far d->Zj H H'->H p=none->H' p=some (.tup d.vals)->D.rt (.ref p) H')):=by
    refine @XC _ _ _ _ ((Zf (Zk (Yc (Za Zl (Za (Zq Z8 Zd (Zq ZL (pv 1) (pv 2))) Zb)))))) ?_;rintro D σ H1 ⟨n',kd,l,v5,v6,rfl,s1,hl,q⟩;have z0:=emod_nonneg n' (show far≠0 by omega);have z1:=emod_lt_of_pos n' hfar;refine⟨_,rfl,_,rfl,_,_,rfl,rfl,hfar,_,_,rfl,rfl,(by show 2<=sizeLine;decide),λ p hp=>?_⟩;exact q (.years (1+n' % far)) p _ ⟨by omega,by omega⟩ (s1.trans (Zi hp _)) (s1.free hp) Ze
  have rest5:PSs (Xo CX0 P w0 K mg base ["_law_model_here","_law_n","_law_far","_law_some","_law_kind","_law_word_here","_law_name"] "_law_next_deed" (Zg ZK) f cdv A outer s H E).nox ((Yf ZK).drop 5) (λ D σ H1=>∃(n' kd:Int)(l:Addr)(v5 v6:Option V),σ=[some (.ref m),some (.int n'),some (.int far),some (.ref l),some (.int kd),v5,v6]/\Zj H H1/\H1 l=some (.lst (Zb2 S.bs S.ds))/\(∀ d p H',S.good far d->Zj H H'->H p=none->H' p=some (.tup d.vals)->D.rt (.ref p) H')):=by
    refine @XC _ _ _ _ ((Zc (Zu (Zo Z1 (pv 4) Zd (Zr _))
 (Zc (Zt (i:=5) Ya.nd rfl (Or.inl rfl) (Zn ZG (Z6 (Za Zl (Za Zl (Za Zl (Za (Zs Qap (h_ hr) (Za (Zq ZZ (pv 1) Zd) Zb)) Zb))))) (Zq ZL (pv 1) Zd) (λ _ _=>rfl)))
 (Zf (Zu (YM (Yt (ZP hr) (pv 5) (Zn Zm (pv 0) Zd (λ _ _=>rfl))))
 (Zf (Zk (Yc (Za Zl (Za (pv 5) Zb)))))
 Zp)))
 Zp)
 @rest6)) ?_
    rintro D σ H1 ⟨n',kd,l,v5,v6,rfl,s1,hl,q⟩;obtain⟨c,e1,e2,e3,B⟩:=(M.same s1).tup_of;refine⟨_,rfl,rfl,_,rfl,Yj (λ _=>?_) (λ _=>⟨n',kd,l,v5,v6,rfl,s1,hl,q⟩)⟩;refine⟨_,rfl,_,_,rfl,rfl,⟨by decide,by decide⟩,_,rfl,λ z hz=>⟨(by show 4<=sizeLine;decide),λ pl hpl=>?_⟩⟩;have z0:=emod_nonneg n' (show(4:Int)≠0 by omega);have z1:=emod_lt_of_pos n' (show(0:Int)<4 by omega);obtain⟨y,hy,gy⟩:=pick4 hz z0 z1;have s2:=Zi hpl (.lst [V.str "war",V.str "flood",V.str "a",V.str z]);refine⟨_,rfl,_,_,rfl,rfl,(by show(0:Int)<4;decide),pl,_,_,_,rfl,rfl,SqL.of Ze,hy,?_⟩;refine⟨_,rfl,_,rfl,m,_,_,_,rfl,rfl,SqT.of (s2 _ _ B.tup),rfl,e3,_,rfl,ZY.k (k:=Sum.inr y) (s2 _ _ B.h3),_,rfl,?_⟩;rw[Zy];cases e:has S.cs y with
    |true=>exact Z3 ⟨n',kd,l,_,v6,rfl,s1.trans s2,s2 _ _ hl,q⟩
    |false=>
      refine Yy ⟨_,rfl,(by show 2<=sizeLine;decide),λ p hp=>?_⟩;exact q (.comes y) p _ ⟨gy,e⟩ ((s1.trans s2).trans (Zi hp _)) ((s1.trans s2).free hp) Ze
  have rest4:PSs (Xo CX0 P w0 K mg base ["_law_model_here","_law_n","_law_far","_law_some","_law_kind","_law_word_here","_law_name"] "_law_next_deed" (Zg ZK) f cdv A outer s H E).nox ((Yf ZK).drop 4) (λ D σ H1=>∃(n' kd:Int)(l:Addr)(v5 v6:Option V),σ=[some (.ref m),some (.int n'),some (.int far),some (.ref l),some (.int kd),v5,v6]/\Zj H H1/\H1 l=some (.lst (Zb2 S.bs S.ds))/\(∀ d p H',S.good far d->Zj H H'->H p=none->H' p=some (.tup d.vals)->D.rt (.ref p) H')):=by
    refine @XC _ _ _ _ ((Zc (Zu (PW.pt (XL (Zo Zay (pv 4) Zd (Zr _)) (XL (Zo Zax (pv 4) Zd (Zr _)) (Xh (Zo Zay (Zx ZO rfl T.z_len boot_len (Za (pv 3) Zb)) Zd (Zr _))))))
 (Zc (Zt (i:=6) Ya.nd rfl (Or.inl rfl) (Zn ZG (pv 3) (Zq ZL (pv 1) (Zx ZO rfl T.z_len boot_len (Za (pv 3) Zb))) (λ _ _=>rfl)))
 (Zc (Zu (Zo Zay (pv 4) Zd (Zr _))
 (Zf (Zk (Yc (Za Zl (Za (pv 6) Zb)))))
 Zp)
 (Zf (Zu (Zo Zax (YJ plainAttrs_str slot_str_count type_str_count XX (pv 6) (Za Zl Zb)) Zd (Zr _))
 (Zf (Zk (Yc (Za Zl (Za (pv 6) Zb)))))
 Zp))))
 Zp)
 @rest5)) ?_
    rintro D σ H1 ⟨n',kd,l,v5,v6,rfl,s1,hl,q⟩;refine⟨_,rfl,_,_,rfl,rfl,_,rfl,Yj (λ c1=>?_) (λ _=>Z3 ⟨n',kd,l,v5,v6,rfl,s1,hl,q⟩)⟩;refine⟨_,rfl,_,_,rfl,rfl,_,rfl,Yj (λ c2=>?_) (λ _=>Z3 ⟨n',kd,l,v5,v6,rfl,s1,hl,q⟩)⟩;refine⟨_,rfl,_,_,rfl, .inl ⟨_,SqL.of hl,rfl⟩,_,_,rfl,rfl,_,rfl,Yj (λ c3=>?_) (λ _=>⟨n',kd,l,v5,v6,rfl,s1,hl,q⟩)⟩;have hpos:(0:Int)<((Zb2 S.bs S.ds).length:Nat):=of_decide_eq_true c3;obtain⟨v,hv⟩:=Zky (xs:=Zb2 S.bs S.ds) (emod_nonneg n' (show((Zb2 S.bs S.ds).length:Int)≠0 by omega)) (emod_lt_of_pos n' hpos);obtain⟨nm,rfl,hb,hd⟩:=ZkR hv;refine⟨_,rfl,_,rfl,_,rfl,_,_,rfl, .inl ⟨_,SqL.of hl,rfl⟩,_,_,rfl,rfl,hpos,l,_,_,_,rfl,rfl,SqL.of hl,hv,?_⟩;refine⟨_,rfl,_,_,rfl,rfl,_,rfl,Yj (λ c4=>?_) (λ _=>?_)⟩
    . refine⟨_,rfl,(by show 2<=sizeLine;decide),λ p hp=>?_⟩;exact q (.death nm) p _ ⟨hb,hd⟩ (s1.trans (Zi hp _)) (s1.free hp) Ze
    . refine⟨_,rfl,rfl,nm,dot,rfl,rfl,_,_,rfl,rfl,_,rfl,Yj (λ c5=>?_) (λ _=>⟨n',kd,l,v5,_,rfl,s1,hl,q⟩)⟩;refine⟨_,rfl,(by show 2<=sizeLine;decide),λ p hp=>?_⟩;exact q (.birth nm) p _ ⟨hb,hd,by have z:=of_decide_eq_true c5;unfold Yl;omega⟩ (s1.trans (Zi hp _)) (s1.free hp) Ze
  have rest3:PSs (Xo CX0 P w0 K mg base ["_law_model_here","_law_n","_law_far","_law_some","_law_kind","_law_word_here","_law_name"] "_law_next_deed" (Zg ZK) f cdv A outer s H E).nox ((Yf ZK).drop 3) (λ D σ H1=>∃(n' kd:Int)(l:Addr)(v5 v6:Option V),σ=[some (.ref m),some (.int n'),some (.int far),some (.ref l),some (.int kd),v5,v6]/\Zj H H1/\H1 l=some (.lst (Zb2 S.bs S.ds))/\(∀ d p H',S.good far d->Zj H H'->H p=none->H' p=some (.tup d.vals)->D.rt (.ref p) H')):=by
    refine @XC _ _ _ _ ((Zc (Zu (PW.pt (Jd (Zo Z1 (pv 4) Zd (Zr _)) (Xm (PW.pt (XL (Zo Zax (pv 4) Zd (Zr _)) (Xh (Zo Z1 (Zx ZO rfl T.z_len boot_len (Za (pv 3) Zb)) Zd (Zr _))))))))
 (Zc (Zt (i:=5) Ya.nd rfl (Or.inl rfl) (Zs Qap (h_ hr) (Za (Zq ZZ (pv 1) Zd) Zb)))
 (Zf (Zu (YM (Yt (ZP hr) (pv 5) (Zn Zm (pv 0) Zd (λ _ _=>rfl))))
 (Zf (Zk (Yc (Za Zl (Za (pv 5) (Za (Zq ZL (pv 1) Zd) Zb))))))
 Zp)))
 Zp)
 @rest4)) ?_
    rintro D σ H1 ⟨n',kd,l,v5,v6,rfl,s1,hl,q⟩;obtain⟨c,e1,e2,e3,B⟩:=(M.same s1).tup_of;refine⟨_,rfl,rfl,_,rfl,Yj (λ _=>Yy ?_) (λ _=>⟨_,rfl,_,_,rfl,rfl,_,rfl,Yj (λ _=>⟨_,rfl,_,_,rfl, .inl ⟨_,SqL.of hl,rfl⟩,rfl,_,rfl,Yj (λ _=>?_) (λ _=>?_)⟩) (λ _=>Z3 ?_)⟩)⟩
    all_goals try exact⟨n',kd,l,v5,v6,rfl,s1,hl,q⟩
    all_goals
      refine⟨_,rfl,_,_,rfl,rfl,⟨by decide,by decide⟩,_,rfl,λ z hz=>?_⟩;refine⟨_,rfl,_,rfl,m,_,_,_,rfl,rfl,SqT.of B.tup,rfl,e1,_,rfl,ZY.k (k:=Sum.inr z) B.h1,_,rfl,?_⟩;rw[Zy];cases e:has S.bs z with
      |true=>exact Z3 ⟨n',kd,l,_,v6,rfl,s1,hl,q⟩
      |false=>
        refine Yy ⟨_,rfl,_,rfl,_,_,rfl,rfl,(by show(0:Int)<121;decide),(by show 3<=sizeLine;decide),λ p hp=>?_⟩;have z0:=emod_nonneg n' (show(121:Int)≠0 by omega);have z1:=emod_lt_of_pos n' (show(0:Int)<121 by omega);exact q (.arrive z (n' % 121)) p _ ⟨hz,e,z0,by omega⟩ (s1.trans (Zi hp _)) (s1.free hp) Ze
  refine⟨_,(Zc (Zt (i:=3) Ya.nd rfl (Or.inl rfl) (Zs Qao (h_ hr) (Za (pv 0) Zb)))
 (Zc (Zt (i:=4) Ya.nd rfl (Or.inl rfl) (Zq ZL (pv 1) Zd))
 (Zc (Zt (i:=1) Ya.nd rfl (Or.inl rfl) (Zq ZZ (pv 1) Zd))
 @rest3))),?_⟩
  refine⟨_,rfl,m,S,R,rfl,M,hlen,λ l H1 s1 _ hl=>?_⟩;exact⟨_,rfl,_,_,rfl,rfl,(by show(0:Int)<9;decide),_,rfl,_,_,rfl,rfl,⟨by decide,by decide⟩,_,_,l,_,_,rfl,s1,hl,q⟩
theorem Zip {f:Addr}{fd:FuncData}(F:Fun K "_law_start" "_law_start" ZbM f fd)(T:Txt K g mg)(Qap:ZaS P w0 K g mg base):FnOk P w0 K mg base CX0 2 f fd ["_law_n"] (ZdF K g):=by
  refine F.ok Y4 (λ vs H Q E h=>?_) (λ cdv A outer s H vs Q E hr h=>?_)
  . obtain⟨n,rfl,_⟩:=h;rfl
  obtain⟨n,rfl,q⟩:=h;refine⟨_,(
(Zc (Zt (i:=1) Y4.nd rfl (Or.inl rfl) (Z6 Zb))
 (Zc (Zt (i:=2) Y4.nd rfl (Or.inl rfl) Xw)
 (Zc (Xv PassesOwn.never rfl (Jn rfl T.z_range (Za (Zq Z8 Zd (Zq ZL (pv 0) Zd)) Zb)) (ZM (i:=3) Y4.nd rfl (Or.inl rfl))
 (Zc (Zt (i:=0) Y4.nd rfl (Or.inl rfl) (Zq Z8 (Zq ZZ (pv 0) Zd) (Zq ZbZ (pv 3) Zd)))
 (Zc (Zt (i:=4) Y4.nd rfl (Or.inl rfl) (Zs Qap (h_ hr) (Za (Zq ZZ (pv 0) Zd) Zb)))
 (Zf (Zu (YM (Yt (ZP hr) (pv 4) (pv 2)))
 (Zc (XT (ZP hr) (pv 2) (pv 4) Xx rfl)
 (Zf (ZD (YJ plainAttrs_list PySem.F.slot_list_append PySem.F.type_list_append YA (pv 1) (Za (Yc (Za Zl (Za (pv 4) (Za (Zq ZL (pv 0) Zd) Zb)))) Zb)))))
 Zp)))))
 (Zf (Zk (pv 1))))))),?_⟩
  refine⟨zero_le _,λ l hl=>?_⟩;intro dw hdw;have b1:=emod_lt_of_pos n (show(0:Int)<3 by decide);have b0:=emod_nonneg n (show(3:Int)≠0 by decide);have ndl:l≠dw:=λ e=>by rw[e,Ze]at hdw;cases hdw
  have hdw0:H dw=none:=by rw[Zh (Ne.symm ndl)]at hdw;exact hdw
  refine⟨_,rfl,_,_,rfl,rfl,(by show(0:Int)<3;decide),_,_,rfl,rfl,1+n % 3,rfl,by omega,by omega,ZaC (n:=(1+n % 3).toNat) (λ i σ H2=>∃(n':Int)(v3 v4:Option V)(was:List (Str×Int))(ps:List Addr),σ=[some (.int n'),some (.ref l),some (.ref dw),v3,v4]/\Zj H H2/\(∀ a∈ps,H a=none)/\DeedsAt H2 l (was.map arr) ps/\H2 dw=some (.dK (Zi2 was))/\was.length<=i/\First was/\(0<i->was≠[])) ?_ ?_ ?_⟩
  . refine⟨n,none,none,[],[],rfl,(Zi hl _).trans (Zi hdw _),(λ _ h=>nomatch h),⟨?_,rfl,(λ i p d h=>by simp at h)⟩,Ze,le_refl _,⟨.nil,zero_le _,(λ _ h=>nomatch h)⟩,λ h=>absurd h (lt_irrefl 0)⟩;rw[Zh ndl,Ze];rfl
  . rintro i σ H2 hi ⟨n',v3,v4,was,ps,rfl,s2,hps,DD,hw,hlw,FF,hne⟩;have i3:i<3:=by omega
    refine⟨_,rfl,_,_,rfl,rfl,⟨by decide,by decide⟩,_,rfl,_,_,rfl,rfl, .inr ⟨by decide,by decide⟩,_,_,rfl,rfl,?_⟩;refine⟨_,rfl,_,_,rfl,rfl,⟨by decide,by decide⟩,_,rfl,λ z hz=>?_⟩;refine⟨_,rfl,_,rfl,dw,_,rfl,ZY.k (k:=Sum.inr z) hw,_,rfl,?_⟩;rw[Zi1]
    by_cases hin:z∈was.map (·.1)
    . rw[decide_eq_true hin];exact Z3 ⟨_,_,_,was,ps,rfl,s2,hps,DD,hw,by omega,FF,λ _ e=>by rw[e]at hin;cases hin⟩
    . rw[decide_eq_false hin];have vn:Y2 (Zi2 was) (Sum.inr z:Key)=none:=by
        have t:=Zi1 was z;rw[decide_eq_false hin]at t;cases e:Y2 (Zi2 was) (Sum.inr z:Key) with
        |none=>rfl
        |some v=>rw[e]at t;cases t
      refine Yy ⟨_,rfl,_,rfl,dw,_,rfl,Zej.k (k:=Sum.inr z) hw (Zz (by unfold Zi2;rw[length_map];omega)),?_⟩;rw[Xu _ vn];have nld:l≠dw:=ndl;refine⟨_,rfl, .inl ⟨rfl,_,SqL.of (by rw[Zh nld];exact DD.lst)⟩,_,rfl,_,rfl,_,_,rfl,rfl,(by show(0:Int)<67;decide),(by show 3<=sizeLine;decide),λ p hp=>?_⟩;have z0:=emod_nonneg (n' / 3+(0+(i:Int)) * 104729) (show(67:Int)≠0 by omega);have z1:=emod_lt_of_pos (n' / 3+(0+(i:Int)) * 104729) (show(0:Int)<67 by omega);have npd:p≠dw:=λ e=>by rw[e,Ze]at hp;cases hp
      have hp2:H2 p=none:=by rw[Zh npd]at hp;exact hp
      have npl:p≠l:=λ e=>by rw[e,DD.lst]at hp2;cases hp2
      have lw:=DD.lst;have pl:ps.length<=3:=by rw[DD.len,length_map];exact FF.len
      refine⟨l,_,_,rfl,rfl,(by rw[Zh (Ne.symm npl),Zh nld];exact lw),Zz (by rw[length_map];omega),?_⟩;have tp:∀ q∈ps,q≠dw:=λ q hq e=>by
        obtain⟨o,ho⟩:=DD.live q (mem_cons_of_mem _ hq);obtain⟨j,hj⟩:=List.mem_iff_getElem?.mp hq;have hj2:j<(was.map arr).length:=by rw[<- DD.len];exact(List.getElem?_eq_some_iff.mp hj).1
        have t:=DD.at_ j q _ hj (getElem?_eq_getElem hj2);rw[e,hw]at t;cases t
      have D1:DeedsAt (upd H2 dw (.dK (Zi2 was++[((Sum.inr z:Key),V.bl true)]))) l (was.map arr) ps:=DD.mv λ a ha o e=>by
        rw[Zh]
        . exact e
        . rcases List.mem_cons.mp ha with rfl|ha
          . exact nld
          . exact tp a ha
      have D2:=D1.push (d:=arr (z,(n' / 3+(0+(i:Int)) * 104729) % 67)) (p:=p) (Zi hp (.tup (arr (z,(n' / 3+(0+(i:Int)) * 104729) % 67)).vals)) Ze;refine⟨_,_,_,was++[(z,(n' / 3+(0+(i:Int)) * 104729) % 67)],ps++[p],rfl,?_,?_,?_,?_,?_,?_,λ _=>by simp⟩
      . exact Z0 ((Z0 s2 hdw0).trans (Zi hp _)) hl
      . intro a ha;rcases List.mem_append.mp ha with ha|ha
        . exact hps a ha
        . rw[List.mem_singleton.mp ha];exact s2.free hp2
      . rw[map_append];exact D2
      . rw[Zh (Ne.symm nld),Zh (Ne.symm npd),Ze];unfold Zi2;rw[map_append];rfl
      . rw[length_append,length_singleton];omega
      . refine⟨ZiA FF.nod ((ZiK was z).mpr hin),by rw[length_append,length_singleton];omega,λ x hx=>?_⟩;rcases List.mem_append.mp hx with hx|hx
        . exact FF.ok x hx
        . rw[List.mem_singleton.mp hx];exact⟨hz,z0,by show _ % 67<=120;omega⟩
  . rintro σ H2 ⟨n',v3,v4,was,ps,rfl,s2,hps,DD,hw,hlw,FF,hne⟩;refine⟨_,rfl,q l was ps H2 s2 (λ a ha=>?_) FF (hne (by omega)) DD⟩;rcases List.mem_cons.mp ha with rfl|ha
    . exact hl
    . exact hps a ha
theorem ZlA {f:Addr}{fd:FuncData}(F:Fun K "_law_do" "_law_do" Zgi f fd)(T:Txt K g mg)(QbP:ZcS P w0 K g mg base)(QbQ:JL P w0 K g mg base)(QbR:Zcc P w0 K g mg base)(QbS:ZcT P w0 K g mg base)(QbT:ZcR P w0 K g mg base):FnOk P w0 K mg base CX0 6 f fd ["_law_world","_law_deed"] (Zhv K g):=by
  refine F.ok Zlo (λ vs H Q E h=>?_) (λ cdv A outer s H vs Q E hr h=>?_)
  . obtain⟨w,S,R,p,d,far,k,rfl,_⟩:=h;rfl
  obtain⟨w,S,R,p,d,far,k,rfl,W,hp,O,hk,hg,hfar,q⟩:=h;refine⟨_,(
(Zc (Zu (Zo Z1 (Zn Zm (pv 1) Zd (λ _ _=>rfl)) Zl (Zr _))
 (Zf (Zk (ZT Xa QbQ (h_ hr) (pv 0) (Za (Zn Zm (pv 1) Zd (λ _ _=>rfl)) Zb))))
 Zp)
 (Zc (Zu (Zo Z1 (Zn Zm (pv 1) Zd (λ _ _=>rfl)) Zl (Zr _))
 (Zf (Zk (ZT Xa QbR (h_ hr) (pv 0) (Za (Zn Zm (pv 1) Zd (λ _ _=>rfl)) (Za (Zn Zm (pv 1) Zd (λ _ _=>rfl)) Zb)))))
 Zp)
 (Zc (Zu (Zo Z1 (Zn Zm (pv 1) Zd (λ _ _=>rfl)) Zl (Zr _))
 (Zf (Zk (ZT Xa QbS (h_ hr) (pv 0) (Za (Zn Zm (pv 1) Zd (λ _ _=>rfl)) Zb))))
 Zp)
 (Zc (Zu (Zo Z1 (Zn Zm (pv 1) Zd (λ _ _=>rfl)) Zl (Zr _))
 (Zf (Zk (ZT Xa QbT (h_ hr) (pv 0) (Za (Zn Zm (pv 1) Zd (λ _ _=>rfl)) Zb))))
 Zp)
 (Zf (Zk (ZT Xa QbP (h_ hr) (pv 0) (Za (Zn Zm (pv 1) Zd (λ _ _=>rfl)) Zb))))))))),?_⟩
  have lb:=O.lb;have ld:=O.ld;have lc:=O.lc;obtain⟨dx,b,hd,RL,hw,L,hh,eR,n1,n2⟩:=W.ex;cases d with
  |arrive ww aa=>
    refine⟨_,rfl,p,_,_,_,rfl,rfl,SqT.of hp,rfl,rfl,_,rfl,Yo (by decide +kernel) ?_⟩;refine⟨_,rfl,p,_,_,_,rfl,rfl,SqT.of hp,rfl,rfl,_,rfl,Zbc ?_⟩;refine⟨_,rfl,w,dx,_,rfl,hw,rfl,_,rfl,p,_,_,_,rfl,rfl,SqT.of hp,rfl,_,rfl,p,_,_,_,rfl,rfl,SqT.of hp,rfl,w,S,R,ww,aa,rfl,W,by have:=(ZiL hg.1).2;omega,by omega,(λ e=>absurd hg.2.2 e),(λ _ e=>by rw[hg.1]at e;cases e),(λ _ _ e=>by rw[hg.2.1]at e;cases e),λ _ _ _ R' H' kp gr W'=>?_⟩;exact q _ R' H' kp gr W'
  |birth nn=>
    refine⟨_,rfl,p,_,_,_,rfl,rfl,SqT.of hp,rfl,rfl,_,rfl,Yo (by decide +kernel) ?_⟩;refine⟨_,rfl,p,_,_,_,rfl,rfl,SqT.of hp,rfl,rfl,_,rfl,Yo (by decide +kernel) ?_⟩;refine⟨_,rfl,p,_,_,_,rfl,rfl,SqT.of hp,rfl,rfl,_,rfl,Zbc ?_⟩;refine⟨_,rfl,w,dx,_,rfl,hw,rfl,_,rfl,p,_,_,_,rfl,rfl,SqT.of hp,rfl,w,S,R,nn,rfl,W,by omega,by have:=O.few nn;omega,(λ e=>by rw[hg.1]at e;cases e),(λ _ e=>by rw[hg.2.1]at e;cases e),(λ _ _ e=>by have:=hg.2.2;omega),λ _ _ _ R' H' kp gr W'=>?_⟩;exact q _ R' H' kp gr W'
  |death nn=>
    refine⟨_,rfl,p,_,_,_,rfl,rfl,SqT.of hp,rfl,rfl,_,rfl,Yo (by decide +kernel) ?_⟩;refine⟨_,rfl,p,_,_,_,rfl,rfl,SqT.of hp,rfl,rfl,_,rfl,Yo (by decide +kernel) ?_⟩;refine⟨_,rfl,p,_,_,_,rfl,rfl,SqT.of hp,rfl,rfl,_,rfl,Yo (by decide +kernel) ?_⟩;refine⟨_,rfl,p,_,_,_,rfl,rfl,SqT.of hp,rfl,rfl,_,rfl,Zbc ?_⟩;refine⟨_,rfl,w,dx,_,rfl,hw,rfl,_,rfl,p,_,_,_,rfl,rfl,SqT.of hp,rfl,w,S,R,nn,rfl,W,by omega,(λ e=>by rw[hg.1]at e;cases e),(λ _ e=>by rw[hg.2]at e;cases e),λ _ _ H' kp W'=>?_⟩;exact q _ R H' kp (Zdv.refl _ _) W'
  |comes ww=>
    refine⟨_,rfl,p,_,_,_,rfl,rfl,SqT.of hp,rfl,rfl,_,rfl,Yo (by decide +kernel) ?_⟩;refine⟨_,rfl,p,_,_,_,rfl,rfl,SqT.of hp,rfl,rfl,_,rfl,Yo (by decide +kernel) ?_⟩;refine⟨_,rfl,p,_,_,_,rfl,rfl,SqT.of hp,rfl,rfl,_,rfl,Yo (by decide +kernel) ?_⟩;refine⟨_,rfl,p,_,_,_,rfl,rfl,SqT.of hp,rfl,rfl,_,rfl,Yo (by decide +kernel) ?_⟩;refine⟨_,rfl,w,dx,_,rfl,hw,rfl,_,rfl,p,_,_,_,rfl,rfl,SqT.of hp,rfl,w,S,R,ww,rfl,W,by have:=(ZiL hg.1).2;omega,by omega,(λ e=>by rw[hg.1]at e;cases e),(λ _ e=>by rw[hg.2]at e;cases e),λ _ _ H' kp W'=>?_⟩;exact q _ R H' kp (Zdv.refl _ _) W'
  |years kk=>
    refine⟨_,rfl,p,_,_,_,rfl,rfl,SqT.of hp,rfl,rfl,_,rfl,Zbc ?_⟩;refine⟨_,rfl,w,dx,_,rfl,hw,rfl,_,rfl,p,_,_,_,rfl,rfl,SqT.of hp,rfl,w,S,R,kk,rfl,W,(λ e=>absurd ⟨hg.1,by have:=hg.2;omega⟩ e),λ _ H' kp W'=>?_⟩;exact q _ R H' kp (Zdv.refl _ _) W'
theorem Zjv {f:Addr}{fd:FuncData}(F:Fun K "_law_path" "_law_path" Zc4 f fd)(T:Txt K g mg)  : FnOk P w0 K mg base CX0 1 f fd ["_law_model_here","_law_n"] (ZeV K g):=by
  refine F.ok YW (λ vs H Q E h=>?_) (λ cdv A outer s H vs Q E hr h=>?_)
  . obtain⟨m,S,R,n,rfl,_⟩:=h;rfl
  obtain⟨m,S,R,n,rfl,M,W,hlen,⟨w0,hw0,_⟩,q⟩:=h;refine⟨_,(
(Zc (Zt (i:=2) YW.nd rfl (Or.inl rfl) (ZU (Zg5 rfl) rfl T.z_list boot_list (Za (Zn Zm (pv 0) Zd (λ _ _=>rfl)) Zb)))
 (Zc (Zt (i:=3) YW.nd rfl (Or.inl rfl) (Zn ZG (pv 2) (Zq ZL (pv 1) (Zx ZO rfl T.z_len boot_len (Za (pv 2) Zb))) (λ _ _=>rfl)))
 (Zc (Zt (i:=1) YW.nd rfl (Or.inl rfl) (Zq ZZ (pv 1) (Zx ZO rfl T.z_len boot_len (Za (pv 2) Zb))))
 (Zc (Xv PassesOwn.never rfl (Jn rfl T.z_range (Za (Zn ZG (Z6 (Za Zd (Za Zd (Za Zd (Za Zd (Za Zd Zb)))))) (Zq ZL (pv 1) Zd) (λ _ _=>rfl)) Zb)) (ZM (i:=4) YW.nd rfl (Or.inl rfl))
 (Zc (Zt (i:=1) YW.nd rfl (Or.inl rfl) (Zq ZZ (pv 1) Zd))
 (Zf (Zu (Zo Zax (YJ plainAttrs_str slot_str_count type_str_count XX (pv 3) (Za Zl Zb)) Zd (Zr _))
 (Zf (Zt (i:=3) YW.nd rfl (Or.inl rfl) (Zq Yn (Zq Yn (pv 3) Zl) (ZU XB rfl T.z_str boot_str (Za (Zq Z8 Zd (Zq ZL (pv 1) Zd)) Zb)))))
 Zp))))
 (Zf (Zk (pv 3)))))))),?_⟩
  obtain⟨c,e1,e2,e3,B⟩:=M.tup_of;refine⟨_,rfl,m,_,_,_,rfl,rfl,SqT.of B.tup,rfl,e1,_,rfl, .inl B.h1,λ l hl=>?_⟩;rw[keysK];have s1:=Zi hl (.lst ((Xc S.bs).map V.str));have hl1:upd H l (.lst ((Xc S.bs).map V.str)) l=some (.lst ((Xc S.bs).map V.str)):=Ze;generalize upd H l (.lst ((Xc S.bs).map V.str))=H1 at s1 hl1 ⊢;have kl:((Xc S.bs).map V.str).length=S.bs.length:=by unfold Xc;rw[length_map,length_map]
  have hpos0:0<S.bs.length:=by
    have:=(ZaQ S.bs w0).mp hw0;cases e:S.bs with
    |nil=>rw[e]at this;cases this
    |cons x r=>simp
  have hpos:(0:Int)<(((Xc S.bs).map V.str).length:Nat):=by omega
  obtain⟨v,hv⟩:=Zky (xs:=(Xc S.bs).map V.str) (emod_nonneg n (show((((Xc S.bs).map V.str).length:Nat):Int)≠0 by omega)) (emod_lt_of_pos n hpos);obtain⟨nm,rfl,hnm⟩:∃ nm,v = .str nm/\has S.bs nm=true:=by
    unfold atI at hv;obtain⟨j,_,e⟩:=Option.bind_eq_some_iff.mp hv;exact ZnT e
  refine⟨_,rfl,_,rfl,_,rfl,_,_,rfl, .inl ⟨_,SqL.of hl1,rfl⟩,_,_,rfl,rfl,hpos,l,_,_,_,rfl,rfl,SqL.of hl1,hv,?_⟩;refine⟨_,rfl,_,rfl,_,_,rfl, .inl ⟨_,SqL.of hl1,rfl⟩,_,_,rfl,rfl,⟨hpos,by omega⟩,?_⟩;refine⟨(by show 5<=sizeLine;decide),λ l2 hl2=>?_⟩;have s2:=Zi hl2 (.lst [V.int 0, .int 1, .int 0, .int 2, .int 1]);have z0:=emod_nonneg (n / ((((Xc S.bs).map V.str).length:Nat):Int)) (show(5:Int)≠0 by decide);have z1:=emod_lt_of_pos (n / ((((Xc S.bs).map V.str).length:Nat):Int)) (show(0:Int)<5 by decide);obtain⟨t,ht,ht2⟩:∃ t:Nat,atI [V.int 0, .int 1, .int 0, .int 2, .int 1] ((n / ((((Xc S.bs).map V.str).length:Nat):Int)) % 5)=some (.int (t:Int))/\t<=2:=by
    rcases(show(n / ((((Xc S.bs).map V.str).length:Nat):Int)) % 5=0\/(n / ((((Xc S.bs).map V.str).length:Nat):Int)) % 5=1\/(n / ((((Xc S.bs).map V.str).length:Nat):Int)) % 5=2\/(n / ((((Xc S.bs).map V.str).length:Nat):Int)) % 5=3\/(n / ((((Xc S.bs).map V.str).length:Nat):Int)) % 5=4 by omega) with e|e|e|e|e <;> rw[e]
    . exact⟨0,rfl,by decide⟩
    . exact⟨1,rfl,by decide⟩
    . exact⟨0,rfl,by decide⟩
    . exact⟨2,rfl,by decide⟩
    . exact⟨1,rfl,by decide⟩
  refine⟨_,rfl,_,_,rfl,rfl,(by show(0:Int)<5;decide),l2,_,_,_,rfl,rfl,SqL.of Ze,ht,?_⟩;have d5:∀ x:Str,pok x=true->Yl x<=5:=λ x hx=>by
    unfold pok at hx;simp only[and_eq_true,decide_eq_true_eq]at hx;rw[Y5];exact hx.1.2
  have nn:nr S.bs nm≠Str.empty:=by
    have h0:nm.length≠0:=λ e=>by rw[ZjL e,ZnX W]at hnm;cases hnm
    rw[Z2 h0 hnm];exact λ e=>h0 (by rw[e];rfl)
  refine⟨_,rfl,by omega,by omega,ZaC (n:=(t:Int).toNat) (λ i σ H2=>∃(n2:Int)(z:Str)(v4:Option V),σ=[some (.ref m),some (.int n2),some (.ref l),some (.str z),v4]/\Zj H H2/\pok z=true/\nr S.bs z≠Str.empty/\JF S z) ⟨(n / ((((Xc S.bs).map V.str).length:Nat):Int)),nm,none,rfl,s1.trans s2,W.wrt nm hnm,nn,JF.known hnm⟩ ?_ ?_⟩
  . rintro i σ H2 hi ⟨n2,z,v4,rfl,s3,hz,hnz,hz3⟩;refine⟨_,rfl,_,_,rfl,rfl,⟨by decide,by decide⟩,?_⟩;refine⟨_,rfl,rfl,z,dot,rfl,rfl,_,_,rfl,rfl,_,rfl,Yj (λ cc=>?_) (λ _=>⟨_,z,_,rfl,s3,hz,hnz,hz3⟩)⟩;have hd:Yl z<5:=by have w:=of_decide_eq_true cc;unfold Yl;omega
    have zl:=Yx hz;have y0:=emod_nonneg (n2 / 5) (show(3:Int)≠0 by decide);have y1:=emod_lt_of_pos (n2 / 5) (show(0:Int)<3 by decide);obtain⟨j,hj,hj3⟩:∃ j:Nat,1+n2 / 5 % 3=(j:Int)+1/\j<3:=⟨(n2 / 5 % 3).toNat,by omega,by omega⟩;have c1:(0:Int)<=(j:Int)+1:=by omega
    have c2:(j:Int)+1<131:=by omega
    have tl:=ZfQ c1 c2;refine⟨_,rfl,z,_,rfl,rfl,ZB (by show z.length+1<=500;omega),_,rfl,_,_,rfl,rfl,(by show(0:Int)<3;decide),_,_,rfl,rfl,(j:Int)+1,(by show [V.int (1+n2 / 5 % 3)]=_;rw[hj]),Jo c1 c2,_,_,rfl,rfl,ZB (by rw[show(z++(".":Str)).length=z.length+1 from YO _ _];omega),?_⟩;refine⟨_,kid z j,_,rfl,s3,ZfG hz hd (by omega),?_,JF.kid W hz hnz hz3 hj3⟩;rw[YT];split
    . exact λ e=>Zcq z j (by rw[e];rfl)
    . exact hnz
  . rintro σ H2 ⟨n2,z,v4,rfl,s3,hz,hnz,hz3⟩;exact⟨_,rfl,q z H2 s3 hz hnz hz3⟩
theorem Zjw {f:Addr}{fd:FuncData}(F:Fun K "_law_need" "_law_need" Zc5 f fd)(T:Txt K g mg)(Qa3:Zdr P w0 K g mg base)(Qap:ZaS P w0 K g mg base):FnOk P w0 K mg base CX0 2 f fd ["_law_model_here","_law_n"] (ZeW K g):=by
  refine F.ok JS (λ vs H Q E h=>?_) (λ cdv A outer s H vs Q E hr h=>?_)
  . obtain⟨m,S,R,n,rfl,_⟩:=h;rfl
  obtain⟨m,S,R,n,rfl,M,W,hlen,RT,q⟩:=h;refine⟨_,(
(Zc (Zt (i:=2) JS.nd rfl (Or.inl rfl) (Zq ZL (pv 1) Zd))
 (Zc (Zt (i:=1) JS.nd rfl (Or.inl rfl) (Zq ZZ (pv 1) Zd))
 (Zc (Zu (Zo Z1 (pv 2) Zd (Zr _))
 (Zf (Zk (Yc (Za Zl (Za (Zq ZL (Zn ZG (Z6 (Za (Zx (Zcv rfl) rfl T.z_max boot_max (Za Zd (Za (Zq Zai (Zq Z8 (Zn ZG (Zn Zm (pv 0) Zd (λ _ _=>rfl)) Zd (λ _ _=>rfl)) (Zq ZL (pv 1) Zd)) Zd) Zb))) (Za (Zq ZZ (pv 1) Zd) Zb))) (Zq ZL (Zq ZZ (pv 1) Zd) Zd) (λ _ _=>rfl)) Zd) Zb)))))
 Zp)
 (Zc (Zu (Zo Z1 (pv 2) Zd (Zr _))
 (Zf (Zk (Yc (Za Zl (Za (Zn ZG (Z6 (Za Zl (Za Zl (Za Zl (Za (Zs Qap (h_ hr) (Za (Zq ZZ (pv 1) Zd) Zb)) Zb))))) (Zq ZL (pv 1) Zd) (λ _ _=>rfl)) Zb)))))
 Zp)
 (Zc (Zt (i:=3) JS.nd rfl (Or.inl rfl) (Zs Qa3 (h_ hr) (Za (pv 0) (Za (Zq ZZ (pv 1) Zd) Zb))))
 (Zc (Zu (Zo Zax (pv 2) Zd (Zr _))
 (Zf (Zk (Yc (Za (Zn ZG (Z6 (Za Zl (Za Zl (Za Zl Zb)))) (Zq Zai (pv 2) Zd) (λ _ _=>rfl)) (Za (pv 3) Zb)))))
 Zp)
 (Zf (Zk (Yc (Za Zl (Za (pv 3) (Za (Zn ZG (Z6 (Za (Zq ZL (pv 1) Zd) (Za (Zq ZL (pv 1) Zd) Zb))) (Zq ZL (Zq ZZ (pv 1) Zd) Zd) (λ _ _=>rfl)) Zb))))))))))))),?_⟩
  obtain⟨c,e1,e2,e3,B⟩:=M.tup_of;have htup:=B.tup;have hclk:=B.clk;have b0:=emod_nonneg n (show(8:Int)≠0 by decide);have b1:=emod_lt_of_pos n (show(0:Int)<8 by decide);walk_at "g";refine Yj (λ c0=>?_) (λ c0=>?_)
  . walk_at "g";intro l hl;have s1:=Zi hl (.lst [V.int (if S.y+n / 8 % 97 - 20>0 then S.y+n / 8 % 97 - 20 else 0), .int (n / 8 / 97)]);obtain⟨v,hv,hv'⟩:=Zii (a:=V.int (if S.y+n / 8 % 97 - 20>0 then S.y+n / 8 % 97 - 20 else 0)) (b:=.int (n / 8 / 97)) (n / 8 / 9);obtain⟨y,rfl⟩:∃ y:Int,v = .int y:=by rcases hv' with e|e <;> exact⟨_,e⟩
    walk_at "g";intro p hp;have y0:=emod_nonneg y (show(10000:Int)≠0 by decide);have y1:=emod_lt_of_pos y (show(0:Int)<10000 by decide);exact q (.year (y % 10000)) p _ (s1.trans (Zi hp _)) (s1.free hp) Ze ⟨⟨y0,y1⟩,λ _ e=>by cases e⟩
  have k0:n % 8≠0:=λ e=>c0 (decide_eq_true (congrArg V.int e));walk_at "g";refine Yj (λ c1=>?_) (λ c1=>?_)
  . walk_at "g";intro z hz;walk_at "g";intro l hl;have s1:=Zi hl (.lst [V.str "war",V.str "flood",V.str "a",V.str z]);have z0:=emod_nonneg (n / 8) (show(4:Int)≠0 by omega);have z1:=emod_lt_of_pos (n / 8) (show(0:Int)<4 by omega);obtain⟨y,hy,gy⟩:=pick4 hz z0 z1;walk_at "g";intro p hp;exact q (.comes y) p _ (s1.trans (Zi hp _)) (s1.free hp) Ze ⟨gy,λ _ e=>by cases e⟩
  have k1:n % 8≠1:=λ e=>c1 (decide_eq_true (congrArg V.int e));walk_at "g";intro z H1 s1 hz hnz hz3;have n8:∀(t:Atm),t.who=some z->∀ n,t.who=some n->near8 S n:=λ t e n e'=>by rw[e]at e';cases e';exact hz3.near8
  walk_at "g";refine Yj (λ c2=>?_) (λ c2=>?_)
  . have k2:n % 8<5:=of_decide_eq_true c2;walk_at "g";intro l hl;have s2:=Zi hl (.lst [V.str "born",V.str "dead",V.str "dead"]);obtain⟨v,hv,hv'⟩:∃ v:Str,atI [V.str "born",V.str "dead",V.str "dead"] (n % 8 - 2)=some (.str v)/\(v="born"\/v="dead"):=by
      rcases(show n % 8=2\/n % 8=3\/n % 8=4 by omega) with e|e|e <;> rw[e]
      . exact⟨_,rfl, .inl rfl⟩
      . exact⟨_,rfl, .inr rfl⟩
      . exact⟨_,rfl, .inr rfl⟩
    walk_at "g";intro p hp;rcases hv' with rfl|rfl
    . exact q (.born z) p _ ((s1.trans s2).trans (Zi hp _)) ((s1.trans s2).free hp) Ze ⟨⟨hz,hnz⟩,n8 _ rfl⟩
    . exact q (.dead z) p _ ((s1.trans s2).trans (Zi hp _)) ((s1.trans s2).free hp) Ze ⟨⟨hz,hnz⟩,n8 _ rfl⟩
  . walk_at "g";intro l hl;have s2:=Zi hl (.lst [V.int (n / 8 % 37), .int (n / 8 % 121)]);have x0:=emod_nonneg (n / 8) (show(37:Int)≠0 by decide);have x1:=emod_lt_of_pos (n / 8) (show(0:Int)<37 by decide);have x2:=emod_nonneg (n / 8) (show(121:Int)≠0 by decide);have x3:=emod_lt_of_pos (n / 8) (show(0:Int)<121 by decide);obtain⟨v,hv,hv'⟩:=Zii (a:=V.int (n / 8 % 37)) (b:=.int (n / 8 % 121)) (n / 8 / 121);obtain⟨y,rfl,y0,y1⟩:∃ y:Int,v = .int y/\0<=y/\y<=120:=by
      rcases hv' with e|e
      . exact⟨_,e,x0,by omega⟩
      . exact⟨_,e,x2,by omega⟩
    walk_at "g";intro p hp;exact q (.age z y) p _ ((s1.trans s2).trans (Zi hp _)) ((s1.trans s2).free hp) Ze ⟨⟨⟨hz,hnz⟩,y0,y1⟩,n8 _ rfl⟩
theorem Ziq {f:Addr}{fd:FuncData}(F:Fun K "_law_needs" "_law_needs" ZbN f fd)(T:Txt K g mg)(QbU:Zg0 P w0 K g mg base)(Qaq:Zdq P w0 K g mg base):FnOk P w0 K mg base CX0 3 f fd ["_law_model_here","_law_n","_law_most"] (ZdG K g):=by
  refine F.ok Zh6 (λ vs H Q E h=>?_) (λ cdv A outer s H vs Q E hr h=>?_)
  . obtain⟨m,S,R,n,most,rfl,_⟩:=h;rfl
  obtain⟨m,S,R,n,most,rfl,M,W,hlen,RT,h0,h100,q⟩:=h;refine⟨_,(
(Zf (Zk (Je (x:="_law_k") (cl:=[("_law_n",s.heap.objs.size+2),("_law_model_here",s.heap.objs.size+1)]) (caps:=[("_law_model_here",0),("_law_n",1)]) rfl (Jn rfl T.z_range (Za (Zq ZL (pv 1) (Zq Z8 (pv 2) Zd)) Zb)) (λ _ _ _ _ _=>JC) (λ _ _ _ _ _=>(Zs QbU (h_ hr) (Za (pv 1) (Za (Zs Qaq (h_ hr) (Za (Zq Z8 (Zq ZL (pv 2) Zd) (Zq ZbZ Zd (pv 0))) (Za (Zq Z8 (pv 0) Zd) Zb))) Zb)))) rfl (by decide +kernel) rfl (by decide +kernel) rfl (λ _ _ h=>h) (Yr rfl) (λ p hp=>by simp only[mem_cons,not_mem_nil,or_false]at hp;rcases hp with rfl|rfl <;> exact⟨rfl,rfl,by first|exact .inl rfl|exact .inr rfl⟩) (by decide +kernel))))),?_⟩
  have hp1:0<most+1:=by omega
  have b0:=emod_nonneg n (show most+1≠0 by omega);have b1:=emod_lt_of_pos n hp1;have b2 : -(2 ^ 62)<=n % (most+1):=by omega
  have b3:n % (most+1)<2 ^ 62:=by omega
  walk_at "g";refine lcR (n:=(n % (most+1)).toNat) (by omega) (λ _=>true) (λ _ v H2=>∃ p t,v=V.ref p/\H2 p=some (.tup (Atm.vals t))/\t.ok8 S/\H p=none) Znm (λ i H2 hi s R0 r=>r H2 (Zj.refl _)) (λ i H2 hi _ s R0 r=>?_) (λ D ys H2 hD s h2 hp=>?_)
  . have M2:=M.same s;walk_at "g";intro r1;walk_at "g";intro t p H3 s3 hp ht ok;exact r _ H3 s3 ⟨p,t,rfl,ht,ok,s.free hp⟩
  . obtain⟨ts,ps,A,o,fr,hl⟩:=Zlc h2 hp;rw[Zkr,length_range]at hl;exact q D ts ps H2 s (λ a ha=>by rcases List.mem_cons.mp ha with rfl|ha;exact hD;exact fr a ha) A o (by omega)
theorem Zjx {f:Addr}{fd:FuncData}(F:Fun K "_law_near" "_law_near" Zc6 f fd)(T:Txt K g mg)  : FnOk P w0 K mg base CX0 1 f fd ["_law_model_here","_law_name"] (ZeX K g):=by
  refine F.ok ZbG (λ vs H Q E h=>?_) (λ cdv A outer s H vs Q E hr h=>?_)
  . obtain⟨m,S,RM,n,rfl,_⟩:=h;rfl
  obtain⟨m,S,RM,n,rfl,M,hx,q⟩:=h;refine⟨_,(
(Zc (Zd0 PassesOwn.never (PW.pt (XL (Zo ZcJ (pv 1) Zl (Zr _)) (Xh (YM (Yt (ZP hr) (pv 1) (Zn Zm (pv 0) Zd (λ _ _=>rfl)))))))
 (Zf (Zu (Zo Zlw Zl (pv 1) rfl)
 (Zf (Zt (i:=1) ZbG.nd rfl (Or.inl rfl) (Zgo Zmg (pv 1) Zih (Zig (YJ plainAttrs_str PySem.F.slot_str_rfind PySem.F.type_str_rfind ZmG (pv 1) (Za Zl Zb))))))
 (Zf (Zt (i:=1) ZbG.nd rfl (Or.inl rfl) Zl)))))
 (Zf (Zk (pv 1))))),?_⟩
  obtain⟨c,e1,e2,e3,B⟩:=M.tup_of;refine⟨λ mm σ H2=>∃ z:Str,mm=z.length/\σ=[some (.ref m),some (.str z)]/\z.length<=200/\nr S.bs z=nr S.bs n/\H2=H,⟨_,n,rfl,rfl,hx,rfl,rfl⟩,?_⟩;rintro mm σ H2 ⟨z,rfl,rfl,hz,hnr,rfl⟩;refine⟨_,rfl,rfl,_,rfl,?_⟩
  by_cases h0:z.length=0
  . have e0:=ZjL h0;rw[show(!decide (V.str z=V.str ""))=false by rw[e0];decide +kernel];refine Z3 (Z3 ⟨_,rfl,?_⟩);have e:nr S.bs n=z:=by rw[<- hnr,e0,Zdi]
    rw[<- e];exact q
  . rw[show(!decide (V.str z=V.str ""))=true by rw[decide_eq_false (λ e=>h0 (by injection e with e;rw[e];rfl))];rfl];refine Yy ?_;refine⟨_,rfl,_,rfl,m,_,_,_,rfl,rfl,SqT.of B.tup,rfl,e1,_,rfl,ZY.k (k:=Sum.inr z) B.h1,_,rfl,?_⟩;rw[Zy];cases hh:has S.bs z with
    |true=>
      refine Z3 ⟨_,rfl,?_⟩;have e:nr S.bs n=z:=by rw[<- hnr,Z2 h0 hh]
      rw[<- e];exact q
    |false=>
      have hu:=Zbh h0;refine Yy ⟨λ σ' H'=>σ'=[some (.ref m),some (.str (up z))]/\H'=H2,λ σ' H' ⟨e1,e2⟩=>⟨(up z).length,hu,up z,rfl,e1,by omega,by rw[<- hnr,ZgI h0 hh],e2⟩,?_⟩;refine⟨_,rfl,_,_,rfl,rfl,_,rfl,?_⟩;rw[in_dot]
      by_cases hd:46∈z.cps.toList
      . rw[decide_eq_true hd];refine Yy ?_;have hne:nms z≠[]:=λ e=>by
          have e2:pcs z=[wd z]:=by rw[Xy,e]
          have e3:=YX z;rw[e2]at e3;have e4:wd z=z:=e3;exact JE (x:=z) (p:=wd z) (by rw[e2];simp) (by rw[e4];exact hd)
        obtain⟨i,hi1,hi2⟩:=Znt hne;refine⟨_,rfl,_,rfl,rfl,z,dot,rfl,rfl,_,rfl,z,rfl,ZB (by omega),?_⟩;rw[hi1];exact⟨by rw[<- hi2];rfl,rfl⟩
      . rw[decide_eq_false hd];refine Z3 ⟨?_,rfl⟩;have e:up z=Str.empty:=by
          unfold up;rcases StrLaws.last_spec z dot with ⟨e,_⟩|⟨i,e,w,_⟩
          . rw[e]
          . exact absurd (mem_of_getElem? ((at_iff z i).mp w)) hd
        rw[e];rfl
theorem Zkg {f:Addr}{fd:FuncData}(F:Fun K "_law_age" "_law_age" Zet f fd)(T:Txt K g mg)  : FnOk P w0 K mg base CX0 1 f fd ["_law_model_here","_law_name"] (ZfX K g):=by
  refine F.ok Zj9 (λ vs H Q E h=>?_) (λ cdv A outer s H vs Q E hr h=>?_)
  . obtain⟨m,S,R,n,y,rfl,_⟩:=h;rfl
  obtain⟨m,S,R,n,y,rfl,M,hy,q⟩:=h;refine⟨_,(
(Zf (Zk (Zq Zai (Zgp (ZP hr) (Zn Zm (pv 0) Zd (λ _ _=>rfl)) (pv 1) (Zn ZG (Zn Zm (pv 0) Zd (λ _ _=>rfl)) Zd (λ _ _=>rfl)) ⟨rfl,rfl,rfl,rfl⟩) (JU (ZP hr) (Zn Zm (pv 0) Zd (λ _ _=>rfl)) (pv 1) (λ _ _=>rfl)))))),?_⟩
  obtain⟨c,e1,e2,e3,B⟩:=M.tup_of;have gb:=ZY.k (H:=H) (k:=(Sum.inr n:Key)) B.h1;rw[YN,hy]at gb;have gd:=ZY.k (H:=H) (k:=(Sum.inr n:Key)) B.h2;rw[YN]at gd;refine⟨_,rfl,m,_,_,_,rfl,rfl,SqT.of B.tup,rfl,e2,rfl, .inl ⟨_, .inl B.h2⟩,_,rfl,_,rfl,m,_,_,_,rfl,rfl,SqT.of B.tup,rfl,c,_,_,_,rfl,rfl,SqL.of B.clk,rfl,_,gd,_,rfl,m,_,_,_,rfl,rfl,SqT.of B.tup,rfl,_,rfl,e1,_,rfl,gb,(yr S.ds n).getD S.y,y,?_,rfl,q⟩;cases yr S.ds n <;> rfl
theorem ZjB {f:Addr}{fd:FuncData}(F:Fun K "_law_atom" "_law_atom" Zda f fd)(T:Txt K g mg)(QaD:Zct P w0 K g mg base)(QaE:ZaU P w0 K g mg base):FnOk P w0 K mg base CX0 2 f fd ["_law_model_here","_law_atom_here"] (Ze1 K g):=by
  refine F.ok Ze7 (λ vs H Q E h=>?_) (λ cdv A outer s H vs Q E hr h=>?_)
  . obtain⟨m,S,R,p,t,rfl,_⟩:=h;rfl
  obtain⟨m,S,R,p,t,rfl,M,hp,hb,WF,hn,q⟩:=h;refine⟨_,(
(Zc (Zu (Zo Z1 (Zn Zm (pv 1) Zd (λ _ _=>rfl)) Zl (Zr _))
 (Zf (Zk (Zn ZG (Z6 (Za Zl (Za Zl Zb))) (ZU Jr rfl T.z_int PyProof.Rows.boot_int (Za (YE Zd3 (Zn ZG (Zn Zm (pv 0) Zd (λ _ _=>rfl)) Zd (λ _ _=>rfl)) (Zn Zm (pv 1) Zd (λ _ _=>rfl)) (Zr _)) Zb)) (λ _ _=>rfl))))
 Zp)
 (Zc (Zu (Zo Z1 (Zn Zm (pv 1) Zd (λ _ _=>rfl)) Zl (Zr _))
 (Zf (Zk (Zn ZG (Z6 (Za Zl (Za Zl Zb))) (ZU Jr rfl T.z_int PyProof.Rows.boot_int (Za (Zdf (XM (ZP hr) (Zn Zm (pv 1) Zd (λ _ _=>rfl)) (Zn Zm (pv 0) Zd (λ _ _=>rfl)))) Zb)) (λ _ _=>rfl))))
 Zp)
 (Zc (Zt (i:=2) Ze7.nd rfl (Or.inl rfl) (Zn Zm (pv 1) Zd (λ _ _=>rfl)))
 (Zc (Zu (YM (Yt (ZP hr) (pv 2) (Zn Zm (pv 0) Zd (λ _ _=>rfl))))
 (Zf (Zk (Zn ZG (Z6 (Za Zl (Za Zl Zb))) (ZU Jr rfl T.z_int PyProof.Rows.boot_int (Za (Zdf (XM (ZP hr) (Zs QaE (h_ hr) (Za (pv 0) (Za (pv 2) Zb))) (Zn Zm (pv 0) Zd (λ _ _=>rfl)))) Zb)) (λ _ _=>rfl))))
 Zp)
 (Zc (Zu (Zo Z1 (Zn Zm (pv 1) Zd (λ _ _=>rfl)) Zl (Zr _))
 (Zf (Zk Zl))
 Zp)
 (Zc (Zu (Zo Z1 (Zn Zm (pv 1) Zd (λ _ _=>rfl)) Zl (Zr _))
 (Zf (Zk (Zn ZG (Z6 (Za Zl (Za Zl Zb))) (ZU Jr rfl T.z_int PyProof.Rows.boot_int (Za (Zdf (XM (ZP hr) (pv 2) (Zn Zm (pv 0) Zd (λ _ _=>rfl)))) Zb)) (λ _ _=>rfl))))
 Zp)
 (Zc (Zu (Zo Zd3 (Zs QaD (h_ hr) (Za (pv 0) (Za (pv 2) Zb))) (Zn Zm (pv 1) Zd (λ _ _=>rfl)) (Zr _))
 (Zf (Zk Zl))
 Zp)
 (Zf (Zk (Zn ZG (Z6 (Za Zl (Za Zl Zb))) (ZU Jr rfl T.z_int PyProof.Rows.boot_int (Za (Zdf (XM (ZP hr) (pv 2) (Zn Zm (pv 0) Zd (λ _ _=>rfl)))) Zb)) (λ _ _=>rfl)))))))))))),?_⟩
  cases t with
  |year y=>
    refine⟨_,rfl,p,_,_,_,rfl,rfl,SqT.of hp,rfl,rfl,_,rfl,Zbc ?_⟩;refine⟨(by show 2<=sizeLine;decide),λ l hl=>?_⟩;have sn:=Zi hl (.lst [.str "hangs", .str "met"]);obtain⟨c,e1,e2,e3,B⟩:=(M.same sn).tup_of;have hp1:=sn _ _ hp;have z:=q _ sn;refine⟨_,rfl,m,_,_,_,rfl,rfl,SqT.of B.tup,rfl,c,_,_,_,rfl,rfl,SqL.of B.clk,rfl,_,rfl,p,_,_,_,rfl,rfl,SqT.of hp1,rfl,_,_,rfl,rfl, .inr ⟨_,rfl,l,_,_,_,rfl,rfl,SqL.of Ze,Ze9 _,?_⟩⟩
    by_cases cc:y<=S.y
    . rw[show(Atm.year y).stand S=("met":Str) from if_pos cc]at z;rw[if_pos (decide_eq_true cc)];exact z
    . rw[show(Atm.year y).stand S=("hangs":Str) from if_neg cc]at z;rw[if_neg (λ e=>cc (of_decide_eq_true e))];exact z
  |comes v=>
    refine⟨_,rfl,p,_,_,_,rfl,rfl,SqT.of hp,rfl,rfl,_,rfl,Yo (by decide +kernel) ?_⟩;refine⟨_,rfl,p,_,_,_,rfl,rfl,SqT.of hp,rfl,rfl,_,rfl,Zbc ?_⟩;refine⟨(by show 2<=sizeLine;decide),λ l hl=>?_⟩;have sn:=Zi hl (.lst [.str "hangs", .str "met"]);obtain⟨c,e1,e2,e3,B⟩:=(M.same sn).tup_of;have hp1:=sn _ _ hp;have z:=q _ sn;refine⟨_,rfl,p,_,_,_,rfl,rfl,SqT.of hp1,rfl,_,rfl,m,_,_,_,rfl,rfl,SqT.of B.tup,rfl,e3,_,rfl,ZY.k (k:=Sum.inr v) B.h3, .inr ⟨_,rfl,l,_,_,_,rfl,rfl,SqL.of Ze,Ze9 _,?_⟩⟩;rw[Zy];cases hc:has S.cs v with
    |true=>rw[show(Atm.comes v).stand S=("met":Str) from if_pos hc]at z;exact z
    |false=>rw[show(Atm.comes v).stand S=("hangs":Str) from if_neg (by rw[hc];decide)]at z;exact z
  |born m0=>
    refine⟨_,rfl,p,_,_,_,rfl,rfl,SqT.of hp,rfl,rfl,_,rfl,Yo (by decide +kernel) ?_⟩;refine⟨_,rfl,p,_,_,_,rfl,rfl,SqT.of hp,rfl,rfl,_,rfl,Yo (by decide +kernel) ?_⟩;obtain⟨c0,f1,f2,f3,B0⟩:=M.tup_of;refine⟨_,rfl,p,_,_,_,rfl,rfl,SqT.of hp,rfl,_,rfl,_,rfl,m,_,_,_,rfl,rfl,SqT.of B0.tup,rfl,f1,_,rfl,ZY.k (k:=Sum.inr m0) B0.h1,_,rfl,Yj (λ cc=>?_) (λ cc=>?_)⟩
    . have hk:has S.bs m0=false:=by
        rw[Zy]at cc;cases h:has S.bs m0 with
        |false=>rfl
        |true=>rw[h]at cc;cases cc
      obtain⟨np,nk1⟩:=Atm.near_ok WF rfl hb;refine⟨(by show 2<=sizeLine;decide),λ l hl=>?_⟩;have sn:=Zi hl (.lst [.str "hangs", .str "failed"]);obtain⟨c,e1,e2,e3,B⟩:=(M.same sn).tup_of;have hp1:=sn _ _ hp;have z:=q _ sn;refine⟨_,rfl,_,rfl,m,S,R,m0,rfl,M.same sn,hn m0 rfl,_,rfl,m,_,_,_,rfl,rfl,SqT.of B.tup,rfl,e2,_,rfl,ZY.k (k:=Sum.inr (nr S.bs m0)) B.h2, .inr ⟨_,rfl,l,_,_,_,rfl,rfl,SqL.of Ze,Ze9 _,?_⟩⟩;rw[Zy];rw[Atm.stand_none rfl hk]at z;unfold ZX al at z;rw[nk1]at z;cases hd:has S.ds (nr S.bs m0) with
      |true=>rw[hd]at z;exact z
      |false=>rw[hd]at z;exact z
    . have hk:has S.bs m0=true:=by
        rw[Zy]at cc;cases h:has S.bs m0 with
        |true=>rfl
        |false=>rw[h]at cc;exact absurd rfl cc
      refine⟨_,rfl,p,_,_,_,rfl,rfl,SqT.of hp,rfl,rfl,_,rfl,Zbc ?_⟩;have z:=q H (Zj.refl _);rw[show(Atm.born m0).stand S=("met":Str) from if_pos hk]at z;exact z
  |dead m0=>
    refine⟨_,rfl,p,_,_,_,rfl,rfl,SqT.of hp,rfl,rfl,_,rfl,Yo (by decide +kernel) ?_⟩;refine⟨_,rfl,p,_,_,_,rfl,rfl,SqT.of hp,rfl,rfl,_,rfl,Yo (by decide +kernel) ?_⟩;obtain⟨c0,f1,f2,f3,B0⟩:=M.tup_of;refine⟨_,rfl,p,_,_,_,rfl,rfl,SqT.of hp,rfl,_,rfl,_,rfl,m,_,_,_,rfl,rfl,SqT.of B0.tup,rfl,f1,_,rfl,ZY.k (k:=Sum.inr m0) B0.h1,_,rfl,Yj (λ cc=>?_) (λ cc=>?_)⟩
    . have hk:has S.bs m0=false:=by
        rw[Zy]at cc;cases h:has S.bs m0 with
        |false=>rfl
        |true=>rw[h]at cc;cases cc
      obtain⟨np,nk1⟩:=Atm.near_ok WF rfl hb;refine⟨(by show 2<=sizeLine;decide),λ l hl=>?_⟩;have sn:=Zi hl (.lst [.str "hangs", .str "failed"]);obtain⟨c,e1,e2,e3,B⟩:=(M.same sn).tup_of;have hp1:=sn _ _ hp;have z:=q _ sn;refine⟨_,rfl,_,rfl,m,S,R,m0,rfl,M.same sn,hn m0 rfl,_,rfl,m,_,_,_,rfl,rfl,SqT.of B.tup,rfl,e2,_,rfl,ZY.k (k:=Sum.inr (nr S.bs m0)) B.h2, .inr ⟨_,rfl,l,_,_,_,rfl,rfl,SqL.of Ze,Ze9 _,?_⟩⟩;rw[Zy];rw[Atm.stand_none rfl hk]at z;unfold ZX al at z;rw[nk1]at z;cases hd:has S.ds (nr S.bs m0) with
      |true=>rw[hd]at z;exact z
      |false=>rw[hd]at z;exact z
    . have hk:has S.bs m0=true:=by
        rw[Zy]at cc;cases h:has S.bs m0 with
        |true=>rfl
        |false=>rw[h]at cc;exact absurd rfl cc
      refine⟨_,rfl,p,_,_,_,rfl,rfl,SqT.of hp,rfl,rfl,_,rfl,Yo (by decide +kernel) ?_⟩;refine⟨_,rfl,p,_,_,_,rfl,rfl,SqT.of hp,rfl,rfl,_,rfl,Zbc ?_⟩;refine⟨(by show 2<=sizeLine;decide),λ l hl=>?_⟩;have sn:=Zi hl (.lst [.str "hangs", .str "met"]);obtain⟨c,e1,e2,e3,B⟩:=(M.same sn).tup_of;have hp1:=sn _ _ hp;have z:=q _ sn;refine⟨_,rfl,_,rfl,m,_,_,_,rfl,rfl,SqT.of B.tup,rfl,e2,_,rfl,ZY.k (k:=Sum.inr (m0)) B.h2, .inr ⟨_,rfl,l,_,_,_,rfl,rfl,SqL.of Ze,Ze9 _,?_⟩⟩;rw[Zy];rw[show(Atm.dead m0).stand S=(if has S.ds m0=true then ("met":Str) else "hangs") from if_pos hk]at z;cases hd:has S.ds m0 with
      |true=>rw[hd]at z;exact z
      |false=>rw[hd]at z;exact z
  |age m0 a=>
    refine⟨_,rfl,p,_,_,_,rfl,rfl,SqT.of hp,rfl,rfl,_,rfl,Yo (by decide +kernel) ?_⟩;refine⟨_,rfl,p,_,_,_,rfl,rfl,SqT.of hp,rfl,rfl,_,rfl,Yo (by decide +kernel) ?_⟩;obtain⟨c0,f1,f2,f3,B0⟩:=M.tup_of;refine⟨_,rfl,p,_,_,_,rfl,rfl,SqT.of hp,rfl,_,rfl,_,rfl,m,_,_,_,rfl,rfl,SqT.of B0.tup,rfl,f1,_,rfl,ZY.k (k:=Sum.inr m0) B0.h1,_,rfl,Yj (λ cc=>?_) (λ cc=>?_)⟩
    . have hk:has S.bs m0=false:=by
        rw[Zy]at cc;cases h:has S.bs m0 with
        |false=>rfl
        |true=>rw[h]at cc;cases cc
      obtain⟨np,nk1⟩:=Atm.near_ok WF rfl hb;refine⟨(by show 2<=sizeLine;decide),λ l hl=>?_⟩;have sn:=Zi hl (.lst [.str "hangs", .str "failed"]);obtain⟨c,e1,e2,e3,B⟩:=(M.same sn).tup_of;have hp1:=sn _ _ hp;have z:=q _ sn;refine⟨_,rfl,_,rfl,m,S,R,m0,rfl,M.same sn,hn m0 rfl,_,rfl,m,_,_,_,rfl,rfl,SqT.of B.tup,rfl,e2,_,rfl,ZY.k (k:=Sum.inr (nr S.bs m0)) B.h2, .inr ⟨_,rfl,l,_,_,_,rfl,rfl,SqL.of Ze,Ze9 _,?_⟩⟩;rw[Zy];rw[Atm.stand_none rfl hk]at z;unfold ZX al at z;rw[nk1]at z;cases hd:has S.ds (nr S.bs m0) with
      |true=>rw[hd]at z;exact z
      |false=>rw[hd]at z;exact z
    . have hk:has S.bs m0=true:=by
        rw[Zy]at cc;cases h:has S.bs m0 with
        |true=>rfl
        |false=>rw[h]at cc;exact absurd rfl cc
      refine⟨_,rfl,p,_,_,_,rfl,rfl,SqT.of hp,rfl,rfl,_,rfl,Yo (by decide +kernel) ?_⟩;refine⟨_,rfl,p,_,_,_,rfl,rfl,SqT.of hp,rfl,rfl,_,rfl,Yo (by decide +kernel) ?_⟩;obtain⟨y,hy⟩:=XD hk;have es:(Atm.age m0 a).stand S=YC S m0 y a:=by show(match yr S.bs m0 with|some y=>_|none=>_)=_;rw[hy]
      unfold YC at es;refine⟨_,rfl,_,rfl,m,S,R,m0,y,rfl,M,hy,_,rfl,p,_,_,_,rfl,rfl,SqT.of hp,rfl,_,_,rfl,rfl,_,rfl,Yj (λ c1=>?_) (λ c1=>?_)⟩
      . have z:=q H (Zj.refl _);rw[es,if_pos (show a<=Xs S m0 y from of_decide_eq_true c1)]at z;exact z
      . refine⟨(by show 2<=sizeLine;decide),λ l hl=>?_⟩;have sn:=Zi hl (.lst [.str "hangs", .str "failed"]);obtain⟨c,e1,e2,e3,B⟩:=(M.same sn).tup_of;have hp1:=sn _ _ hp;have z:=q _ sn;rw[es,if_neg (show ¬ a<=Xs S m0 y from λ e=>c1 (decide_eq_true e))]at z;refine⟨_,rfl,_,rfl,m,_,_,_,rfl,rfl,SqT.of B.tup,rfl,e2,_,rfl,ZY.k (k:=Sum.inr (m0)) B.h2, .inr ⟨_,rfl,l,_,_,_,rfl,rfl,SqL.of Ze,Ze9 _,?_⟩⟩;rw[Zy];cases hd:has S.ds m0 with
        |true=>rw[hd]at z;exact z
        |false=>rw[hd]at z;exact z
theorem ZjA {f:Addr}{fd:FuncData}(F:Fun K "_law_fold" "_law_fold" Zc9 f fd)(T:Txt K g mg)  : FnOk P w0 K mg base CX0 1 f fd ["_law_stands"] (Ze0 K g):=by
  refine F.ok Zjf (λ vs H Q E h=>?_) (λ cdv A outer s H vs Q E hr h=>?_)
  . obtain⟨l,ss,rfl,_⟩:=h;rfl
  obtain⟨l,ss,rfl,hl,q⟩:=h;refine⟨_,(
(Zc (Zu (Zo XN Zl (pv 0) rfl)
 (Zf (Zk Zl))
 Zp)
 (Zc (Zu (Zo XN Zl (pv 0) rfl)
 (Zf (Zk Zl))
 Zp)
 (Zf (Zk Zl))))),?_⟩
  unfold Yk at q;refine⟨_,rfl,l,_,rfl, .inl hl,rfl,Jq ss,_,rfl,?_⟩;rw[show(if false=true then !inV (V.str "failed") (ss.map V.str) else inV (V.str "failed") (ss.map V.str))=decide (("failed":Str)∈ss) from ZaB _ _]
  by_cases c:("failed":Str)∈ss
  . rw[if_pos c]at q;rw[decide_eq_true c];exact q
  rw[if_neg c]at q;rw[decide_eq_false c];refine Z3 ?_;refine⟨_,rfl,l,_,rfl, .inl hl,rfl,Jq ss,_,rfl,?_⟩;rw[show(if false=true then !inV (V.str "hangs") (ss.map V.str) else inV (V.str "hangs") (ss.map V.str))=decide (("hangs":Str)∈ss) from ZaB _ _]
  by_cases c2:("hangs":Str)∈ss
  . rw[if_pos c2]at q;rw[decide_eq_true c2];exact q
  rw[if_neg c2]at q;rw[decide_eq_false c2];exact q
theorem Zgu {f:Addr}{fd:FuncData}(F:Fun K "_law_members" "_law_members" J3 f fd)(T:Txt K g mg)(Qak:JK P w0 K g mg base):FnOk P w0 K mg base CX0 2 f fd ["_law_model_here","_law_name","_law_out_here"] (Zbo K g):=by
  refine F.ok Zf2 (λ vs H Q E h=>?_) (λ cdv A outer s H vs Q E hr h=>?_)
  . obtain⟨m,S,R,n,o,os,rfl,_⟩:=h;rfl
  obtain⟨m,S,R,n,o,os,rfl,M,ho,wf,hlen,hn,q⟩:=h;refine⟨_,(
(Zf (Zk (Je (x:="_law_child") (cl:=[("_law_out_here",s.heap.objs.size+1)]) (caps:=[("_law_out_here",2)]) rfl (ZQ (Zs Qak (h_ hr) (Za (pv 0) (Za (pv 1) Zb)))) (λ _ _ _ _ _=>Yg (Zo (show OpR _ (compareOp .NotIn) (rIn K true) from ZaN) (pv 0) (pv 1) rfl)) (λ _ _ _ _ _=>(pv 0)) rfl (by decide +kernel) rfl (by decide +kernel) rfl (λ _ _ h=>h) (Yr rfl) (λ p hp=>by rw[List.mem_singleton.mp hp];exact⟨rfl,rfl,by first|exact .inl rfl|exact .inr rfl⟩) (by decide +kernel))))),?_⟩
  unfold ZfR;refine lcS (ss:=Yd S n) (λ l1 H1=>Zj H H1/\H1 l1=some (.lst ((Yd S n).map V.str))/\H l1=none) (λ c => !decide (c∈os)) V.str ?_ (λ a H1 h=>SqL.of h.2.1) (by have:=JG wf n;omega) ?_ ?_ ?_
  . intro R0 r;walk_at "g";exact⟨by have:=wf.few n;omega,λ l H' s f h=>r l H' ⟨s,by rw[h,ZmS];rfl,f⟩⟩
  . rintro a0 H1 x H2 ⟨s1,h1,_⟩ hx s R0 r;refine⟨_,rfl,_,rfl,o,_,rfl, .inl ((s1.trans s).seq ho),rfl,Jq os,_,rfl,?_⟩;rw[show(if true=true then !inV (V.str x) (os.map V.str) else inV (V.str x) (os.map V.str)) = !decide (x∈os) from by rw[if_pos rfl,ZaB]];exact r H2 (Zj.refl _)
  . exact λ a H1 x H2 _ hx _ s R0 r=>⟨_,rfl,r H2 (Zj.refl _)⟩
  . rintro a0 H1 D H2 ⟨s1,h1,_⟩ hD s h;exact q D H2 (s1.trans s) (s1.free hD) h
theorem Zin {f:Addr}{fd:FuncData}(F:Fun K "_law_young" "_law_young" ZbK f fd)(T:Txt K g mg)(Qa4:Zak P w0 K g mg base)(QaD:Zct P w0 K g mg base):FnOk P w0 K mg base CX0 3 f fd ["_law_model_here","_law_name","_law_age_here","_law_out_here"] (ZdD K g):=by
  refine F.ok ZdT (λ vs H Q E h=>?_) (λ cdv A outer s H vs Q E hr h=>?_)
  . obtain⟨m,S,R,n,a,o,os,rfl,_⟩:=h;rfl
  obtain⟨m,S,R,n,a,o,os,rfl,M,ho,wf,hlen,hn,q⟩:=h;refine⟨_,(
(Zc (XW (i:=4) ZdT.nd rfl (Or.inl rfl) (x:="_law_child") (cl:=[("_law_model_here",s.heap.objs.size+1)]) (caps:=[("_law_model_here",0)]) rfl (ZQ (Zs Qa4 (h_ hr) (Za (pv 0) (Za (pv 1) (Za (pv 3) Zb))))) (λ _ _ _ _ _=>Yg (YM (Yt (ZP hr) (pv 0) (Zn (show IxR _ (Zex K) from Zm) (pv 1) Zd (λ _ _=>rfl))))) (λ _ _ _ _ _=>(pv 0)) rfl (by decide +kernel) rfl (by decide +kernel) rfl (L2.cl_sub (λ p hp=>by simp only[mem_cons,not_mem_nil,or_false]at hp;rcases hp with rfl <;> rfl)) (Yr rfl) (λ p hp=>by rw[List.mem_singleton.mp hp];exact⟨rfl,rfl,by first|exact .inl rfl|exact .inr rfl⟩) (by decide +kernel))
 (Zf (Zk (Je (x:="_law_child") (cl:=[("_law_model_here",s.heap.objs.size+1),("_law_age_here",s.heap.objs.size+2)]) (caps:=[("_law_age_here",2),("_law_model_here",0)]) rfl (ZQ (pv 4)) (λ _ _ _ _ _=>Yg (Zo Zax (Zs QaD (h_ hr) (Za (pv 2) (Za (pv 0) Zb))) (pv 1) (Zr _))) (λ _ _ _ _ _=>(pv 0)) rfl (by decide +kernel) rfl (by decide +kernel) rfl (L2.cl_sub (λ p hp=>by simp only[mem_cons,not_mem_nil,or_false]at hp;rcases hp with rfl|rfl <;> rfl)) (Yr rfl) (λ p hp=>by simp only[mem_cons,not_mem_nil,or_false]at hp;rcases hp with rfl|rfl <;> exact⟨rfl,rfl,by first|exact .inl rfl|exact .inr rfl⟩) (by decide +kernel)))))),?_⟩
  unfold ZhZ Zha;refine lcS (ss:=YI S n os) (λ l1 H1=>Zj H H1/\H1 l1=some (.lst ((YI S n os).map V.str))/\H l1=none) (λ c => !has S.ds c) V.str ?_ (λ a H1 h=>SqL.of h.2.1) (by have:=ZaA wf (n:=n) (os:=os);omega) ?_ ?_ ?_
  . intro R0 r;walk_at "g";exact λ l H' s f h=>r l H' ⟨s,h,f⟩
  . rintro a0 H1 x H2 ⟨s1,h1,_⟩ hx s R0 r;obtain⟨c,e1,e2,e3,B⟩:=(M.same (s1.trans s)).tup_of;refine⟨_,rfl,_,rfl,m,_,_,_,rfl,rfl,SqT.of B.tup,rfl,e2,_,rfl,ZY.k (k:=Sum.inr x) B.h2,_,rfl,?_⟩;rw[Zy];exact r H2 (Zj.refl _)
  . exact λ a H1 x H2 _ hx _ s R0 r=>⟨_,rfl,r H2 (Zj.refl _)⟩
  rintro a0 H1 D1 H2 ⟨s1,h1,_⟩ hD1 s2 h2;have s02:=s1.trans s2;unfold Zfh ZfR;dsimp only;refine lcS (ss:=(YI S n os).filter λ c => !has S.ds c) (λ l1 H1=>Zj H H1/\H1 l1=some (.lst (((YI S n os).filter λ c => !has S.ds c).map V.str))/\H l1=none) (λ c=>decide (Xp S c<a)) V.str ?_ (λ a H1 h=>SqL.of h.2.1) (by have:=ZaA wf (n:=n) (os:=os);have:=length_filter_le (λ c => !has S.ds c) (YI S n os);omega) ?_ ?_ ?_
  . intro R0 r;exact⟨_,rfl,r D1 H2 ⟨s02,h2,s1.free hD1⟩⟩
  . rintro a0 H1 x H2 ⟨s1,h1,_⟩ hx s R0 r;have hk:=Z4 wf (YQ (List.mem_filter.mp hx).1);obtain⟨y,hy⟩:=XD hk;refine⟨_,rfl,_,rfl,m,S,R,x,y,rfl,M.same (s1.trans s),hy,?_⟩;rw[Zg7 hy];walk_at "g";exact r _ (Zj.refl _)
  . exact λ a H1 x H2 _ hx _ s R0 r=>⟨_,rfl,r H2 (Zj.refl _)⟩
  . rintro a0 H1 D H2 ⟨s1,h1,_⟩ hD s h;exact q D _ (s1.trans s) (s1.free hD) (by rw[h,Zl2])
theorem Zhf {f:Addr}{fd:FuncData}(F:Fun K "_law_seated" "_law_seated" ZaJ f fd)(T:Txt K g mg)(Qa4:Zak P w0 K g mg base)(QaD:Zct P w0 K g mg base):FnOk P w0 K mg base CX0 3 f fd ["_law_model_here","_law_name","_law_age_here","_law_out_here"] (ZcE K g):=by
  refine F.ok Zhc (λ vs H Q E h=>?_) (λ cdv A outer s H vs Q E hr h=>?_)
  . obtain⟨m,S,R,n,a,o,os,rfl,_⟩:=h;rfl
  obtain⟨m,S,R,n,a,o,os,rfl,M,ho,wf,hlen,hn,q⟩:=h;refine⟨_,(
(Zf (Zk (Je (x:="_law_child") (cl:=[("_law_model_here",s.heap.objs.size+1),("_law_age_here",s.heap.objs.size+2)]) (caps:=[("_law_age_here",2),("_law_model_here",0)]) rfl (ZQ (Zs Qa4 (h_ hr) (Za (pv 0) (Za (pv 1) (Za (pv 3) Zb))))) (λ _ _ _ _ _=>Yg (Zo Zd3 (Zs QaD (h_ hr) (Za (pv 2) (Za (pv 0) Zb))) (pv 1) (Zr _))) (λ _ _ _ _ _=>(pv 0)) rfl (by decide +kernel) rfl (by decide +kernel) rfl (L2.cl_sub (λ p hp=>by simp only[mem_cons,not_mem_nil,or_false]at hp;rcases hp with rfl|rfl <;> rfl)) (Yr rfl) (λ p hp=>by simp only[mem_cons,not_mem_nil,or_false]at hp;rcases hp with rfl|rfl <;> exact⟨rfl,rfl,by first|exact .inl rfl|exact .inr rfl⟩) (by decide +kernel))))),?_⟩
  unfold ZfR;refine lcS (ss:=YI S n os) (λ l1 H1=>Zj H H1/\H1 l1=some (.lst ((YI S n os).map V.str))/\H l1=none) (λ c=>decide (a<=Xp S c)) V.str ?_ (λ a H1 h=>SqL.of h.2.1) (by have:=ZaA wf (n:=n) (os:=os);omega) ?_ ?_ ?_
  . intro R0 r;walk_at "g";exact λ l H' s f h=>r l H' ⟨s,h,f⟩
  . rintro a0 H1 x H2 ⟨s1,h1,_⟩ hx s R0 r;have hk:=Z4 wf (YQ hx);obtain⟨y,hy⟩:=XD hk;refine⟨_,rfl,_,rfl,m,S,R,x,y,rfl,M.same (s1.trans s),hy,?_⟩;rw[Zg7 hy];walk_at "g";exact r H2 (Zj.refl _)
  . exact λ a H1 x H2 _ hx _ s R0 r=>⟨_,rfl,r H2 (Zj.refl _)⟩
  . rintro a0 H1 D H2 ⟨s1,h1,_⟩ hD s h;exact q D H2 (s1.trans s) (s1.free hD) h
theorem Zit {f:Addr}{fd:FuncData}(F:Fun K "_law_class" "_law_class" ZbQ f fd)(T:Txt K g mg)(QaE:ZaU P w0 K g mg base)(QbV:Zfk P w0 K g mg base)(QbW:Zef P w0 K g mg base):FnOk P w0 K mg base CX0 4 f fd ["_law_model_here","_law_name","_law_age_here","_law_out_here"] (ZdJ K g):=by
  refine F.ok ZdV (λ vs H Q E h=>?_) (λ cdv A outer s H vs Q E hr h=>?_)
  . obtain⟨m,S,R,n,a,o,os,rfl,_⟩:=h;rfl
  obtain⟨m,S,R,n,a,o,os,rfl,M,ho,wf,hlen,on,q⟩:=h;refine⟨_,(
(Zc (Zt (i:=4) ZdV.nd rfl (Or.inl rfl) (Zs QaE (h_ hr) (Za (pv 0) (Za (pv 1) Zb))))
 (Zc (Zu (PW.pt (Jd (YM (Yt (ZP hr) (pv 4) (Zn Zm (pv 0) Zd (λ _ _=>rfl)))) (Xm (Zo Zay (Zx ZO rfl T.z_len boot_len (Za (Zs QbV (h_ hr) (Za (pv 0) (Za (pv 1) (Za (pv 2) (Za (pv 3) Zb))))) Zb)) Zd (Zr _)))))
 (Zf (Zk Zl))
 Zp)
 (Zf (Zk (Zn ZG (Z6 (Za Zl (Za Zl Zb))) (ZU Jr rfl T.z_int PyProof.Rows.boot_int (Za (YE Zay (Zx ZO rfl T.z_len boot_len (Za (Zs QbW (h_ hr) (Za (pv 0) (Za (pv 1) (Za (pv 2) (Za (pv 3) Zb))))) Zb)) Zd (Zr _)) Zb)) (λ _ _=>rfl))))))),?_⟩
  have nl:=Yx on.1;have cl:=cl_law (a:=a) (os:=os) on;unfold clS at q;refine⟨_,rfl,_,rfl,m,S,R,n,rfl,M,by omega,?_⟩;obtain⟨c,e1,e2,e3,B⟩:=M.tup_of;refine⟨_,rfl,_,rfl,m,_,_,_,rfl,rfl,SqT.of B.tup,rfl,e2,_,rfl,ZY.k (k:=Sum.inr (nr S.bs n)) B.h2,_,rfl,?_⟩;rw[Zy];cases hd:has S.ds (nr S.bs n) with
  |false=>
    rw[hd]at cl;rw[<- cl]at q;exact Yy (q H (Zj.refl _))
  |true=>
    rw[hd]at cl;refine Z3 ⟨_,rfl,_,rfl,_,rfl,_,rfl,m,S,R,n,a,o,os,rfl,M,ho,wf,hlen,by omega,λ l1 H1 s1 f1 h1=>?_⟩;refine⟨_,_,rfl, .inl ⟨_,SqL.of h1,rfl⟩,_,_,rfl,rfl,_,rfl,?_⟩;rw[length_map];have cl':decide ((0:Int)<((ZH S n a os).length:Nat))=(al S.bs S.ds (nr S.bs n) || !(ZH S n a os).isEmpty):=cl;rw[<- cl']at q;refine Yj (λ c2=>?_) (λ c2=>?_)
    . have c3:decide ((0:Int)<((ZH S n a os).length:Nat))=true:=c2;rw[c3]at q;exact q H1 s1
    . have c3:decide ((0:Int)<((ZH S n a os).length:Nat))=false:=Bool.eq_false_iff.mpr c2;rw[c3]at q;refine⟨(by show 2<=sizeLine;decide),λ l2 hl2=>?_⟩;have s2:=Zi hl2 (.lst [V.str "failed",V.str "met"]);have s12:=s1.trans s2;refine⟨_,rfl,_,rfl,_,rfl,_,rfl,m,S,R,n,a,o,os,rfl,M.same s12,s12.seq ho,wf,hlen,by omega,λ l3 H3 s3 f3 h3=>?_⟩;refine⟨_,_,rfl, .inl ⟨_,SqL.of h3,rfl⟩,_,_,rfl,rfl, .inr ⟨_,rfl,l2,_,_,_,rfl,rfl,SqL.of (s3 _ _ Ze),Ze9 _,?_⟩⟩;rw[length_map];have sn:=Zh3 (S:=S) (n:=n) (a:=a) (os:=os);have z:=q H3 (s12.trans s3);cases hs:Ye S n a os with
      |true=>
        rw[hs]at z sn;rw[show decide ((0:Int)<((ZbD S n a os).length:Nat))=true from sn.symm];exact z
      |false=>
        rw[hs]at z sn;rw[show decide ((0:Int)<((ZbD S n a os).length:Nat))=false from sn.symm];exact z
theorem Zio {f:Addr}{fd:FuncData}(F:Fun K "_law_whole" "_law_whole" ZbL f fd)(T:Txt K g mg)(QbX:Zg2 P w0 K g mg base)(Qbe:Zg4 P w0 K g mg base)(QbY:Zfp P w0 K g mg base):FnOk P w0 K mg base CX0 5 f fd ["_law_model_here","_law_holder_here","_law_atoms","_law_out_here"] (ZdE K g):=by
  refine F.ok ZdU (λ vs H Q E h=>?_) (λ cdv A outer s H vs Q E hr h=>?_)
  . obtain⟨m,S,R,p,l,o,h,ts,ps,os,rfl,_⟩:=h;rfl
  obtain⟨m,S,R,p,l,o,h,ts,ps,os,rfl,M,hp,oh,A0,ok,tl,ho,wf,hlen,q⟩:=h;refine⟨_,(
(Zc (XW (i:=4) ZdU.nd rfl (Or.inl rfl) (x:="_law_atom_here") (cl:=[("_law_model_here",s.heap.objs.size+1)]) (caps:=[("_law_model_here",0)]) rfl (ZQ (pv 2)) (λ _ _ _ _ _=>JC) (λ _ _ _ _ _=>(Zs Qbe (h_ hr) (Za (pv 1) (Za (pv 0) Zb)))) rfl (by decide +kernel) rfl (by decide +kernel) rfl (λ _ _ h=>h) (Yr rfl) (λ p hp=>by rw[List.mem_singleton.mp hp];exact⟨rfl,rfl,by first|exact .inl rfl|exact .inr rfl⟩) (by decide +kernel))
 (Zc (Zu (Zo Z1 (Zn Zm (pv 1) Zd (λ _ _=>rfl)) Zl (Zr _))
 (Zf (ZD (YJ plainAttrs_list PySem.F.slot_list_append PySem.F.type_list_append YA (pv 4) (Za (Zs Qbe (h_ hr) (Za (pv 0) (Za (Yc (Za Zl (Za (Zn Zm (pv 1) Zd (λ _ _=>rfl)) Zb))) Zb))) Zb))))
 (Zf (ZD (YJ plainAttrs_list PySem.F.slot_list_append PySem.F.type_list_append YA (pv 4) (Za (Zs QbY (h_ hr) (Za (pv 0) (Za (Zn Zm (pv 1) Zd (λ _ _=>rfl)) (Za (Zn Zm (pv 1) Zd (λ _ _=>rfl)) (Za (pv 3) Zb))))) Zb)))))
 (Zf (Zk (Zs QbX (h_ hr) (Za (pv 4) Zb))))))),?_⟩
  unfold ZhZ Zha;refine ZmM (xs:=ps.map V.ref) (λ a H1=>a=l/\H1=H) ?_ ?_ (by rw[length_map,A0.len];omega) (λ _=>true) (λ i => .str ((ts[i]?.map (Atm.stand S)).getD "")) ?_ ?_ ?_
  . exact λ R0 r=>⟨_,rfl,r l H ⟨rfl,rfl⟩⟩
  . rintro a H1 ⟨rfl,rfl⟩;exact SqL.of A0.lst
  . exact λ a H1 i x H2 hA hx s R0 r=>r H2 (Zj.refl _)
  . rintro a H1 i x H2 ⟨rfl,rfl⟩ hx _ s R0 r;obtain⟨p2,t,rfl,ht,hp2⟩:=(A0.same s).at' hx;have okt:=ok t (mem_of_getElem? ht);refine⟨_,rfl,_,rfl,m,S,R,p2,t,rfl,M.same s,hp2,Atm.ok_bad okt,wf,Atm.ok_len okt,λ H3 s3=>?_⟩;have z:=r H3 s3;rw[ht]at z;exact z
  rintro a1 H1 D H2 ⟨rfl,rfl⟩ hD s2 h2;rw[Zkr,length_map,A0.len,Zhs]at h2;have hp2:=s2 _ _ hp;have lS:((ts.map (Atm.stand S)).map V.str).length<sizeLine:=Zz (by rw[length_map,length_map];omega);have M2:=M.same s2;have sl:∀(s:Str)(H3:Hp),SqL K (upd H3 D (.lst ((ts.map (Atm.stand S)).map V.str++[V.str s]))) D ((ts.map (Atm.stand S)++[s]).map V.str):=λ s H3=>SqL.of (by rw[Ze,map_append];rfl);rw[wh_pl]at q;cases h with
  |one n=>
    walk_at "g";intro p3 hp3;have okb:(Atm.born n).ok S:=oh;have s3:=Zi hp3 (.tup (Atm.vals (.born n)));refine⟨m,S,R,p3, .born n,rfl,M2.same s3,Ze,Atm.ok_bad okb,wf,Atm.ok_len okb,λ H4 s4=>?_⟩;have h4:=s4 _ _ (s3 _ _ h2);have s34:=s3.trans s4;have sl4:=sl ((Atm.born n).stand S) H4;walk_at "g";rw[show plS S (.one n) ts os=ts.map (Atm.stand S)++[(Atm.born n).stand S] from by unfold plS;rw[append_nil];show(ts++[_]).map _=_;rw[map_append];rfl]at q;exact q _ (Z0 (s2.trans s34) hD)
  |kids n a=>
    obtain⟨on,h0,h1⟩:=oh;have ho2:SqL K H2 o (os.map V.str):=SqL.of (s2 _ _ ho);walk_at "g";intro H4 s4;have h4:=s4 _ _ h2;have sl4:=sl (clS S n a os) H4;walk_at "g";exact q _ (Z0 (s2.trans s4) hD)
theorem Zke {f:Addr}{fd:FuncData}(F:Fun K "_law_out" "_law_out" Zer f fd)(T:Txt K g mg)(Qak:JK P w0 K g mg base):FnOk P w0 K mg base CX0 2 f fd ["_law_model_here","_law_holder_here"] (ZfV K g):=by
  refine F.ok Zj7 (λ vs H Q E h=>?_) (λ cdv A outer s H vs Q E hr h=>?_)
  . obtain⟨m,S,R,p,h,rfl,_⟩:=h;rfl
  obtain⟨m,S,R,p,h,rfl,M,hp,oh,wf,hlen,q⟩:=h;refine⟨_,(
(Zc (Zu (Zo Z1 (Zn Zm (pv 1) Zd (λ _ _=>rfl)) Zl (Zr _))
 (Zf (Zk (Z6 Zb)))
 Zp)
 (Zf (Zk (Je (x:="_law_child") (cl:=[("_law_model_here",s.heap.objs.size+1)]) (caps:=[("_law_model_here",0)]) rfl (ZQ (Zs Qak (h_ hr) (Za (pv 0) (Za (Zn Zm (pv 1) Zd (λ _ _=>rfl)) Zb)))) (λ _ _ _ _ _=>Yg (YM (XM (ZP hr) (pv 0) (Zn (show IxR _ (Zex K) from Zm) (pv 1) Zd (λ _ _=>rfl))))) (λ _ _ _ _ _=>(pv 0)) rfl (by decide +kernel) rfl (by decide +kernel) rfl (λ _ _ h=>h) (Yr rfl) (λ p hp=>by rw[List.mem_singleton.mp hp];exact⟨rfl,rfl,by first|exact .inl rfl|exact .inr rfl⟩) (by decide +kernel)))))),?_⟩
  cases h with
  |one n=>
    walk_at "g";exact λ l hl=>q l _ (Zi hl _) hl Ze
  |kids n a=>
    obtain⟨on,h0,h1⟩:=oh;refine⟨_,rfl,p,_,_,_,rfl,rfl,SqT.of hp,rfl,rfl,_,rfl,?_⟩;rw[Xg,decide_eq_false (by decide +kernel)];refine Z3 ?_;unfold ZkH;dsimp only;unfold ZfR;refine lcS (ss:=Yd S n) (λ l1 H1=>Zj H H1/\H1 l1=some (.lst ((Yd S n).map V.str))/\H l1=none) (λ c=>has S.ds c) V.str ?_ (λ a H1 h=>SqL.of h.2.1) (by have:=JG wf n;omega) ?_ ?_ ?_
    . intro R0 r;walk_at "g";exact⟨by have:=Yx on.1;omega,by have:=wf.few n;omega,λ l H' s f h=>r l H' ⟨s,by rw[h,ZmS];rfl,f⟩⟩
    . rintro a0 H1 x H2 ⟨s1,h1,_⟩ hx s R0 r;obtain⟨c,e1,e2,e3,B⟩:=(M.same (s1.trans s)).tup_of;refine⟨_,rfl,_,rfl,m,_,_,_,rfl,rfl,SqT.of B.tup,rfl,e2,_,rfl,ZY.k (k:=Sum.inr x) B.h2,_,rfl,?_⟩;rw[Zy];exact r H2 (Zj.refl _)
    . exact λ a H1 x H2 _ hx _ s R0 r=>⟨_,rfl,r H2 (Zj.refl _)⟩
    . rintro a0 H1 D H2 ⟨s1,h1,_⟩ hD s h;exact q D H2 (s1.trans s) (s1.free hD) h
theorem Zhh {f:Addr}{fd:FuncData}(F:Fun K "_law_holder" "_law_holder" YL f fd)(T:Txt K g mg)(Qa3:Zdr P w0 K g mg base)(QaE:ZaU P w0 K g mg base):FnOk P w0 K mg base CX0 2 f fd ["_law_model_here","_law_n"] (ZcG K g):=by
  refine F.ok XS (λ vs H Q E h=>?_) (λ cdv A outer s H vs Q E hr h=>?_)
  . obtain⟨m,S,R,n,rfl,_⟩:=h;rfl
  obtain⟨m,S,R,n,rfl,M,wf,hlen,RT,q⟩:=h;have ifb:PSs (Xo CX0 P w0 K mg base ["_law_model_here","_law_n","_law_name","_law_near_here"] "_law_holder" (Zg YL) f cdv A outer s H E).nox (Zk2 ((Yf YL).getD 3 (.Pass ⟨0,0,0,0⟩))) (λ D σ H1=>∃(x y:Str),σ=[some (.ref m),some (.int n),some (.str x),some (.str y)]/\Zj H H1/\okN S x/\JF S x/\Yl x<5/\D.rt=Q):=by
    refine @XC _ _ _ _ ((Zf (Zk (Yc (Za Zl (Za (pv 2) (Za (Zn ZG (Z6 (Za (Zq ZL (Zq ZZ (pv 1) Zd) Zd) (Za (Zq ZL (Zq ZZ (pv 1) Zd) Zd) Zb))) (Zq ZL (Zq ZZ (pv 1) Zd) Zd) (λ _ _=>rfl)) Zb))))))) ?_;rintro D σ H1 ⟨x,y,rfl,s1,ox,ox3,ox5,hq⟩;have b0:=emod_nonneg (n / 5) (show(37:Int)≠0 by decide);have b1:=emod_lt_of_pos (n / 5) (show(0:Int)<37 by decide);have b2:=emod_nonneg (n / 5) (show(121:Int)≠0 by decide);have b3:=emod_lt_of_pos (n / 5) (show(0:Int)<121 by decide);walk_at "g";intro l2 hl2;obtain⟨v,hv,hv'⟩:=Zii (a:=V.int (n / 5 % 37)) (b:=V.int (n / 5 % 121)) (n / 605);obtain⟨k,rfl,k0,k1⟩:∃ k:Int,v = .int k/\0<=k/\k<=120:=by rcases hv' with e|e;exact⟨_,e,b0,by omega⟩;exact⟨_,e,b2,by omega⟩
    have s2:=Zi hl2 (.lst [V.int (n / 5 % 37), .int (n / 5 % 121)]);walk_at "g";intro p3 hp3;rw[hq];exact q (.kids x k) p3 _ ((s1.trans s2).trans (Zi hp3 _)) ((s1.trans s2).free hp3) Ze ⟨⟨ox,k0,k1⟩,ox3.near8,λ _ _ e=>by cases e;exact ox5⟩
  have rest4:PSs (Xo CX0 P w0 K mg base ["_law_model_here","_law_n","_law_name","_law_near_here"] "_law_holder" (Zg YL) f cdv A outer s H E).nox ((Yf YL).drop 4) (λ D σ H1=>∃(x y:Str),σ=[some (.ref m),some (.int n),some (.str x),some (.str y)]/\Zj H H1/\okN S x/\JF S x/\D.rt=Q):=by
    refine @XC _ _ _ _ ((Zc (Zu (YM (XM (ZP hr) (pv 3) (Zn Zm (pv 0) Zd (λ _ _=>rfl))))
 (Zf (Zk (Yc (Za Zl (Za (Zn ZG (YJ plainAttrs_str PySem.F.slot_str_split PySem.F.type_str_split ZjI (pv 2) (Za Zl Zb)) Zd (λ _ _=>rfl)) (Za (Zq ZL (pv 1) Zd) Zb))))))
 Zp)
 (Zf (Zk (Yc (Za Zl (Za (pv 2) Zb))))))) ?_
    rintro D σ H1 ⟨x,y,rfl,s1,ox,ox3,hq⟩;have M1:=M.same s1;obtain⟨c,e1,e2,e3,B⟩:=M1.tup_of;have xl:=Yx ox.1;have b0:=emod_nonneg n (show(37:Int)≠0 by decide);have b1:=emod_lt_of_pos n (show(0:Int)<37 by decide);refine⟨_,rfl,_,rfl,m,_,_,_,rfl,rfl,SqT.of B.tup,rfl,e2,_,rfl,ZY.k (k:=Sum.inr y) B.h2,_,rfl,?_⟩;rw[Zy];cases hd:has S.ds y with
    |true=>
      refine Yy ?_;have h2:(Builtin.Str.partsBetween x (Builtin.Str.occurrences x dot 0 x.length (x.length+1)) dot.length).length<=sizeLine:=by
        rw[PyProof.Rows.len_partsBetween];have:=StrLaws.occ_length_le x dot 0 x.length (x.length+1);exact ZB (by omega)
      refine⟨_,rfl,rfl,x,dot,rfl,rfl,by decide +kernel,ZB (by omega),h2,λ l2 hl2=>?_⟩;have s2:=Zi hl2 (.lst ((pcs x).map V.str));have e0:(pcs x).map V.str=V.str (wd x)::(nms x).map V.str:=by rw[Xy];rfl
      refine⟨l2,(pcs x).map V.str,_,V.str (wd x),rfl,rfl,SqL.of Ze,by rw[e0];exact JY (j:=0) rfl,?_⟩;walk_at "g";intro p3 hp3;rw[hq];exact q (.kids (wd x) (n % 37)) p3 _ ((s1.trans s2).trans (Zi hp3 _)) ((s1.trans s2).free hp3) Ze ⟨⟨ZmA wf ox,b0,by omega⟩,λ e=>absurd (ZgJ (Zj0 wf _ _ (le_refl _) ox.1 ox.2).1 e) (ZmA wf ox).2,λ _ _ e=>by cases e;rw[Zn0 (Zj0 wf _ _ (le_refl _) ox.1 ox.2).1];decide⟩
    |false=>
      refine Z3 ?_;walk_at "g";intro p3 hp3;rw[hq];exact q (.one x) p3 _ (s1.trans (Zi hp3 _)) (s1.free hp3) Ze ⟨ox,ox3.near8,λ _ _ e=>by cases e⟩
  refine⟨_,(Zc (Zt (i:=2) XS.nd rfl (Or.inl rfl) (Zs Qa3 (h_ hr) (Za (pv 0) (Za (Zq ZZ (pv 1) Zd) Zb))))
 (Zc (Zt (i:=3) XS.nd rfl (Or.inl rfl) (Zs QaE (h_ hr) (Za (pv 0) (Za (pv 2) Zb))))
 (Zc (Zu (YM (XM (ZP hr) (pv 3) (Zn Zm (pv 0) Zd (λ _ _=>rfl))))
 (Zf (Zt (i:=2) XS.nd rfl (Or.inl rfl) (pv 3)))
 Zp)
 (Zc (Zu (PW.pt (XL (Zo Zax (YJ plainAttrs_str slot_str_count type_str_count XX (pv 2) (Za Zl Zb)) Zd (Zr _)) (Xh (PW.pt (Jd (YM (XM (ZP hr) (pv 3) (Zn Zm (pv 0) Zd (λ _ _=>rfl)))) (Xm (Zo Zax (Zq ZL (pv 1) Zd) Zd (Zr _))))))))
 @ifb
 Zp)
 @rest4)))),?_⟩
  walk_at "g";intro z H1 s1 pz nz z3;have M1:=M.same s1;have zl:=Yx pz;have zl2:z.length<=200:=by omega
  have oz:okN S z:=⟨pz,nz⟩;have y3:JF S (nr S.bs z):=JF.known (Zcm ⟨pz,nz⟩);have oy:okN S (nr S.bs z):=ZiG wf ((ZjE S.bs z).resolve_left nz);refine⟨_,rfl,_,rfl,m,S,R,z,rfl,M1,zl2,?_⟩;obtain⟨c,e1,e2,e3,B⟩:=M1.tup_of;refine⟨_,rfl,_,rfl,m,_,_,_,rfl,rfl,SqT.of B.tup,rfl,e2,_,rfl,ZY.k (k:=Sum.inr (nr S.bs z)) B.h2,_,rfl,?_⟩;rw[Zy];cases hd:has S.ds (nr S.bs z) with
  |true=>
    refine Yy ?_;refine⟨_,rfl,_,rfl,rfl,_,dot,rfl,rfl,_,_,rfl,rfl,_,rfl,Yj (λ c1=>?_) (λ c1=>?_)⟩
    . refine⟨_,rfl,_,rfl,m,_,_,_,rfl,rfl,SqT.of B.tup,rfl,e2,_,rfl,ZY.k (k:=Sum.inr (nr S.bs z)) B.h2,_,rfl,?_⟩;rw[Zy,hd];exact Yy (Yy ⟨_,_,rfl,s1,oy,y3,(by have w:=of_decide_eq_true c1;unfold Yl;omega),rfl⟩)
    . exact Z3 ⟨_,_,rfl,s1,oy,y3,rfl⟩
  |false=>
    refine Z3 ?_;refine⟨_,rfl,rfl,_,dot,rfl,rfl,_,_,rfl,rfl,_,rfl,Yj (λ c1=>?_) (λ c1=>?_)⟩
    . refine⟨_,rfl,_,rfl,m,_,_,_,rfl,rfl,SqT.of B.tup,rfl,e2,_,rfl,ZY.k (k:=Sum.inr (nr S.bs z)) B.h2,_,rfl,?_⟩;rw[Zy,hd];refine Z3 ?_;refine⟨_,rfl,_,_,rfl,rfl,(by show(0:Int)<5;decide),_,_,rfl,rfl,_,rfl,Yj (λ c2=>?_) (λ c2=>?_)⟩
      . exact⟨_,_,rfl,s1,oz,z3,(by have w:=of_decide_eq_true c1;unfold Yl;omega),rfl⟩
      . exact⟨_,_,rfl,s1,oz,z3,rfl⟩
    . exact Z3 ⟨_,_,rfl,s1,oz,z3,rfl⟩
theorem Zd4 {f:Addr}{fd:FuncData}(F:Fun K "_law_judged_row" "_law_judged_row" XG f fd)(T:Txt K g mg)(QbZ:Zfn P w0 K g mg base)(Qb0:Zeg P w0 K g mg base):FnOk P w0 K mg base CX0 4 f fd ["_law_model_here","_law_n"] (JN K g):=by
  refine F.ok JT (λ vs H Q E h=>?_) (λ cdv A outer s H vs Q E hr h=>?_)
  . obtain⟨m,S,R,n,rfl,_⟩:=h;rfl
  obtain⟨m,S,R,n,rfl,M,wf,hlen,RT,q⟩:=h;refine⟨_,(
(Zc (Zt (i:=2) JT.nd rfl (Or.inl rfl) (Zs QbZ (h_ hr) (Za (pv 0) (Za (Zq ZZ (pv 1) Zd) (Za (Zn ZG (Z6 (Za Zd (Za Zd (Za Zd Zb)))) (Zq ZL (Zq ZZ (pv 1) Zd) Zd) (λ _ _=>rfl)) Zb)))))
 (Zf (Zk (Yc (Za (Zs Qb0 (h_ hr) (Za (pv 0) (Za (Zq ZZ (pv 1) Zd) Zb))) (Za (Je (x:="_law_atom_here") (cl:=[("_law_n",s.heap.objs.size+1)]) (caps:=[("_law_n",1)]) rfl (ZQ (pv 2)) (λ _ _ _ _ _=>Yg (PW.pt (Jd (Zo ZcJ (Zn (show IxR _ (Zex K) from Zm) (pv 0) Zd (λ _ _=>rfl)) Zl (Zr _)) (Xm (Zo Z1 (Zq ZL (pv 1) Zd) Zd (Zr _)))))) (λ _ _ _ _ _=>(pv 0)) rfl (by decide +kernel) rfl (by decide +kernel) rfl (λ _ _ h=>h) (Yr rfl) (λ p hp=>by rw[List.mem_singleton.mp hp];exact⟨rfl,rfl,by first|exact .inl rfl|exact .inr rfl⟩) (by decide +kernel)) Zb))))))),?_⟩
  walk_at "g";intro l1 hl1;have s1:=Zi hl1 (.lst [V.int 4, .int 4, .int 6]);obtain⟨v,hv⟩:=Zky (xs:=[V.int 4, .int 4, .int 6]) (emod_nonneg (n / 7) (show(3:Int)≠0 by decide)) (emod_lt_of_pos (n / 7) (show(0:Int)<3 by decide));obtain⟨k,rfl,k0,k6⟩:∃ k:Int,v = .int k/\0<=k/\k<=6:=by
    unfold atI at hv;obtain⟨j,_,e⟩:=Option.bind_eq_some_iff.mp hv;have hm:=mem_of_getElem? e;simp only[mem_cons,List.mem_nil_iff,or_false]at hm;rcases hm with e|e|e <;> exact⟨_,e,by decide,by decide⟩
  have M1:=M.same s1;have k100:k<=100:=by omega
  walk_at "g";intro l2 ts ps H2 s2 fl2 A2 ok2 hl2;have M2:=M1.same s2;refine⟨_,rfl,_,rfl,_,_,rfl,rfl,⟨by decide,by decide⟩,m,S,R,_,rfl,M2,wf,hlen,RT,λ h p H3 s3 f3 h3 oh=>?_⟩;unfold Zi3;have A3:=A2.same s3;have tl:ts.length<=6:=by omega
  refine lcLT (xs:=ps.map V.ref) (λ a H1=>a=l2/\H1=H3) ?_ ?_ (by rw[length_map,A3.len];omega) (λ i=>match ts[i]? with|some (.comes _)=>decide (n % 3=0)|_=>true) (λ _ _ _ v H2=>∃ p t,v=V.ref p/\H2 p=some (.tup (Atm.vals t))/\t.ok8 S/\True) ?_ ?_ ?_ ?_
  . exact λ R0 r=>⟨_,rfl,r l2 H3 ⟨rfl,rfl⟩⟩
  . rintro a H1 ⟨rfl,rfl⟩;exact SqL.of A3.lst
  . rintro a H1 i v H H' D ys hD kk ⟨p,t,rfl,hp,o,_⟩;exact⟨p,t,rfl,kk.1 _ _ (λ z=>by rw[List.mem_singleton.mp z,hD]at hp;cases hp) hp,o,trivial⟩
  . rintro a H1 i x H4 ⟨rfl,rfl⟩ hx s R0 r;obtain⟨p2,t,rfl,ht,hp2⟩:=(A3.same s).at' hx;rw[ht]at r;cases t with
    |comes c=>
      walk_at "g";have z:=r H4 (Zj.refl _);rw[show decide (n % 3=0)=decide (V.int (n % 3)=V.int 0) from(ZfH _ _).symm]at z;exact z
    |born c=>
      walk_at "g";exact ZkY (by decide +kernel) (r H4 (Zj.refl _))
    |dead c=>
      walk_at "g";exact ZkY (by decide +kernel) (r H4 (Zj.refl _))
    |year c=>
      walk_at "g";exact ZkY (by decide +kernel) (r H4 (Zj.refl _))
    |age c b=>
      walk_at "g";exact ZkY (by decide +kernel) (r H4 (Zj.refl _))
  . rintro a H1 i x H4 ⟨rfl,rfl⟩ hx hf s R0 r;obtain⟨p2,t,rfl,ht,hp2⟩:=(A3.same s).at' hx;exact⟨_,rfl,r _ H4 (Zj.refl _) ⟨p2,t,rfl,hp2,ok2 t (mem_of_getElem? ht),trivial⟩⟩
  rintro a1 H1 D ys H4 ⟨rfl,rfl⟩ hD s4 h4 hpd;obtain⟨ts',ps',A4,ok4,_,hl4⟩:=Zlc (fr:=λ _=>True) h4 hpd;have tl4:ts'.length<=6:=by
    have z:=length_filter_le (λ i=>match ts[i]? with|some (.comes _)=>decide (n % 3=0)|_=>true) (List.range (ps.map V.ref).length);rw[length_range,length_map,A3.len]at z;have e:ts'.length=(List.filter (λ i=>match ts[i]? with|some (.comes _)=>decide (n % 3=0)|_=>true) (List.range (ps.map V.ref).length)).length:=hl4;rw[length_map,A3.len]at e;omega
  walk_at "g";intro r hr;have sr:=Zi hr (.tup [V.ref p,V.ref D]);exact q h ts' ps' r p D _ (((((s1.trans s2).trans s3).trans s4)).trans sr) Ze (sr _ _ (s4 _ _ h3)) oh (A4.same sr) ok4 tl4 (s1.free (s2.free (s3.free hD)))
theorem Zjz {f:Addr}{fd:FuncData}(F:Fun K "_law_good" "_law_good" Zc8 f fd)(T:Txt K g mg)(Qb1:ZhM P w0 K g mg base):FnOk P w0 K mg base CX0 2 f fd ["_law_model_here","_law_deed"] (ZeZ K g):=by
  refine F.ok Zje (λ vs H Q E h=>?_) (λ cdv A outer s H vs Q E hr h=>?_)
  . obtain⟨m,S,R,p,d,rfl,_⟩:=h;rfl
  obtain⟨m,S,R,p,d,rfl,M,hp,hg,hd,wf,q⟩:=h;refine⟨_,(
(Zc (Zu (PW.pt (Jd (Y7 (ZS (Zx Zcg rfl T.z_isinstance PyProof.Rows.boot_isinstance (Za (pv 1) (Za (Zd2 (v:=V.ty "tuple") rfl T.z_tuple PyProof.Rows.boot_tuple rfl) Zb))))) (Xm (Zo ZcJ (Zx ZO rfl T.z_len boot_len (Za (pv 1) Zb)) Zd (Zr _)))))
 (Zf (Zk Xx))
 Zp)
 (Zc (Zu (Zo Z1 (Zn Zm (pv 1) Zd (λ _ _=>rfl)) Zl (Zr _))
 (Zf (Zk (X8 (Zs Qb1 (h_ hr) (Za (Zn Zm (pv 1) Zd (λ _ _=>rfl)) Zb)) (X8 (YE Zhy Zd (Zn Zm (pv 1) Zd (λ _ _=>rfl)) (Zr _)) (JD (YE Zhy (Zn Zm (pv 1) Zd (λ _ _=>rfl)) Zd (Zr _)))))))
 Zp)
 (Zc (Zu (PW.pt (XL (Zo ZcJ (Zn Zm (pv 1) Zd (λ _ _=>rfl)) Zl (Zr _)) (Xh (Zo ZcJ (Zn Zm (pv 1) Zd (λ _ _=>rfl)) Zl (Zr _)))))
 (Zf (Zk Xx))
 Zp)
 (Zc (Zu (PW.pt (Jd (Y7 (ZS (Zx Zcg rfl T.z_isinstance PyProof.Rows.boot_isinstance (Za (Zn Zm (pv 1) Zd (λ _ _=>rfl)) (Za (Zd2 (v:=V.ty "str") rfl T.z_str boot_str rfl) Zb))))) (Jd (YM (Yt (ZP hr) (Zn Zm (pv 1) Zd (λ _ _=>rfl)) (Zn Zm (pv 0) Zd (λ _ _=>rfl)))) (Xm (YM (XM (ZP hr) (Zn Zm (pv 1) Zd (λ _ _=>rfl)) (Zn Zm (pv 0) Zd (λ _ _=>rfl))))))))
 (Zf (Zk Xx))
 Zp)
 (Zf (Zk (pe_or (YE Z1 (Zn Zm (pv 1) Zd (λ _ _=>rfl)) Zl (Zr _)) (JD (YE Zax (YJ plainAttrs_str slot_str_count type_str_count XX (Zn Zm (pv 1) Zd (λ _ _=>rfl)) (Za Zl Zb)) Zd (Zr _))))))))))),?_⟩
  obtain⟨c,e1,e2,e3,B⟩:=M.tup_of;have htup:=B.tup;have hpT:=SqT.of (K:=K) hp;walk_at "g";refine⟨.tup hp,kit_tt,_,rfl,?_⟩;refine Z3 ?_;dsimp only;walk_at "g";refine⟨.inr ⟨_,hpT,rfl⟩,?_⟩;rcases hd with ⟨k,rfl,k1,k2⟩|⟨n,rfl⟩|⟨n,rfl⟩
  . walk_at "g";rw[decide_eq_true k1];refine Yy ?_;walk_at "g";show Q (.bl (decide (k<=60))) H;rw[decide_eq_true k2];exact q
  . have g1:ZY H e1 (.str n) _:=ZY.k (k:=Sum.inr n) B.h1;have g2:ZY H e2 (.str n) _:=ZY.k (k:=Sum.inr n) B.h2;have nl:=Yx (wf.wrt n hg.1);walk_at "g";refine⟨.str _,ZmQ,_,rfl,?_⟩;refine Z3 ?_;dsimp only;walk_at "g";rw[Zy,hg.1];refine Z3 ?_;walk_at "g";rw[Zy,hg.2.1];refine Z3 ?_;walk_at "g";show Q (.bl (decide ((Yl n:Int)<5))) H;rw[decide_eq_true (by have:=hg.2.2;omega)];exact q
  . have g1:ZY H e1 (.str n) _:=ZY.k (k:=Sum.inr n) B.h1;have g2:ZY H e2 (.str n) _:=ZY.k (k:=Sum.inr n) B.h2;walk_at "g";refine⟨.str _,ZmQ,_,rfl,?_⟩;refine Z3 ?_;dsimp only;walk_at "g";rw[Zy,hg.1];refine Z3 ?_;walk_at "g";rw[Zy,hg.2];refine Z3 ?_;walk_at "g";exact q
theorem Ziu {f:Addr}{fd:FuncData}(F:Fun K "_law_again" "_law_again" ZbR f fd)(T:Txt K g mg)(Qa5:Zb6 P w0 K g mg base)(Qa6:Zg3 P w0 K g mg base)(Qar:ZaT P w0 K g mg base)(Qb2:ZjM P w0 K g mg base):FnOk P w0 K mg base CX0 7 f fd ["_law_year","_law_deeds"] (ZdK K g):=by
  refine F.ok Ji (λ vs H Q E h=>?_) (λ cdv A outer s H vs Q E hr h=>?_)
  . obtain⟨y,l,ds,ps,rfl,_⟩:=h;rfl
  obtain⟨y,l,ds,ps,rfl,DD,y0,y1,SQ,dl,q⟩:=h;refine⟨_,(
(Zc (Zt (i:=2) Ji.nd rfl (Or.inl rfl) (Zs Qa5 (h_ hr) (Za (pv 0) Zb)))
 (Zc (Zt (i:=3) Ji.nd rfl (Or.inl rfl) (pe_mk Xa Qb2 (h_ hr) rfl (Za (pv 0) Zb)))
 (Zc (Xv PassesOwn.never rfl (ZQ (pv 1)) (ZM (i:=4) Ji.nd rfl (Or.inl rfl))
 (Zc (ZD (Zs Qa6 (h_ hr) (Za (pv 3) (Za (pv 4) Zb))))
 (Zf (ZD (Zs Qar (h_ hr) (Za (pv 2) (Za (pv 4) Zb)))))))
 (Zf (Zk (Yc (Za (pv 3) (Za (pv 2) Zb))))))))),?_⟩
  walk_at "g";intro m RM H1 s1 fM M;walk_at "g";intro w dxl nb ndx nex;refine⟨w,dxl,_,rfl,Ze,(λ e=>absurd ⟨y0,y1⟩ e),λ _ R0 H2 kp fr W=>⟨rfl,?_⟩⟩;have s12:=made nb ndx kp;have fR:∀ x∈R0,H1 x=none:=λ x hx=>(fr x hx).elim (λ e=>by rw[e];exact nb) ZhA;have s02:=s1.trans s12;have dMR:Dj RM R0:=M.live.dj fR;have pl:ps.length=ds.length:=DD.len;refine⟨_,rfl,l,rfl,⟨_,SqL.of (s02 _ _ DD.lst)⟩,JJ (xs:=ps.map V.ref) (λ i σ H8=>∃(R:List Addr)(v4:Option V),σ=[some (.int y),some (.ref l),some (.ref m),some (.ref w),v4]/\Zj H H8/\(∀ x∈R,H x=none)/\WorldAt g H8 w (Zv (mo0 y) (ds.take i)) R/\Ys H8 m (Zv (mo0 y) (ds.take i)) RM/\Dj RM R/\(Zv (mo0 y) (ds.take i)).Ok i/\Dated (Zv (mo0 y) (ds.take i))) ⟨R0,_,rfl,s02,(λ x hx=>s1.free (fR x hx)),W,M.same s12,dMR,Mo.Ok.zero _,Dated.zero _⟩ ?_ ?_ ?_⟩
  . rintro i σ H8 _ ⟨R,v4,rfl,s8,fr8,W8,M8,dj8,O8,DT8⟩;exact SqL.of (s8 _ _ DD.lst)
  . rintro i x σ H8 hx ⟨R,v4,rfl,s8,fr8,W8,M8,dj8,O8,DT8⟩;obtain⟨p,d,rfl,hd,hp⟩:=(DD.same s8).onR hx;have hi:=(List.getElem?_eq_some_iff.mp hd).1;have hg:=SQ.at_ hd;rw[Zcl hd];generalize Zv (mo0 y) (ds.take i)=S at W8 M8 O8 DT8 hg ⊢;refine⟨_,rfl,_,rfl,w,S,R,p,d,60,i,rfl,W8,hp,O8,by omega,hg,by decide,λ v R1 H10 k10 gr W10=>?_⟩;have hp10:=k10.1 p _ (W8.no_tup hp) hp;have M10:=M8.keep k10 dj8;refine⟨_,rfl,_,rfl,m,S,RM,p,d,60,i,rfl,M10,hp10,O8,by omega,hg,λ H11 k11 M11=>?_⟩;have dj9:Dj RM R1:=dj8.grow M8.live gr;exact⟨R1,_,rfl,(s8.keep k10 fr8).keep k11 fM,(λ x hx=>(gr x hx).elim (fr8 x) λ z=>s8.free z),W10.keep k11 dj9.symm,M11,dj9,O8.step hg (by omega),DT8.step hg⟩
  . rintro σ H8 ⟨R,v4,rfl,s8,fr8,W8,M8,dj8,O8,DT8⟩;rw[length_map,pl,take_length]at W8 M8 O8 DT8;walk_at "g";intro p hp;have sp:=Zi hp (.tup [V.ref w,V.ref m]);exact q p w m R RM _ (s8.trans sp) fr8 fM (W8.same sp) (M8.same sp) dj8 Ze O8 DT8
theorem Zis {f:Addr}{fd:FuncData}(F:Fun K "_law_hangs" "_law_hangs" ZbP f fd)(T:Txt K g mg)(Qa7:Zb7 P w0 K g mg base)(Qao:Jk P w0 K g mg base)(Qa6:Zg3 P w0 K g mg base)(Qar:ZaT P w0 K g mg base)(Qb3:Zg1 P w0 K g mg base)(Qa1:JM P w0 K g mg base)(Qb4:Zfl P w0 K g mg base):FnOk P w0 K mg base CX0 8 f fd ["_law_year","_law_deeds","_law_holder_here","_law_atoms","_law_out_here","_law_term","_law_told"] (ZdI K g):=by
  refine F.ok Yq (λ vs H Q E h=>?_) (λ cdv A outer s H vs Q E hr h=>?_)
  . obtain⟨y,ld,ds,pd,p,l,o,h,ts,ps,tm,lt,pt,F,rfl,_⟩:=h;rfl
  obtain⟨y,ld,ds,pd,p,l,o,h,ts,ps,tm,lt,pt,F,rfl,DD,y0,y1,SQ,dl,hp,A,oh,ok,tl,ho,tm0,tm60,DT,hF,hl,hw,q⟩:=h;refine⟨_,(
(Zc (Zde (Zs Qa7 (h_ hr) (Za (pv 0) (Za (pv 1) Zb))) (Zez rfl (Yp (ZM (i:=7) Yq.nd rfl (Or.inl rfl)) (Yp (ZM (i:=8) Yq.nd rfl (Or.inl rfl)) ZaM))))
 (Zc (Zt (i:=9) Yq.nd rfl (Or.inl rfl) (Zn ZG (Zn Zm (pv 8) Zd (λ _ _=>rfl)) Zd (λ _ _=>rfl)))
 (Zc (Zt (i:=10) Yq.nd rfl (Or.inl rfl) (Zs Qao (h_ hr) (Za (pv 8) Zb)))
 (Zc (Zu (PW.pt (Jd (Y7 (ZS (Zx Zcg rfl T.z_isinstance PyProof.Rows.boot_isinstance (Za (pv 6) (Za (Zd2 (v:=V.ty "list") rfl T.z_list boot_list rfl) Zb))))) (Xm (Zo Zay (Zx ZO rfl T.z_len boot_len (Za (pv 6) Zb)) Zd (Zr _)))))
 (Zf (Zk Xx))
 Zp)
 (Zc (Xv PassesOwn.never rfl (ZQ (pv 6)) (ZM (i:=11) Yq.nd rfl (Or.inl rfl))
 (Zc (Zu (Y7 (ZS (Zs Qb3 (h_ hr) (Za (pv 8) (Za (pv 11) Zb)))))
 (Zf (Zk Xx))
 Zp)
 (Zc (ZD (Zs Qa6 (h_ hr) (Za (pv 7) (Za (pv 11) Zb))))
 (Zf (ZD (Zs Qar (h_ hr) (Za (pv 8) (Za (pv 11) Zb))))))))
 (Zc (Zt (i:=12) Yq.nd rfl (Or.inl rfl) (pv 9))
 (Zc (Xv PassesOwn.never rfl (ZQ (pv 10)) (ZM (i:=13) Yq.nd rfl (Or.inl rfl))
 (Zc (Zu (YM (Yt (ZP hr) (pv 13) (Zn Zm (pv 8) Zd (λ _ _=>rfl))))
 (Zf (Zk Xx))
 Zp)
 (Zf (Zt (i:=12) Yq.nd rfl (Or.inl rfl) (Zx (Zcv rfl) rfl T.z_max boot_max (Za (pv 12) (Za (JU (ZP hr) (Zn Zm (pv 8) Zd (λ _ _=>rfl)) (pv 13) (λ _ _=>rfl)) Zb)))))))
 (Zc (Zu (PW.pt (Jd (Zo ZcJ (Zw (pv 7) rfl) (Zn ZG (Zn Zm (pv 8) Zd (λ _ _=>rfl)) Zd (λ _ _=>rfl)) (Zr _)) (Xm (Zo (op_neD hr.units) (Zmq YU Qa1 (h_ hr) (Zw (pv 7) rfl)) (Zs Qao (h_ hr) (Za (pv 8) Zb)) (Zr _)))))
 (Zf (Zk Xx))
 Zp)
 (Zf (Zk (X8 (YE Zd3 (Zn ZG (Zn Zm (pv 8) Zd (λ _ _=>rfl)) Zd (λ _ _=>rfl)) (Zq Z8 (pv 12) (pv 5)) (Zr _)) (JD (YE Z1 (Zs Qb4 (h_ hr) (Za (pv 8) (Za (pv 2) (Za (pv 3) (Za (pv 4) Zb))))) Zl (Zr _))))))))))))))),?_⟩
  walk_at "g";refine⟨by omega,λ p1 w m R RM H1 s1 fR fM W1 M1 dj1 hp1 O1 D1=>?_⟩;generalize Zv (mo0 y) ds=S at oh ok ho DT hF hl hw W1 M1 O1 D1;obtain⟨GO,EN,HW⟩:=Zko (O1.up dl) D1 tm0 (by omega) tl oh.1 (λ t ht=>(ok t ht).1) hF hw hl (fit8 oh ok);have SK:=sto_ok (S:=S) (h:=h) (ts:=ts) (F:=F) (tm:=tm);have lb1:=O1.lb;have SL:=Znx D1 O1.wf (by omega) oh.1 (λ t ht=>(ok t ht).1) (by omega) (by omega) (tm:=tm) hF;have SF:=ZfL D1 oh.1 (λ t ht=>(ok t ht).1) O1.wf hF;have sub:∀ n,has S.bs n=true->PyData.strOk n=true:=λ n hn=>O1.wf.ok hn;generalize Zbi S h ts F tm=st at DT GO EN HW SK SL;have hp1T:=SqT.of (K:=K) hp1;obtain⟨c,e1,e2,e3,B⟩:=M1.tup_of;have htup:=B.tup;have hclk:=SqL.of (K:=K) B.clk;walk_at "g";refine⟨by omega,?_⟩;intro lv H2 s2 flv hlv;walk_at "g";refine⟨.lst (s2 _ _ (s1 _ _ DT.lst)),kit_ll,_,rfl,?_⟩;refine Z3 ?_;dsimp only;have hlt2:=s2 _ _ (s1 _ _ DT.lst);walk_at "g";rw[length_map,DT.len,decide_eq_false (by omega)];refine Z3 ?_;walk_at "g";have lvR:lv∉R:=λ z=>by obtain⟨o,e⟩:=W1.live lv z;rw[flv]at e;cases e
  have lvM:lv∉RM:=λ z=>by obtain⟨o,e⟩:=M1.live lv z;rw[flv]at e;cases e
  refine JJ (xs:=pt.map V.ref) (λ i σ H8=>∃(R:List Addr)(v11:Option V),σ=[some (.int y),some (.ref ld),some (.ref p),some (.ref l),some (.ref o),some (.int tm),some (.ref lt),some (.ref w),some (.ref m),some (.int S.y),some (.ref lv),v11,none,none]/\Zj H H8/\(∀ x∈R,H x=none)/\WorldAt g H8 w (Zv S (st.take i)) R/\Ys H8 m (Zv S (st.take i)) RM/\Dj RM R/\H8 lv=some (.lst (Zb2 S.bs S.ds))/\lv∉R) ⟨R,_,rfl,s1.trans s2,fR,W1.same s2,M1.same s2,dj1,hlv,lvR⟩ ?_ ?_ ?_
  . rintro i σ H8 _ ⟨R,v4,rfl,s8,fr8,W8,M8,dj8,hv8,nv8⟩;exact SqL.of (s8 _ _ DT.lst)
  . rintro i x σ H8 hx ⟨R,v4,rfl,s8,fr8,W8,M8,dj8,hv8,nv8⟩;obtain⟨p9,d,rfl,hd,hp9⟩:=(DT.same s8).onR hx;obtain⟨O8,DT8,hg⟩:=GO.at_ hd;have kd:=SK d (mem_of_getElem? hd);rw[Zcl hd];generalize Zv S (st.take i)=S8 at W8 M8 O8 DT8 hg ⊢;have wf8:=O8.wf;walk_at "g";intro v R1 H10 k10 gr W10;have hp10:=k10.1 p9 _ (W8.no_tup hp9) hp9;have M10:=M8.keep k10 dj8;refine⟨_,rfl,_,rfl,m,S8,RM,p9,d,60,90,rfl,M10,hp10,O8,by omega,hg,λ H11 k11 M11=>?_⟩;have dj9:Dj RM R1:=dj8.grow M8.live gr;exact⟨R1,_,rfl,(s8.keep k10 fr8).keep k11 fM,(λ x hx=>(gr x hx).elim (fr8 x) λ z=>s8.free z),W10.keep k11 dj9.symm,M11,dj9,k11.1 _ _ lvM (k10.1 _ _ nv8 hv8),λ z=>(gr lv z).elim nv8 λ e=>by rw[hv8]at e;cases e⟩
  rintro σ H8 ⟨R,v4,rfl,s8,fr8,W8,M8,dj8,hv8,nv8⟩;rw[length_map,DT.len,take_length]at W8 M8;obtain⟨OT,DTT⟩:=GO.last;generalize Zv S st=U at W8 M8 OT DTT EN HW;have EY:=EN.y;obtain⟨c8,f1,f2,f3,B8⟩:=M8.tup_of;have htup8:=B8.tup;have hclk8:=SqL.of (K:=K) B8.clk;walk_at "g";refine JJ (xs:=Zb2 S.bs S.ds) (λ i σ H9=>∃(v11 v13:Option V)(x:Int),σ=[some (.int y),some (.ref ld),some (.ref p),some (.ref l),some (.ref o),some (.int tm),some (.ref lt),some (.ref w),some (.ref m),some (.int S.y),some (.ref lv),v11,some (.int x),v13]/\H9=H8/\x<=F) ⟨_,_,_,rfl,rfl,SF.1⟩ ?_ ?_ ?_
  . rintro i σ H9 _ ⟨v11,v13,x,rfl,rfl,hx⟩;exact SqL.of hv8
  . rintro i v σ H9 hv ⟨v11,v13,x,rfl,rfl,hx⟩;obtain⟨n,rfl,hn1,hn2⟩:∃ n,v = .str n/\has S.bs n=true/\has S.ds n=false:=ZkR (i:=(i:Int)) (JY hv);have hy:=EN.dl n (by rw[YR hn1,hn2];rfl);have hgd:ZY H9 f2 (.str n) (some (.int F)):=by
      have z:=ZY.k (k:=Sum.inr n) B8.h2;rw[YN,hy]at z;exact z
    walk_at "g";split <;> omega
  rintro σ H9 ⟨v11,v13,x,rfl,rfl,hx⟩;obtain⟨dx,b,hdd,RL,hw8,L8,hh8,eR8,n18,n28⟩:=W8.ex;obtain⟨dy,y18,y28,y38,hb8⟩:=L8.obj;walk_at "g";refine ZmZ ?_;dsimp only;walk_at "g";intro l10 H10 s10 _ h10;have M10:=M8.same s10;have bU:U.bs.length<=900:=by have:=OT.lb;omega
  walk_at "g";intro l11 H11 s11 _ h11;have h10':=s11 _ _ h10;rw[show((U.bs.filter λ p => !has U.ds p.1).map λ p=>V.str p.1)=(ZgL U.bs U.ds).map V.str from ZkS _ _]at h10';rw[ZkS]at h11;refine ZnP (SqL.of h10') (SqL.of h11) OT.wf.liv_ok ⟨_,rfl,Z3 ?_⟩;have s09:=(s8.trans s10).trans s11;have M11:=M10.same s11;have htup11:=s11 _ _ (s10 _ _ htup8);have hclk11:=SqL.of (K:=K) (s11 _ _ (s10 _ _ B8.clk));walk_at "g";rw[decide_eq_true (show x+tm<=U.y by omega)];refine Yy ?_;have okU:∀ t∈ts,t.ok U:=λ t ht=>EN.a.ok t (ok t ht).1;have ohU:h.ok U:=by
    have z:=oh.1;cases h with
    |one n=>exact EN.a.ok (.born n) z
    |kids n a=>exact⟨EN.a.ok (.born n) z.1,z.2⟩
  have hp11:=s09 _ _ hp;have ho11:=s09 _ _ ho;have A11:=A.same s09;have wfU:=OT.wf;have bU98:U.bs.length<=98:=by have:=OT.lb;omega
  have tl100:ts.length<=100:=by omega
  walk_at "g";intro H12 s12;walk_at "g";show Q (.bl (decide (V.str (whS U h ts (h.out S))=V.str "hangs"))) H12;rw[HW,decide_eq_true rfl];exact q H12 (s09.trans s12)
theorem ok_law {f:Addr}{fd:FuncData}(F:Fun K "law" "law" ZbS f fd)(T:Txt K g mg)(Qaq:Zdq P w0 K g mg base)(Qa5:Zb6 P w0 K g mg base)(Qb5:Zfm P w0 K g mg base)(Qa7:Zb7 P w0 K g mg base)(Qa8:ZcN P w0 K g mg base)(Qar:ZaT P w0 K g mg base)(Qb6:ZaD P w0 K g mg base)(Qb7:ZhL P w0 K g mg base)(Qb8:ZjP P w0 K g mg base)(Qb9:Za7 P w0 K g mg base)(Qao:Jk P w0 K g mg base)(Qca:Zfo P w0 K g mg base)(Qak:JK P w0 K g mg base):FnOk P w0 K mg base CX0 12 f fd ["_law_script"] (Zh1 K g):=by
  refine F.ok YG (λ vs H Q E h=>?_) (λ cdv A outer s H vs Q E hr h=>?_)
  . obtain⟨a,ns,rfl,_⟩:=h;rfl
  obtain⟨a,ns,rfl,hS,hlen,q⟩:=h;have turn3:PSs (Xo CX0 P w0 K mg base ["_law_script","_law_n","_law_year","_law_model_here","_law_deeds","_law_deed","_law_k","_law_term","_law_world","_law_m","_law_holder_here","_law_atoms","_law_some","_law_name","_law_child","_law_out_here","_law_kind","_law_told"] "law" (Zg ZbS) f cdv A outer s H E).nox ((Zk2 ((Yf ZbS).getD 9 (.Pass ⟨0,0,0,0⟩))).drop 3) (λ D σ H10=>∃(a m ld w p2 l2:Addr)(n y tm k9 ii:Int)(R RM:List Addr)(ds:List Deed)(ps:List Addr)(h:Ho)(ts:List Atm)(ps2:List Addr)(v5 v12 v13 v14 v15 v16 v17:Option V),σ=[some (.ref a),some (.int n),some (.int y),some (.ref m),some (.ref ld),v5,some (.int ii),some (.int tm),some (.ref w),some (.int k9),some (.ref p2),some (.ref l2),v12,v13,v14,v15,v16,v17]/\0<=y/\y<3000/\0<=tm/\tm<=60/\WorldAt g H10 w (Zv (mo0 y) ds) R/\Ys H10 m (Zv (mo0 y) ds) RM/\DeedsAt H10 ld ds ps/\Seq 60 (mo0 y) ds/\ds.length<=23/\H10 p2=some (.tup h.vals)/\h.ok8 (Zv (mo0 y) ds)/\AtmsAt H10 l2 ts ps2/\(∀ t∈ts,t.ok8 (Zv (mo0 y) ds))/\ts.length<=6/\∀ H',Zj H10 H'->∀(v5 v6 v10 v11 v12 v13 v14 v15 v16 v17:Option V),D.nx [some (.ref a),some (.int n),some (.int y),some (.ref m),some (.ref ld),v5,v6,some (.int tm),some (.ref w),some (.int k9),v10,v11,v12,v13,v14,v15,v16,v17] H'):=by
    refine @XC _ _ _ _ ((Zc (Zt (i:=15) YG.nd rfl (Or.inl rfl) (Zs Qb7 (h_ hr) (Za (pv 3) (Za (pv 10) Zb))))
 (Zc (Zde (Zs Qb8 (h_ hr) (Za (pv 8) (Za (pv 10) (Za (ZU (show Xt _ (.type "list") (Zgk K) from ZaW) rfl T.z_list boot_list (Za (pv 11) Zb)) (Za (pv 7) Zb))))) (Zez rfl (Yp (ZM (i:=16) YG.nd rfl (Or.inl rfl)) (Yp (ZM (i:=17) YG.nd rfl (Or.inl rfl)) ZaM))))
 (Zc (Zu (Zo Z1 (pv 16) Zl (Zr _))
 (Zf (Zu (Y7 (ZS (Zs Qca (h_ hr) (Za (pv 2) (Za (pv 4) (Za (pv 10) (Za (pv 11) (Za (pv 15) (Za (pv 7) (Za (pv 17) Zb))))))))))
 (Zf (Zk Xx))
 Zp))
 Zp)
 (Zf (Zu (PW.pt (XL (Zo ZcJ (pv 16) Zl (Zr _)) (Xh (Zo ZcJ (pv 16) Zl (Zr _)))))
 (Zf (Zk Xx))
 Zp)))))) ?_
    rintro D σ H10 ⟨a,m,ld,w,p2,l2,n,y,tm,k9,ii,R,RM,ds,ps,h,ts,ps2,v5,v12,v13,v14,v15,v16,v17,rfl,y0,y1,tm0,tm1,W,M,DD,SQ,dl,hp2,oh,A2,ok2,tl2,fin⟩;obtain⟨O,DT⟩:=SQ.ok0 (by omega);have lb:=O.lb;have wf:=O.wf;have b98:(Zv (mo0 y) ds).bs.length<=98:=by omega
    have b40:(Zv (mo0 y) ds).bs.length<=40:=by omega
    have oh1:=oh.1;have ok1:∀ t∈ts,t.ok (Zv (mo0 y) ds):=λ t ht=>(ok2 t ht).1;have t20:ts.length<=20:=by omega
    have tm100:tm<=100:=by omega
    walk_at "g";intro lo H11 s11 flo hlo;walk_at "g";refine⟨.inl (SqL.of (A2.same s11).lst),λ l4 hl4=>?_⟩;have s12:=Zi hl4 (.lst (ps2.map V.ref));have s02:=s11.trans s12;have A4:=((A2.same s11).same s12).copy (l':=l4) Ze;have W4:=W.same s02;have hp4:=s02 _ _ hp2;generalize upd H11 l4 (.lst (ps2.map V.ref))=H12 at s12 s02 A4 W4 hp4 ⊢;walk_at "g";intro r5 l5 H13 s13 fr5 fl5 J5;have s03:=s02.trans s13;obtain⟨gg,hgg,tg⟩:=J5.tagJ;have hgT:=SqT.of (K:=K) hgg;walk_at "g";rw[Xg];refine Yj (λ c1=>?_) (λ c1=>?_)
    . have eg:gg=("late":Str):=of_decide_eq_true c1;subst eg;rcases J5 with z|z|z
      . have:=z.2.1;rw[hgg]at this;cases this
      . obtain⟨hw,F,pt,hF,hlB,_,DTT⟩:=z;have D3:=DD.same s03;have hp3:=s03 _ _ hp2;have A3:=A2.same s03;have ho3:=s13 _ _ (s12 _ _ hlo);have y2:y<=9999:=by omega
        have d25:ds.length<=25:=by omega
        walk_at "g";intro H14 s14;refine⟨_,rfl,?_⟩;dsimp only;refine Z3 ?_;walk_at "g";refine ZmZ ?_;exact fin H14 (s03.trans s14) _ _ _ _ _ _ _ _ _ _
      . obtain⟨a1,F,ss,b1,c1,d1,e1,f1,g1⟩:=z;rw[hgg]at f1;cases f1
    . have eg:gg=("sure":Str):=by
        rcases tg with ⟨e,_⟩|⟨e,_⟩
        . exact absurd (decide_eq_true e) c1
        . exact e
      subst eg;walk_at "g";refine ZmZ ?_;exact fin H13 s03 _ _ _ _ _ _ _ _ _ _
  have rest9:PSs (Xo CX0 P w0 K mg base ["_law_script","_law_n","_law_year","_law_model_here","_law_deeds","_law_deed","_law_k","_law_term","_law_world","_law_m","_law_holder_here","_law_atoms","_law_some","_law_name","_law_child","_law_out_here","_law_kind","_law_told"] "law" (Zg ZbS) f cdv A outer s H E).nox ((Yf ZbS).drop 9) (λ D σ H6=>∃(m ld w:Addr)(n y tm k9:Int)(R RM:List Addr)(ds:List Deed)(ps:List Addr)(v5 v6 v10 v11 v12 v13 v14 v15 v16 v17:Option V),σ=[some (.ref a),some (.int n),some (.int y),some (.ref m),some (.ref ld),v5,v6,some (.int tm),some (.ref w),some (.int k9),v10,v11,v12,v13,v14,v15,v16,v17]/\Zj H H6/\0<=y/\y<3000/\0<=tm/\tm<=60/\WorldAt g H6 w (Zv (mo0 y) ds) R/\Ys H6 m (Zv (mo0 y) ds) RM/\DeedsAt H6 ld ds ps/\Seq 60 (mo0 y) ds/\ds.length<=23/\ZeM (Zv (mo0 y) ds)/\D.rt=Q):=by
    refine @XC _ _ _ _ ((Zc (Xv PassesOwn.never rfl (Jn rfl T.z_range (Za Zd Zb)) (ZM (i:=6) YG.nd rfl (Or.inl rfl))
 (Zc (Zde (Zs Qb6 (h_ hr) (Za (pv 3) (Za (Zs Qaq (h_ hr) (Za (Zq Z8 (Zq ZL (pv 9) Zd) (pv 6)) (Za (Zq Z8 (pv 6) Zd) Zb))) Zb))) (Zez rfl (Yp (ZM (i:=10) YG.nd rfl (Or.inl rfl)) (Yp (ZM (i:=11) YG.nd rfl (Or.inl rfl)) ZaM))))
 (Zc (XW (i:=12) YG.nd rfl (Or.inl rfl) (x:="_law_name") (cl:=[]) (caps:=[]) rfl (ZQ (Zs Qao (h_ hr) (Za (pv 3) Zb))) (λ _ _ _ _ _=>Yg (Zo Zax (show PE _ _ (tBM K "str" Zmn (Zg9 0) (Zi3 (tC (.str ".")) tNil)) from YJ plainAttrs_str slot_str_count type_str_count XX (pv 0) (Za Zl Zb)) Zd (Zr _))) (λ _ _ _ _ _=>(pv 0)) rfl (by decide +kernel) rfl (by decide +kernel) rfl (λ _ _ h=>nomatch h) (Yr rfl) (λ p hp=>nomatch hp) (by decide +kernel))
 (Zc (Zu (PW.pt (XL (Zo Z1 (pv 6) Zd (Zr _)) (Xh (Zo Zay (Zx ZO rfl T.z_len boot_len (Za (pv 12) Zb)) Zd (Zr _)))))
 (Zc (Zt (i:=13) YG.nd rfl (Or.inl rfl) (Zn ZG (pv 12) (Zq ZL (Zq ZZ (pv 9) Zd) (Zx ZO rfl T.z_len boot_len (Za (pv 12) Zb))) (λ _ _=>rfl)))
 (Zc (Zt (i:=14) YG.nd rfl (Or.inl rfl) (Zq Yn (Zq Yn (Zq Yn (pv 13) Zl) (ZU XB rfl T.z_str boot_str (Za (Zq Z8 (Zq Z8 (Zx ZO rfl T.z_len boot_len (Za (Zs Qak (h_ hr) (Za (pv 3) (Za (pv 13) Zb))) Zb)) Zd) (Zq ZL (Zq ZZ (pv 9) Zd) Zd)) Zb))) Zl))
 (Zf (Zt (i:=11) YG.nd rfl (Or.inl rfl) (Zq Zgq (Zgo Zny (pv 11) Zih (Zig Zd)) (Z6 (Za (Yc (Za (Zn ZG (Z6 (Za Zl (Za Zl Zb))) (Zq ZL (Zq ZZ (pv 9) Zd) Zd) (λ _ _=>rfl)) (Za (pv 14) Zb))) Zb)))))))
 Zp)
 @turn3))))
 (Zf (Zk Xx)))) ?_
    rintro D σ H6 ⟨m,ld,w,n,y,tm,k9,R,RM,ds,ps,v5,v6,v10,v11,v12,v13,v14,v15,v16,v17,rfl,s6,y0,y1,tm0,tm1,W,M,DD,SQ,dl,RT,hq⟩;obtain⟨O,DT⟩:=SQ.ok0 (by omega);have lb:=O.lb;refine⟨_,rfl,by decide,by decide,ZaC (n:=4) (λ i σ H8=>∃(v5 v6 v10 v11 v12 v13 v14 v15 v16 v17:Option V),σ=[some (.ref a),some (.int n),some (.int y),some (.ref m),some (.ref ld),v5,v6,some (.int tm),some (.ref w),some (.int k9),v10,v11,v12,v13,v14,v15,v16,v17]/\Zj H6 H8) ⟨_,_,_,_,_,_,_,_,_,_,rfl,Zj.refl _⟩ ?_ ?_⟩
    . rintro i σ H8 hi ⟨v5,v6,v10,v11,v12,v13,v14,v15,v16,v17,rfl,s8⟩;have W8:=W.same s8;have M8:=M.same s8;have wf:=O.wf;have b98:(Zv (mo0 y) ds).bs.length<=98:=by omega
      have b900:(Zv (mo0 y) ds).bs.length<=900:=by omega
      walk_at "g";intro r9;walk_at "g";intro h ts ps2 r2 p2 l2 H9 s9 hr2 hp2 oh A9 ok9 tl9 fl9;have hr2T:=SqT.of (K:=K) hr2;have M9:=M8.same s9;refine⟨r2,_,rfl,hr2T,rfl,_,_,rfl,_,_,rfl,rfl,?_⟩;unfold ZhZ Zha;dsimp only;have hd:Dated (Zv (mo0 y) ds):=DT;have DD8:=DD.same s8;have lvl:(ZgL (Zv (mo0 y) ds).bs (Zv (mo0 y) ds).ds).length<=900:=by have:=ZmL (Zv (mo0 y) ds).bs (Zv (mo0 y) ds).ds;rw[ZkS,length_map]at this;omega
      refine lcS (ss:=ZgL (Zv (mo0 y) ds).bs (Zv (mo0 y) ds).ds) (λ a H1=>Zj H9 H1/\H1 a=some (.lst ((ZgL (Zv (mo0 y) ds).bs (Zv (mo0 y) ds).ds).map V.str))) (λ c=>decide (Yl c<4)) V.str ?_ ?_ lvl ?_ ?_ ?_
      . exact λ R0 r=>⟨_,rfl,m,_,RM,rfl,M9,b900,λ l H' s' f' h'=>r l H' ⟨s',by rw[<- ZkS];exact h'⟩⟩
      . rintro a H1 ⟨_,e⟩;exact SqL.of e
      . rintro a H1 x H2 ⟨sa,ea⟩ hx s R0 r;have hx1:=(ZkT hx).1;have nl:=Yx (wf.wrt x hx1);walk_at "g";have z:=r H2 (Zj.refl _);rw[show decide (Yl x<4)=decide (((Builtin.Str.occurrences x dot 0 x.length (x.length+1)).length:Int)<4) from by unfold Yl;exact decide_eq_decide.mpr (by omega)]at z;exact z
      . rintro a H1 x H2 ⟨sa,ea⟩ hx _ s R0 r;walk_at "g";exact r H2 (Zj.refl _)
      rintro a1 H1 D1 H2 ⟨sa,ea⟩ hD1 s2 h2;have s92:=sa.trans s2;have hin:∀ x∈(ZgL (Zv (mo0 y) ds).bs (Zv (mo0 y) ds).ds).filter (λ c=>decide (Yl c<4)),has (Zv (mo0 y) ds).bs x=true/\Yl x<4:=λ x hx=>by
        obtain⟨z1,z2⟩:=List.mem_filter.mp hx;exact⟨(ZkT z1).1,of_decide_eq_true z2⟩
      generalize (ZgL (Zv (mo0 y) ds).bs (Zv (mo0 y) ds).ds).filter (λ c=>decide (Yl c<4))=L4 at h2 hin;have W2:=W8.same (s9.trans s92);have M2:=M9.same s92;have D2:=DD8.same (s9.trans s92);have hp22:=s92 _ _ hp2;have A2:=A9.same s92;have s62:=s8.trans (s9.trans s92);walk_at "g";refine Yj (λ c1=>?_) (λ c1=>?_)
      . walk_at "g";refine Yj (λ c2=>?_) (λ c2=>?_)
        . have h0:0<L4.length:=by have z:=of_decide_eq_true c2;rw[length_map]at z;omega
          have lpos:(0:Int)<((L4.map V.str).length:Int):=by rw[length_map];omega
          obtain⟨x,hx,ex⟩:=ix_mod L4 (k9 / 5) h0;obtain⟨hx1,hx2⟩:=hin x hx;have nl:=Yx (wf.wrt x hx1);have nl2:x.length<=200:=by omega
          have nkf:=wf.few x;have nk1:nk (Zv (mo0 y) ds).bs x<=100:=by omega
          obtain⟨j,hj,hj8⟩:∃ j:Nat,k9 / 35 % 8=(j:Int)/\j<8:=by
            have y0:=emod_nonneg (k9 / 35) (show(8:Int)≠0 by decide);have y1:=emod_lt_of_pos (k9 / 35) (show(0:Int)<8 by decide);exact⟨(k9 / 35 % 8).toNat,by omega,by omega⟩
          dsimp only;have h2S:=SqL.of (K:=K) h2;walk_at "g";refine⟨ZB (by show x.length+1<=500;omega),?_⟩;walk_at "g";intro lk H3 s3 fk hk;have hkl:((YF x (nk (Zv (mo0 y) ds).bs x)).length:Int)+1+k9 / 35 % 8=((nk (Zv (mo0 y) ds).bs x+j:Nat):Int)+1:=by unfold YF;rw[length_map,length_range,hj];omega
          have c1':(0:Int)<=((nk (Zv (mo0 y) ds).bs x+j:Nat):Int)+1:=by omega
          have c2':((nk (Zv (mo0 y) ds).bs x+j:Nat):Int)+1<131:=by omega
          have hlog:(((YF x (nk (Zv (mo0 y) ds).bs x)).length:Int)+1+k9 / 35 % 8).natAbs.log2<1920:=by rw[hkl];exact Jo c1' c2'
          have tl:=ZfQ c1' c2';have kl:(kid x (nk (Zv (mo0 y) ds).bs x+j)).length<=x.length+5:=by unfold kid;rw[YO,YO];show x.length+1+_<=_;omega
          walk_at "g";rw[hkl];refine⟨ZB (by rw[show(x++(".":Str)).length=x.length+1 from YO _ _];omega),?_⟩;refine⟨kid x (nk (Zv (mo0 y) ds).bs x+j),_,rfl,rfl,ZB (by show _+2<=500;omega),?_⟩;rw[ZnL];obtain⟨gok,g8⟩:=grand wf (by omega) hx1 hx2 hj8;generalize kid (kid x (nk (Zv (mo0 y) ds).bs x+j)) 0=ch at gok g8 ⊢;have A3:=A2.same s3;have h3l:=A3.lst;walk_at "g";intro l6 hl6;rw[show Zku (ps2.map V.ref) none (some 5)=(ps2.map V.ref).take 5 from Zng _ 5];have s4:=Zi hl6 (.lst ((ps2.map V.ref).take 5));have A6:=A3.take (k:=5) (l':=l6) s4 Ze;generalize upd H3 l6 (.lst ((ps2.map V.ref).take 5))=H4 at s4 A6 ⊢;walk_at "g";intro l7 hl7;have s7:=Zi hl7 (.lst [V.str "born",V.str "dead"]);have h7:upd H4 l7 (.lst [V.str "born",V.str "dead"]) l7=some (.lst [V.str "born",V.str "dead"]):=Ze;obtain⟨v,hv,hv'⟩:=Zii (a:=V.str "born") (b:=V.str "dead") (k9 / 7);generalize upd H4 l7 (.lst [V.str "born",V.str "dead"])=H5 at s7 h7 ⊢;obtain⟨t,ht,okt⟩:∃ t:Atm,t.vals=[v,V.str ch]/\t.ok8 (Zv (mo0 y) ds):=by
            rcases hv' with rfl|rfl
            . exact⟨.born ch,rfl,gok,λ n e=>by cases e;exact g8⟩
            . exact⟨.dead ch,rfl,gok,λ n e=>by cases e;exact g8⟩
          walk_at "g";intro p8 hp8;have s8':=Zi hp8 (.tup [v,V.str ch]);have h8:upd H5 p8 (.tup [v,V.str ch]) p8=some (.tup t.vals):=by rw[Ze,ht]
          generalize upd H5 p8 (.tup [v,V.str ch])=H7 at s8' h8 ⊢;walk_at "g";intro l9 hl9;have s9':=Zi hl9 (.lst [V.ref p8]);have h9:upd H7 l9 (.lst [V.ref p8]) l9=some (.lst [V.ref p8]):=Ze;generalize upd H7 l9 (.lst [V.ref p8])=H11 at s9' h9 ⊢;have s4b:=(s7.trans s8').trans s9';have A11:=A6.same s4b;have h11:=A11.lst;have l6l:((ps2.take 5).map V.ref).length+[V.ref p8].length<=sizeLine:=ZB (by rw[length_map,length_take];show _+1<=500;omega);walk_at "g";intro l12 hl12;have s12':=Zi hl12 (.lst ((ps2.take 5).map V.ref++[V.ref p8]));have A12:=(A11.same s12').snoc (p:=p8) (t:=t) (l':=l12) (s12' _ _ (s9' _ _ h8)) Ze;generalize upd H11 l12 (.lst ((ps2.take 5).map V.ref++[V.ref p8]))=H13 at s12' A12 ⊢;have s23:=((s3.trans s4).trans s4b).trans s12';exact⟨a,m,ld,w,p2,l12,n,y,tm,k9,_,R,RM,ds,ps,h,ts.take 5++[t],_,v5,_,_,_,_,_,_,rfl,y0,y1,tm0,tm1,W2.same s23,M2.same s23,D2.same s23,SQ,dl,s23 _ _ hp22,oh,A12,(λ u hu=>(List.mem_append.mp hu).elim (λ z=>ok9 u (List.mem_of_mem_take z)) λ z=>by rw[List.mem_singleton.mp z];exact okt),(by rw[length_append,length_take];show _+1<=6;omega),λ H' s' _ _ _ _ _ _ _ _ _ _=>⟨_,_,_,_,_,_,_,_,_,_,rfl,s62.trans (s23.trans s')⟩⟩
        . exact⟨a,m,ld,w,p2,l2,n,y,tm,k9,_,R,RM,ds,ps,h,ts,ps2,v5,_,_,_,_,_,_,rfl,y0,y1,tm0,tm1,W2,M2,D2,SQ,dl,hp22,oh,A2,ok9,tl9,λ H' s' _ _ _ _ _ _ _ _ _ _=>⟨_,_,_,_,_,_,_,_,_,_,rfl,s62.trans s'⟩⟩
      . exact Z3 ⟨a,m,ld,w,p2,l2,n,y,tm,k9,_,R,RM,ds,ps,h,ts,ps2,v5,_,_,_,_,_,_,rfl,y0,y1,tm0,tm1,W2,M2,D2,SQ,dl,hp22,oh,A2,ok9,tl9,λ H' s' _ _ _ _ _ _ _ _ _ _=>⟨_,_,_,_,_,_,_,_,_,_,rfl,s62.trans s'⟩⟩
    . rintro σ H8 ⟨v5,v6,v10,v11,v12,v13,v14,v15,v16,v17,rfl,s8⟩;walk_at "g";show D.rt (.bl true) H8;rw[hq];exact q H8
  have rest6:PSs (Xo CX0 P w0 K mg base ["_law_script","_law_n","_law_year","_law_model_here","_law_deeds","_law_deed","_law_k","_law_term","_law_world","_law_m","_law_holder_here","_law_atoms","_law_some","_law_name","_law_child","_law_out_here","_law_kind","_law_told"] "law" (Zg ZbS) f cdv A outer s H E).nox ((Yf ZbS).drop 6) (λ D σ H6=>∃(m ld:Addr)(n y:Int)(RM:List Addr)(ds:List Deed)(ps:List Addr)(v5 v6 v7 v8 v9 v10 v11 v12 v13 v14 v15 v16 v17:Option V),σ=[some (.ref a),some (.int n),some (.int y),some (.ref m),some (.ref ld),v5,v6,v7,v8,v9,v10,v11,v12,v13,v14,v15,v16,v17]/\Zj H H6/\0<=y/\y<3000/\(∀ x∈RM,H x=none)/\H ld=none/\ld∉RM/\Ys H6 m (Zv (mo0 y) ds) RM/\DeedsAt H6 ld ds ps/\Seq 60 (mo0 y) ds/\ds.length<=23/\ZeM (Zv (mo0 y) ds)/\D.rt=Q):=by
    refine @XC _ _ _ _ ((Zc (Zt (i:=7) YG.nd rfl (Or.inl rfl) (Zq ZL (Zq ZZ (pv 1) Zd) Zd))
 (Zc (Zde (Zs Qa7 (h_ hr) (Za (pv 2) (Za (pv 4) Zb))) (Zez rfl (Yp (ZM (i:=8) YG.nd rfl (Or.inl rfl)) (Yp (ZM (i:=3) YG.nd rfl (Or.inl rfl)) ZaM))))
 (Zc (Zt (i:=9) YG.nd rfl (Or.inl rfl) (Zs Qaq (h_ hr) (Za (Zs Qa8 (h_ hr) (Za (pv 0) (Za Zd Zb))) (Za Zd Zb))))
 @rest9)))) ?_
    rintro D σ H6 ⟨m,ld,n,y,RM,ds,ps,v5,v6,v7,v8,v9,v10,v11,v12,v13,v14,v15,v16,v17,rfl,s6,y0,y1,fM,fl,nl,M,DD,SQ,dl,RT,hq⟩;have t0:=emod_nonneg (n / 3000) (show(61:Int)≠0 by decide);have t1:=emod_lt_of_pos (n / 3000) (show(0:Int)<61 by decide);have y2:y<=9999:=by omega
    have dl30:ds.length<=30:=by omega
    walk_at "g";intro p w2 m2 R2 RM2 H7 s7 fR7 fM7 W7 M7 dj7 hp7 O7 D7;have hp7T:=SqT.of (K:=K) hp7;have hS7:=(s6.trans s7).seq hS;walk_at "g";intro c7;walk_at "g";intro k9;walk_at "g";exact⟨s6.trans s7,y0,y1,t0,by omega,W7,M7,DD.same s7,SQ,dl,RT,hq⟩
  have rest5:PSs (Xo CX0 P w0 K mg base ["_law_script","_law_n","_law_year","_law_model_here","_law_deeds","_law_deed","_law_k","_law_term","_law_world","_law_m","_law_holder_here","_law_atoms","_law_some","_law_name","_law_child","_law_out_here","_law_kind","_law_told"] "law" (Zg ZbS) f cdv A outer s H E).nox ((Yf ZbS).drop 5) (λ D σ H6=>∃(m ld:Addr)(n y:Int)(RM:List Addr)(ds:List Deed)(ps:List Addr)(v5 v6 v7 v8 v9 v10 v11 v12 v13 v14 v15 v16 v17:Option V),σ=[some (.ref a),some (.int n),some (.int y),some (.ref m),some (.ref ld),v5,v6,v7,v8,v9,v10,v11,v12,v13,v14,v15,v16,v17]/\Zj H H6/\0<=y/\y<3000/\(∀ x∈RM,H x=none)/\H ld=none/\ld∉RM/\Ys H6 m (Zv (mo0 y) ds) RM/\DeedsAt H6 ld ds ps/\Seq 60 (mo0 y) ds/\ds.length<=3/\ZeM (Zv (mo0 y) ds)/\D.rt=Q):=by
    refine @XC _ _ _ _ ((Zc (Xv PassesOwn.never rfl (Jn rfl T.z_range (Za (Zx (ZhO rfl) rfl T.z_min PyProof.Rows.boot_min (Za Zd (Za (Zx (Zcv rfl) rfl T.z_max boot_max (Za Zd (Za (Zq Zai (Zx ZO rfl T.z_len boot_len (Za (pv 0) Zb)) Zd) Zb))) Zb))) Zb)) (ZM (i:=6) YG.nd rfl (Or.inl rfl))
 (Zc (ZD (YJ plainAttrs_list PySem.F.slot_list_append PySem.F.type_list_append YA (pv 4) (Za (Zs Qb9 (h_ hr) (Za (pv 3) (Za (Zs Qaq (h_ hr) (Za (Zs Qa8 (h_ hr) (Za (pv 0) (Za (Zq Z8 Zd (pv 6)) Zb))) (Za (pv 6) Zb))) (Za Zd Zb)))) Zb)))
 (Zf (ZD (Zs Qar (h_ hr) (Za (pv 3) (Za (Zn ZG (pv 4) (pe_un un_neg Zd) (λ _ _=>rfl)) Zb)))))))
 @rest6)) ?_
    rintro D σ H6 ⟨m,ld,n,y,RM,ds,ps,v5,v6,v7,v8,v9,v10,v11,v12,v13,v14,v15,v16,v17,rfl,s6,y0,y1,fM,fl,nl,M,DD,SQ,dl,RT,hq⟩;have hS6:=s6.seq hS;obtain⟨t,ht,ht20⟩:∃ t:Nat,(if (if ((ns.map V.int).length:Int) - 3>0 then ((ns.map V.int).length:Int) - 3 else 0)<20 then (if ((ns.map V.int).length:Int) - 3>0 then ((ns.map V.int).length:Int) - 3 else 0) else 20)=(t:Int)/\t<=20:=by
      refine⟨(if (if ((ns.map V.int).length:Int) - 3>0 then ((ns.map V.int).length:Int) - 3 else 0)<20 then (if ((ns.map V.int).length:Int) - 3>0 then ((ns.map V.int).length:Int) - 3 else 0) else 20).toNat,?_,?_⟩ <;> split <;> split <;> omega
    refine⟨_,rfl,_,_,rfl, .inl ⟨_,hS6,rfl⟩,_,_,rfl,rfl,_,_,rfl,_,_,rfl,?_⟩;rw[ht];refine⟨_,rfl,by omega,by omega,ZaC (n:=t) (λ j σ H8=>∃(ds:List Deed)(ps:List Addr)(v5 v6 v7 v8 v9 v10 v11 v12 v13 v14 v15 v16 v17:Option V),σ=[some (.ref a),some (.int n),some (.int y),some (.ref m),some (.ref ld),v5,v6,v7,v8,v9,v10,v11,v12,v13,v14,v15,v16,v17]/\Zj H H8/\Ys H8 m (Zv (mo0 y) ds) RM/\DeedsAt H8 ld ds ps/\Seq 60 (mo0 y) ds/\ds.length<=3+j/\ZeM (Zv (mo0 y) ds)) ⟨ds,ps,_,_,_,_,_,_,_,_,_,_,_,_,_,rfl,s6,M,DD,SQ,by omega,RT⟩ ?_ ?_⟩
    . rintro j σ H8 hj ⟨ds,ps,v5,v6,v7,v8,v9,v10,v11,v12,v13,v14,v15,v16,v17,rfl,s8,M8,D8,SQ8,dl8,RT8⟩;have hS8:=s8.seq hS;obtain⟨O8,DT8⟩:=SQ8.ok0 (by omega);have i0:(0:Int)<=3+(0+(j:Int)):=by omega
      have hb:(Zv (mo0 y) ds).bs.length<=900:=by have:=O8.lb;omega
      have h8l:=D8.lst;walk_at "g";intro c2;walk_at "g";intro n2;walk_at "g";intro d p H9 hg s9 fp hp;have D9:=D8.same s9;have h9l:=D9.lst;have M9:=M8.same s9;have nlp:ld∉RM:=nl;have lS:(ps.map V.ref).length<sizeLine:=Zz (by rw[length_map,D8.len];omega);have D10:=D9.push (Zj.refl _) hp;have M10:=M9.keep (Xd (a:=ld) (o:=.lst (ps.map V.ref++[V.ref p]))) (λ x hx hx2=>nlp (by rw[List.mem_singleton.mp hx2]at hx;exact hx));have s10:Zj H (upd H9 ld (.lst (ps.map V.ref++[V.ref p]))):=Z0 (s8.trans s9) fl;have nep:p≠ld:=λ z=>by rw[z,h8l]at fp;cases fp
      have hp10:upd H9 ld (.lst (ps.map V.ref++[V.ref p])) p=some (.tup d.vals):=by rw[Zh nep];exact hp
      refine⟨ld,_,_,rfl,rfl,h9l,lS,?_⟩;have h10l:upd H9 ld (.lst (ps.map V.ref++[V.ref p])) ld=some (.lst (ps.map V.ref++[V.ref p])):=Ze;generalize upd H9 ld (.lst (ps.map V.ref++[V.ref p]))=H10 at D10 M10 s10 hp10 h10l ⊢;refine⟨_,rfl,_,rfl,_,rfl,ld,_,_,_,rfl,rfl,SqL.of h10l,Znn _ _,?_⟩;refine⟨m,_,RM,p,d,25,_,rfl,M10,hp10,O8,by omega,hg,λ H11 k11 M11=>?_⟩;rw[<- Zjh]at M11;exact⟨ds++[d],ps++[p],_,_,_,_,_,_,_,_,_,_,_,_,_,rfl,s10.keep k11 fM,M11,D10.off M10 k11,SQ8.snoc (Zm3 hg (by decide)),by rw[length_append,length_singleton];omega,by rw[Zjh];exact RT8.step d⟩
    . rintro σ H8 ⟨ds,ps,v5,v6,v7,v8,v9,v10,v11,v12,v13,v14,v15,v16,v17,rfl,s8,M8,D8,SQ8,dl8,RT8⟩;exact⟨m,ld,n,y,RM,ds,ps,v5,v6,v7,v8,v9,v10,v11,v12,v13,v14,v15,v16,v17,rfl,s8,y0,y1,fM,fl,nl,M8,D8,SQ8,by omega,RT8,hq⟩
  refine⟨_,(Zc (Zt (i:=1) YG.nd rfl (Or.inl rfl) (Zs Qaq (h_ hr) (Za (Zs Qa8 (h_ hr) (Za (pv 0) (Za Zd Zb))) (Za Zd Zb))))
 (Zc (Zt (i:=2) YG.nd rfl (Or.inl rfl) (Zq ZL (pv 1) Zd))
 (Zc (Zt (i:=3) YG.nd rfl (Or.inl rfl) (Zs Qa5 (h_ hr) (Za (pv 2) Zb)))
 (Zc (Zt (i:=4) YG.nd rfl (Or.inl rfl) (Zs Qb5 (h_ hr) (Za (Zs Qaq (h_ hr) (Za (Zs Qa8 (h_ hr) (Za (pv 0) (Za Zd Zb))) (Za Zd Zb))) Zb)))
 (Zc (Xv PassesOwn.never rfl (ZQ (ZU (show Xt _ (.type "list") (Zgk K) from ZaW) rfl T.z_list boot_list (Za (pv 4) Zb))) (ZM (i:=5) YG.nd rfl (Or.inl rfl))
 (Zf (ZD (Zs Qar (h_ hr) (Za (pv 3) (Za (pv 5) Zb))))))
 @rest5))))),?_⟩
  refine⟨_,rfl,a,ns,0,rfl,hS,by decide,λ c0=>⟨c0,1,rfl,λ n=>⟨_,rfl,_,_,rfl,rfl,(by show(0:Int)<3000;decide),_,rfl,_,rfl,λ m RM H1 s1 fM M=>?_⟩⟩⟩;have z0:=emod_nonneg n (show(3000:Int)≠0 by decide);have z1:=emod_lt_of_pos n (show(0:Int)<3000 by decide);have hS1:=s1.seq hS;walk_at "g";intro c1;walk_at "g";intro r1;walk_at "g";intro l was ps H3 s23 fl FF hne DD;walk_at "g";refine⟨.inl (SqL.of DD.lst),λ l2 hl2=>?_⟩;have s34:=Zi hl2 (.lst (ps.map V.ref));have h4:upd H3 l2 (.lst (ps.map V.ref)) l2=some (.lst (ps.map V.ref)):=Ze;have s03:=s1.trans s23;have s04:=s03.trans s34;have M4:=(M.same s23).same s34;have D4:=DD.same s34;generalize upd H3 l2 (.lst (ps.map V.ref))=H4 at s34 h4 s04 M4 D4 ⊢;have nlM:l∉RM:=λ z=>by obtain⟨o,e⟩:=M.live l z;rw[fl l (by simp)]at e;cases e
  have DL:DeedsAt H4 l2 (was.map arr) ps:=⟨h4,D4.len,D4.at_⟩;have pl:ps.length=was.length:=by rw[DD.len,length_map]
  have hl3w:=FF.len;have sq:=λ i (hi:i<=was.length)=>FF.seq (n % 3000) i hi;refine⟨l2,rfl,⟨_,SqL.of h4⟩,JJ (xs:=ps.map V.ref) (λ i σ H8=>∃(v5:Option V),σ=[some (.ref a),some (.int n),some (.int (n % 3000)),some (.ref m),some (.ref l),v5,none,none,none,none,none,none,none,none,none,none,none,none]/\Zj H H8/\Ys H8 m (Zv (mo0 (n % 3000)) ((was.map arr).take i)) RM/\DeedsAt H8 l (was.map arr) ps/\DeedsAt H8 l2 (was.map arr) ps) ⟨_,rfl,s04,M4,D4,DL⟩ ?_ ?_ ?_⟩
  . rintro i σ H8 _ ⟨v5,rfl,s8,M8,D8,DL8⟩;exact SqL.of DL8.lst
  . rintro i x σ H8 hx ⟨v5,rfl,s8,M8,D8,DL8⟩;obtain⟨p,d,rfl,hd,hp⟩:=DL8.onR hx;have hi:=(List.getElem?_eq_some_iff.mp hd).1;rw[length_map]at hi;obtain⟨sq1,_⟩:=sq (i+1) (by omega);have hd2:((was.map arr).take (i+1))[i]? = some d:=by rw[List.getElem?_take,if_pos (by omega)];exact hd
    have hg:=sq1.at_ hd2;rw[List.take_take,Nat.min_eq_left (by omega)]at hg;obtain⟨O8,_⟩:=(sq i (by omega)).1.ok0 (by rw[length_take];omega);rw[Zcl hd];generalize Zv (mo0 (n % 3000)) ((was.map arr).take i)=S8 at M8 hg O8 ⊢;refine⟨_,rfl,_,rfl,m,S8,RM,p,d,60,_,rfl,M8,hp,O8,by rw[length_take];omega,hg,λ H9 k9 M9=>?_⟩;exact⟨_,rfl,s8.keep k9 fM,M9,D8.off M8 k9,DL8.off M8 k9⟩
  . rintro σ H8 ⟨v5,rfl,s8,M8,D8,DL8⟩;obtain⟨sq1,hw8⟩:=sq was.length (le_refl _);rw[List.take_of_length_le (by rw[length_map];exact le_refl _)]at sq1 hw8;rw[length_map,pl,List.take_of_length_le (by rw[length_map];exact le_refl _)]at M8;have hwpos:0<was.length:=by cases was with|nil=>exact absurd rfl hne|cons x r=>simp
    have RT:=FF.root hne hwpos hw8;exact⟨m,l,n,_,RM,was.map arr,ps,_,_,_,_,_,_,_,_,_,_,_,_,_,rfl,s8,z0,z1,fM,s1.free (fl l (by simp)),nlM,M8,D8,sq1,by rw[length_map];exact hl3w,RT,rfl⟩
end
local macro_rules|`(tactic| walk_at "b1") => `(tactic| exact λ _ _ _ _ _ _ us hl=>by(obtain⟨_,h⟩:=L2.us1 us hl;subst h;rfl))
local macro_rules|`(tactic| walk_at "b2") => `(tactic| exact λ _ _ _ _ _ _ us hl=>by(obtain⟨_,_,h⟩:=L2.us2 us hl;subst h;rfl))
local macro_rules|`(tactic| walk_at "b3") => `(tactic| exact λ _ _ _ _ _ _ us hl=>by(obtain⟨_,_,_,h⟩:=L2.us3 us hl;subst h;rfl))
local macro_rules|`(tactic| walk_at "b4") => `(tactic| exact λ _ _ _ _ _ _ us hl=>by(obtain⟨_,_,_,_,h⟩:=L2.us4 us hl;subst h;rfl))
local macro_rules|`(tactic| walk_at "b7") => `(tactic| exact λ _ _ _ _ _ _ us hl=>by(obtain⟨_,_,_,_,_,_,_,h⟩:=L2.us7 us hl;subst h;rfl))
theorem all_mk {l:PySem.W.OpenLaw}{w:World}{K:Frag}{h:Heap}{mg:Str->Option Value}{fa:Addr}(X:K.In h)(G:h.Ns mainGlobals mg)(hfa:mg "law"=some (.ref fa)){Qbf Qas Qat Qau Qav Qaw Qax Qac Qaf:Addr}{Qbg Qbh Qbi Qbj Qbk Qbl Qbm Qbn Qbo Qbp Qbq:Tok}{Qba:Addr}{QdG:Option Addr}{QdH:Nat}{QdI:Array (Option Value)}{QdJ QdK:Tok}{Qbb:Addr}{QdL:Option Addr}{QdM:Nat}{QdN:Array (Option Value)}{QdO QdP QdQ:Tok}(Qcb:nsIn K mainGlobals "isinstance"=some none)(Qcc:nsIn K mainGlobals "int"=some none)(Qcd:nsIn K mainGlobals "bool"=some none)(Qce:nsIn K mainGlobals "tuple"=some none)(Qcf:nsIn K mainGlobals "len"=some none)(Qcg:nsIn K mainGlobals "range"=some none)(Qch:nsIn K mainGlobals "list"=some none)(Qci:nsIn K mainGlobals "str"=some none)(Qcj:nsIn K mainGlobals "min"=some none)(Qck:nsIn K mainGlobals "max"=some none)(Qcl:nsIn K mainGlobals "sorted"=some none)(Qcm:nsIn K mainGlobals "set"=some none)(Qcn:nsIn K mainGlobals "ValueError"=some none)(Qco:nsIn K mainGlobals "LandError"=some (some (.ref Qbf)))(Qcp:nsIn K mainGlobals "NoText"=some (some (.ref Qas)))(Qcq:nsIn K mainGlobals "OutOfBound"=some (some (.ref Qat)))(Qcr:nsIn K mainGlobals "Taken"=some (some (.ref Qau)))(Qcs:nsIn K mainGlobals "NoPerson"=some (some (.ref Qav)))(Qct:nsIn K mainGlobals "Gone"=some (some (.ref Qaw)))(Qcu:nsIn K mainGlobals "TooDeep"=some (some (.ref Qax)))(Qcv:excIn K Qaw bmV "ValueError.__new__"=true)(Qcw:findIn K (.ref Qaw) "__getattribute__"=some (some (.builtin "BaseException.__getattribute__")))(Qcx:findIn K (.ref Qaw) "__getattr__"=some none)(Qcy:findIn K (.ref Qaw) "__class__"=some (some (.builtin "object.__class__")))(Qcz:subIn K (.ref Qaw) (.type "object")=some true)(QcA:subIn K (.ref Qaw) (.type "BaseException")=some true)(QcB:excIn K Qav bmV "ValueError.__new__"=true)(QcC:findIn K (.ref Qav) "__getattribute__"=some (some (.builtin "BaseException.__getattribute__")))(QcD:findIn K (.ref Qav) "__getattr__"=some none)(QcE:findIn K (.ref Qav) "__class__"=some (some (.builtin "object.__class__")))(QcF:subIn K (.ref Qav) (.type "object")=some true)(QcG:subIn K (.ref Qav) (.type "BaseException")=some true)(QcH:excIn K Qas bmV "ValueError.__new__"=true)(QcI:findIn K (.ref Qas) "__getattribute__"=some (some (.builtin "BaseException.__getattribute__")))(QcJ:findIn K (.ref Qas) "__getattr__"=some none)(QcK:findIn K (.ref Qas) "__class__"=some (some (.builtin "object.__class__")))(QcL:subIn K (.ref Qas) (.type "object")=some true)(QcM:subIn K (.ref Qas) (.type "BaseException")=some true)(QcN:excIn K Qat bmV "ValueError.__new__"=true)(QcO:findIn K (.ref Qat) "__getattribute__"=some (some (.builtin "BaseException.__getattribute__")))(QcP:findIn K (.ref Qat) "__getattr__"=some none)(QcQ:findIn K (.ref Qat) "__class__"=some (some (.builtin "object.__class__")))(QcR:subIn K (.ref Qat) (.type "object")=some true)(QcS:subIn K (.ref Qat) (.type "BaseException")=some true)(QcT:excIn K Qau bmV "ValueError.__new__"=true)(QcU:findIn K (.ref Qau) "__getattribute__"=some (some (.builtin "BaseException.__getattribute__")))(QcV:findIn K (.ref Qau) "__getattr__"=some none)(QcW:findIn K (.ref Qau) "__class__"=some (some (.builtin "object.__class__")))(QcX:subIn K (.ref Qau) (.type "object")=some true)(QcY:subIn K (.ref Qau) (.type "BaseException")=some true)(QcZ:excIn K Qax bmV "ValueError.__new__"=true)(Qc8:findIn K (.ref Qax) "__getattribute__"=some (some (.builtin "BaseException.__getattribute__")))(Qc9:findIn K (.ref Qax) "__getattr__"=some none)(Qda:findIn K (.ref Qax) "__class__"=some (some (.builtin "object.__class__")))(Qdb:subIn K (.ref Qax) (.type "object")=some true)(Qdc:subIn K (.ref Qax) (.type "BaseException")=some true)(Qdd:nsIn K mainGlobals "Lives"=some (some (.ref Qac)))(pg_Lives:plainGet K Qac Str.empty=true)(hd_Lives:hasDictIn K Qac=true)(po_Lives:plainOver K Qac=true)(sa_Lives:findIn K (.ref Qac) "__setattr__"=some (some (.builtin "object.__setattr__")))(na_Lives_births:findIn K (.ref Qac) "births"=some none)(na_Lives_deaths:findIn K (.ref Qac) "deaths"=some none)(na_Lives_broods:findIn K (.ref Qac) "broods"=some none)(Qde:nsIn K mainGlobals "World"=some (some (.ref Qaf)))(pg_World:plainGet K Qaf Str.empty=true)(hd_World:hasDictIn K Qaf=true)(po_World:plainOver K Qaf=true)(sa_World:findIn K (.ref Qaf) "__setattr__"=some (some (.builtin "object.__setattr__")))(na_World_year:findIn K (.ref Qaf) "year"=some none)(na_World_lives:findIn K (.ref Qaf) "lives"=some none)(na_World_happened:findIn K (.ref Qaf) "happened"=some none)(Qdf:nsIn K mainGlobals "MET"=some (some (.str "met" Qbg)))(Qdg:nsIn K mainGlobals "FAILED"=some (some (.str "failed" Qbh)))(Qdh:nsIn K mainGlobals "HANGS"=some (some (.str "hangs" Qbi)))(Qdi:nsIn K mainGlobals "LONGEST_WORD"=some (some (.int 8 Qbj)))(Qdj:nsIn K mainGlobals "LONGEST_NUMBER"=some (some (.int 2 Qbk)))(Qdk:nsIn K mainGlobals "MOST_NUMBERS"=some (some (.int 5 Qbl)))(Qdl:nsIn K mainGlobals "BARRED"=some (some (.ref Qba)))(lk_BARRED:K.lookup Qba=some ⟨.type "tuple",QdG, .seq #[.str "crown" QdJ, .str "kids" QdK] QdH,QdI⟩)(Qdm:nsIn K mainGlobals "LATE"=some (some (.str "late" Qbm)))(Qdn:nsIn K mainGlobals "LAST_FIRST_YEAR"=some (some (.int 9999 Qbn)))(Qdo:nsIn K mainGlobals "MOST_YEARS"=some (some (.int 60 Qbo)))(Qdp:nsIn K mainGlobals "OLDEST"=some (some (.int 120 Qbp)))(Qdq:nsIn K mainGlobals "SURE"=some (some (.str "sure" Qbq)))(Qdr:nsIn K mainGlobals "ABOUT_PEOPLE"=some (some (.ref Qbb)))(lk_ABOUT_PEOPLE:K.lookup Qbb=some ⟨.type "tuple",QdL, .seq #[.str "born" QdO, .str "dead" QdP, .str "age" QdQ] QdM,QdN⟩)(mk_Lives:makesIn K Qac=true)(kc_Lives:keepIn K (.ref Qac)=true)(mk_World:makesIn K Qaf=true)(kc_World:keepIn K (.ref Qaf)=true)(p0:GlP K "within" Zgg)(p1:GlP K "good_word" ZbT)(p2:GlP K "good_number" J6)(p3:GlP K "parts" Zic)(p4:GlP K "shortened" ZbJ)(p5:MtP K Qac "nearest" "Lives.nearest" X5)(p6:GlP K "nearest_named" X1)(p7:MtP K Qac "known" "Lives.known" Zad)(p8:MtP K Qac "want_known" "Lives.want_known" Xk)(p9:MtP K Qac "age_in" "Lives.age_in" JB)(p10:MtP K Qaf "age" "World.age" ZbX)(p11:MtP K Qac "alive" "Lives.alive" Zah)(p12:GlP K "age_stand" ZbW)(p13:GlP K "person_stand" Jw)(p14:MtP K Qaf "came_in" "World.came_in" X4)(p15:GlP K "atom_stand" ZaL)(p16:GlP K "together" ZcW)(p17:GlP K "stand" Zib)(p18:MtP K Qac "children" "Lives.children" XI)(p19:GlP K "brood" Zid)(p20:GlP K "left_out" Zc0)(p21:GlP K "members" Zeq)(p22:GlP K "has_seat" Zdc)(p23:GlP K "waiting" Zep)(p24:GlP K "may_grow" ZcZ)(p25:GlP K "class_stand" J7)(p26:GlP K "want_word" ZbI)(p27:MtP K Qac "__init__" "Lives.__init__" XJ)(p28:MtP K Qac "enter" "Lives.enter" Zae)(p29:MtP K Qac "want_alive" "Lives.want_alive" Xl)(p30:MtP K Qac "arrive" "Lives.arrive" JA)(p31:MtP K Qac "birth" "Lives.birth" Zag)(p32:MtP K Qac "death" "Lives.death" Zaf)(p33:MtP K Qac "born_in" "Lives.born_in" X6)(p34:MtP K Qac "names" "Lives.names" Zac)(p35:MtP K Qac "living" "Lives.living" Jz)(p36:GlP K "is_class" Zdb)(p37:GlP K "left_out_of" J2)(p38:GlP K "wanted" Zgh)(p39:GlP K "whole_stand" J1)(p40:GlP K "want_between" Jv)(p41:MtP K Qaf "__init__" "World.__init__" XH)(p42:MtP K Qaf "pass_years" "World.pass_years" Xj)(p43:MtP K Qaf "arrive" "World.arrive" Jy)(p44:MtP K Qaf "birth" "World.birth" Zab)(p45:MtP K Qaf "death" "World.death" J9)(p46:MtP K Qaf "comes" "World.comes" Zaa)(p47:GlP K "class_end" ZbV)(p48:GlP K "first_end" ZbU)(p49:GlP K "births_away" J8)(p50:GlP K "atom_lingers" Jx)(p51:GlP K "class_lingers" X2)(p52:GlP K "hanging" Zev)(p53:GlP K "is_late" Zeu)(p54:GlP K "years_deeds" J0)(p55:GlP K "child_towards" X3)(p56:GlP K "children_wanted" YD)(p57:GlP K "story_of" ZcX)(p58:GlP K "names_of" ZcY)(p59:GlP K "judged" Zgj)(p60:GlP K "_law_num" Zes)(p61:GlP K "_law_cell_at" J4)(p62:GlP K "_law_rich" Zc2)(p63:GlP K "_law_word" Zc1)(p64:GlP K "_law_model" ZbO)(p65:GlP K "_law_kids" Zc7)(p66:GlP K "_law_living" ZaK)(p67:GlP K "_law_play" Zc3)(p68:GlP K "_law_next_deed" ZK)(p69:GlP K "_law_start" ZbM)(p70:GlP K "_law_do" Zgi)(p71:GlP K "_law_path" Zc4)(p72:GlP K "_law_need" Zc5)(p73:GlP K "_law_needs" ZbN)(p74:GlP K "_law_near" Zc6)(p75:GlP K "_law_age" Zet)(p76:GlP K "_law_atom" Zda)(p77:GlP K "_law_fold" Zc9)(p78:GlP K "_law_members" J3)(p79:GlP K "_law_young" ZbK)(p80:GlP K "_law_seated" ZaJ)(p81:GlP K "_law_class" ZbQ)(p82:GlP K "_law_whole" ZbL)(p83:GlP K "_law_out" Zer)(p84:GlP K "_law_holder" YL)(p85:GlP K "_law_judged_row" XG)(p86:GlP K "_law_good" Zc8)(p87:GlP K "_law_again" ZbR)(p88:GlP K "_law_hangs" ZbP)(p89:GlP K "law" ZbS)
    : ∃(g:Ga)(fd:FuncData),(∀(s:Shared)(v:Value),BindsTo s fd ⟨[v],[]⟩ [("_law_script",v)])/\∀ base:Heap,K.In base->base.Ns mainGlobals mg->FnOk l.prog w K mg base CX0 12 fa fd ["_law_script"] (Zh1 K g):=by
  have T:Txt K ({ LandError:=Qbf,NoText:=Qas,OutOfBound:=Qat,Taken:=Qau,NoPerson:=Qav,Gone:=Qaw,TooDeep:=Qax,Lives:=Qac,World:=Qaf,MET:=Qbg,FAILED:=Qbh,HANGS:=Qbi,LONGEST_WORD:=Qbj,LONGEST_NUMBER:=Qbk,MOST_NUMBERS:=Qbl,BARRED:=Qba,LATE:=Qbm,LAST_FIRST_YEAR:=Qbn,MOST_YEARS:=Qbo,OLDEST:=Qbp,SURE:=Qbq,ABOUT_PEOPLE:=Qbb }:Ga) mg:=⟨mg_none_of X G Qcb,mg_none_of X G Qcc,mg_none_of X G Qcd,mg_none_of X G Qce,mg_none_of X G Qcf,mg_none_of X G Qcg,mg_none_of X G Qch,mg_none_of X G Qci,mg_none_of X G Qcj,mg_none_of X G Qck,mg_none_of X G Qcl,mg_none_of X G Qcm,mg_none_of X G Qcn,mg_of X G Qco,mg_of X G Qcp,mg_of X G Qcq,mg_of X G Qcr,mg_of X G Qcs,mg_of X G Qct,mg_of X G Qcu,⟨Qcv,Qcw,Qcx,Qcy,Qcz,QcA⟩,⟨QcB,QcC,QcD,QcE,QcF,QcG⟩,⟨QcH,QcI,QcJ,QcK,QcL,QcM⟩,⟨QcN,QcO,QcP,QcQ,QcR,QcS⟩,⟨QcT,QcU,QcV,QcW,QcX,QcY⟩,⟨QcZ,Qc8,Qc9,Qda,Qdb,Qdc⟩,mg_of X G Qdd,⟨pg_Lives,hd_Lives,po_Lives,sa_Lives⟩,na_Lives_births,na_Lives_deaths,na_Lives_broods,mg_of X G Qde,⟨pg_World,hd_World,po_World,sa_World⟩,na_World_year,na_World_lives,na_World_happened,mg_of X G Qdf,mg_of X G Qdg,mg_of X G Qdh,mg_of X G Qdi,mg_of X G Qdj,mg_of X G Qdk,mg_of X G Qdl,λ _ => .inr ⟨_,_,_,lk_BARRED,rfl,rfl,by show 2<=sizeLine;decide, .cons ⟨_,rfl⟩ (.cons ⟨_,rfl⟩ (.nil))⟩,mg_of X G Qdm,mg_of X G Qdn,mg_of X G Qdo,mg_of X G Qdp,mg_of X G Qdq,mg_of X G Qdr,λ _ => .inr ⟨_,_,_,lk_ABOUT_PEOPLE,rfl,rfl,by show 3<=sizeLine;decide, .cons ⟨_,rfl⟩ (.cons ⟨_,rfl⟩ (.cons ⟨_,rfl⟩ (.nil)))⟩⟩;obtain⟨fd,bl,Fl⟩:=la_gl (l:="_law_script") X G hfa p89 (λ _ _ _ _ _ _ s v => .of_eq rfl);refine⟨{ LandError:=Qbf,NoText:=Qas,OutOfBound:=Qat,Taken:=Qau,NoPerson:=Qav,Gone:=Qaw,TooDeep:=Qax,Lives:=Qac,World:=Qaf,MET:=Qbg,FAILED:=Qbh,HANGS:=Qbi,LONGEST_WORD:=Qbj,LONGEST_NUMBER:=Qbk,MOST_NUMBERS:=Qbl,BARRED:=Qba,LATE:=Qbm,LAST_FIRST_YEAR:=Qbn,MOST_YEARS:=Qbo,OLDEST:=Qbp,SURE:=Qbq,ABOUT_PEOPLE:=Qbb },fd,bl,λ base _ _=>?_⟩;generalize hg:({ LandError:=Qbf,NoText:=Qas,OutOfBound:=Qat,Taken:=Qau,NoPerson:=Qav,Gone:=Qaw,TooDeep:=Qax,Lives:=Qac,World:=Qaf,MET:=Qbg,FAILED:=Qbh,HANGS:=Qbi,LONGEST_WORD:=Qbj,LONGEST_NUMBER:=Qbk,MOST_NUMBERS:=Qbl,BARRED:=Qba,LATE:=Qbm,LAST_FIRST_YEAR:=Qbn,MOST_YEARS:=Qbo,OLDEST:=Qbp,SURE:=Qbq,ABOUT_PEOPLE:=Qbb }:Ga)=g at T;have e_Lives:Qac=g.Lives:=by rw[<- hg]
  have e_World:Qaf=g.World:=by rw[<- hg]
  have QaK:ZgW l.prog w K g mg base:=ZE X G p0 (Zly · T) (by walk_at "b3");have QaL:Zb8 l.prog w K g mg base:=ZE X G p1 (Ziv · T QaK) (by walk_at "b1");have Qbu:ZcO l.prog w K g mg base:=ZE X G p2 (Zgw · T QaK) (by walk_at "b1");have QaF:ZiQ l.prog w K g mg base:=ZhI X G p3 (Zmx · T QaL Qbu) (by walk_at "b1");have Qbv:Zfj l.prog w K g mg base:=ZE X G p4 (Zim · T) (by walk_at "b1");have Qai:YB l.prog w K g mg base:=Xe T.Qab (e_Lives▸p5) (ZeF · T QaF Qbv) (by walk_at "b2");have Qbx:Za6 l.prog w K g mg base:=ZhI X G p6 (ZeA · T Qai) (by walk_at "b2");have Qag:YH l.prog w K g mg base:=Xe T.Qab (e_Lives▸p7) (ZgD · T) (by walk_at "b2");have Qaj:Yu l.prog w K g mg base:=Xe T.Qab (e_Lives▸p8) (ZcA · T Qag) (by walk_at "b2");have Qbw:Zcf l.prog w K g mg base:=Xe T.Qab (e_Lives▸p9) (ZfC · T Qaj) (by walk_at "b3");have QaM:Zcd l.prog w K g mg base:=Xe T.Qaa (e_World▸p10) (Ziz · T Qbw) (by walk_at "b2");have Qad:Z7 l.prog w K g mg base:=Xe T.Qab (e_Lives▸p11) (ZgH · T) (by walk_at "b2");have QaN:Zcb l.prog w K g mg base:=ZE X G p12 (Ziy · T QaM Qad) (by walk_at "b3");have Qby:Zb5 l.prog w K g mg base:=ZhI X G p13 (Zfx · T Qag QaN Qad Qbx) (by walk_at "b2");have Qbz:Zba l.prog w K g mg base:=Xe T.Qaa (e_World▸p14) (ZeE · T) (by walk_at "b2");have QaP:ZaV l.prog w K g mg base:=ZhI X G p15 (Zhi · T Qby Qbz) (by walk_at "b2");have QaO:Zdn l.prog w K g mg base:=ZE X G p16 (Zjn · T) (by walk_at "b1");have QbA:Zk9 l.prog w K g mg base:=ZE X G p17 (Zmw · T QaO QaP) (by walk_at "b2");have Qaz:Y6 l.prog w K g mg base:=Xe T.Qab (e_Lives▸p18) (Zd6 · T Qaj) (by walk_at "b2");have QaQ:ZiR l.prog w K g mg base:=ZE X G p19 (Zmy · T Qag Qaz) (by walk_at "b2");have QaX:Zdp l.prog w K g mg base:=ZE X G p20 (Zjr · T QaQ Qad) (by walk_at "b2");have QaR:ZeL l.prog w K g mg base:=ZE X G p21 (Zkd · T QaQ) (by walk_at "b3");have QaT:Zds l.prog w K g mg base:=ZE X G p22 (ZjD · T QaR QaM) (by walk_at "b4");have QaA:Zcs l.prog w K g mg base:=ZE X G p23 (Zkc · T QaR QaN) (by walk_at "b4");have QaS:Zdo l.prog w K g mg base:=ZE X G p24 (Zjq · T Qad Qai) (by walk_at "b2");have QbB:ZcP l.prog w K g mg base:=ZE X G p25 (Zgx · T QaS QaA QaT) (by walk_at "b4");have QaU:Zb4 l.prog w K g mg base:=ZhI X G p26 (Zil · T QaL) (by walk_at "b1");have QbC:ZjN l.prog w K g mg base:=dk_mt T.Qdy (e_Lives▸mk_Lives) (e_Lives▸kc_Lives) (e_Lives▸p27) (Zd7 · T) (by walk_at "b1");have QaV:Zal l.prog w K g mg base:=Xe T.Qab (e_Lives▸p28) (ZgE · T) (by walk_at "b3");have QaW:Xn l.prog w K g mg base:=Xe T.Qab (e_Lives▸p29) (ZcB · T Qaj Qad) (by walk_at "b2");have QbD:Zce l.prog w K g mg base:=Xe T.Qab (e_Lives▸p30) (ZfB · T QaU Qag QaV) (by walk_at "b3");have QbE:ZcV l.prog w K g mg base:=Xe T.Qab (e_Lives▸p31) (ZgG · T QaW QaV) (by walk_at "b3");have QbF:ZcU l.prog w K g mg base:=Xe T.Qab (e_Lives▸p32) (ZgF · T QaW) (by walk_at "b3");have QaZ:X9 l.prog w K g mg base:=Xe T.Qab (e_Lives▸p33) (ZeG · T Qaj) (by walk_at "b2");have QdT:Dm l.prog w K mg base CX0 g.Lives 1 "names" ["self"] (Zbw K g):=Xe T.Qab (e_Lives▸p34) (ZgC · T) (by walk_at "b1");have Qa1:JM l.prog w K g mg base:=Xe T.Qab (e_Lives▸p35) (ZfA · T) (by walk_at "b1");have Qae:YZ l.prog w K g mg base:=ZE X G p36 (ZjC · T) (by walk_at "b1");have Qa2:Zaj l.prog w K g mg base:=ZE X G p37 (Zgt · T Qae QaX) (by walk_at "b2");have QaY:ZgX l.prog w K g mg base:=ZE X G p38 (Zlz · T Qae) (by walk_at "b2");have QbM:ZcM l.prog w K g mg base:=ZE X G p39 (Zgs · T QbA QaO QaY Qae QbB) (by walk_at "b4");have QaB:XA l.prog w K g mg base:=ZhI X G p40 (Zfw · T) (by walk_at "b3");have Qb2:ZjM l.prog w K g mg base:=dk_mt T.Qdz (e_World▸mk_World) (e_World▸kc_World) (e_World▸p41) (Zd5 · T QaB QbC) (by walk_at "b2");have QbQ:JL l.prog w K g mg base:=Xe T.Qaa (e_World▸p42) (Zcz · T QaB) (by walk_at "b2");have QbR:Zcc l.prog w K g mg base:=Xe T.Qaa (e_World▸p43) (Zfz · T QaB QbD) (by walk_at "b3");have QbS:ZcT l.prog w K g mg base:=Xe T.Qaa (e_World▸p44) (ZgB · T QbE) (by walk_at "b2");have QbT:ZcR l.prog w K g mg base:=Xe T.Qaa (e_World▸p45) (Zgz · T QbF) (by walk_at "b2");have QbP:ZcS l.prog w K g mg base:=Xe T.Qaa (e_World▸p46) (ZgA · T QaU) (by walk_at "b2");have QbG:Zfq l.prog w K g mg base:=ZE X G p47 (Zix · T QaX QaS QaT QaZ QaA) (by walk_at "b3");have Qa0:Zb9 l.prog w K g mg base:=ZE X G p48 (Ziw · T Qae QaZ QbG Qad) (by walk_at "b3");have QbH:ZcQ l.prog w K g mg base:=ZE X G p49 (Zgy · T Qai) (by walk_at "b2");have QbJ:Zca l.prog w K g mg base:=ZE X G p50 (Zfy · T QbH) (by walk_at "b4");have QbI:Za8 l.prog w K g mg base:=ZE X G p51 (ZeC · T Qag Qad) (by walk_at "b4");have QaC:Zcu l.prog w K g mg base:=ZE X G p52 (Zki · T QaY QaP) (by walk_at "b3");have QbL:ZhN l.prog w K g mg base:=ZE X G p53 (Zkh · T Qa0 Qae QbI QbJ QaC) (by walk_at "b4");have Qbd:ZcL l.prog w K g mg base:=ZE X G p54 (Zgr · T) (by walk_at "b1");have Qbc:Za9 l.prog w K g mg base:=ZE X G p55 (ZeD · T Qai QaF) (by walk_at "b2");have QbK:JX l.prog w K g mg base:=ZE X G p56 (Zdh · T Qbc Qae Qad QaC Qag Qaz) (by walk_at "b3");have QbO:ZgY l.prog w K g mg base:=ZE X G p57 (Zjo · T QbK Qbd Qa0 Qa1 Qaz) (by walk_at "b4");have QbN:ZgZ l.prog w K g mg base:=ZE X G p58 (Zjp · T Qae Qai Qad QaC QaA Qa2) (by walk_at "b3");have Qb8:ZjP l.prog w K g mg base:=ZE X G p59 (ZlB · T QbL QbM QbN Qa2 QbO) (by walk_at "b4");have Qb1:ZhM l.prog w K g mg base:=ZE X G p60 (Zkf · T) (by walk_at "b1");have Qa8:ZcN l.prog w K g mg base:=ZE X G p61 (Zgv · T) (by walk_at "b2");have Qaq:Zdq l.prog w K g mg base:=ZE X G p62 (Zjt · T) (by walk_at "b2");have Qap:ZaS l.prog w K g mg base:=ZE X G p63 (Zjs · T) (by walk_at "b1");have Qa5:Zb6 l.prog w K g mg base:=ZE X G p64 (Zir · T) (by walk_at "b1");have Qak:JK l.prog w K g mg base:=ZE X G p65 (Zjy · T) (by walk_at "b2");have Qao:Jk l.prog w K g mg base:=ZE X G p66 (Zhg · T) (by walk_at "b1");have Qar:ZaT l.prog w K g mg base:=ZE X G p67 (Zju · T Qak) (by walk_at "b2");have Qb9:Za7 l.prog w K g mg base:=ZE X G p68 (ZeB · T Qao Qap) (by walk_at "b3");have Qb5:Zfm l.prog w K g mg base:=ZE X G p69 (Zip · T Qap) (by walk_at "b1");have Qa6:Zg3 l.prog w K g mg base:=ZE X G p70 (ZlA · T QbP QbQ QbR QbS QbT) (by walk_at "b2");have Qa3:Zdr l.prog w K g mg base:=ZE X G p71 (Zjv · T) (by walk_at "b2");have QbU:Zg0 l.prog w K g mg base:=ZE X G p72 (Zjw · T Qa3 Qap) (by walk_at "b2");have QbZ:Zfn l.prog w K g mg base:=ZE X G p73 (Ziq · T QbU Qaq) (by walk_at "b3");have QaE:ZaU l.prog w K g mg base:=ZE X G p74 (Zjx · T) (by walk_at "b2");have QaD:Zct l.prog w K g mg base:=ZE X G p75 (Zkg · T) (by walk_at "b2");have Qbe:Zg4 l.prog w K g mg base:=ZE X G p76 (ZjB · T QaD QaE) (by walk_at "b2");have QbX:Zg2 l.prog w K g mg base:=ZE X G p77 (ZjA · T) (by walk_at "b1");have Qa4:Zak l.prog w K g mg base:=ZE X G p78 (Zgu · T Qak) (by walk_at "b3");have QbV:Zfk l.prog w K g mg base:=ZE X G p79 (Zin · T Qa4 QaD) (by walk_at "b4");have QbW:Zef l.prog w K g mg base:=ZE X G p80 (Zhf · T Qa4 QaD) (by walk_at "b4");have QbY:Zfp l.prog w K g mg base:=ZE X G p81 (Zit · T QaE QbV QbW) (by walk_at "b4");have Qb4:Zfl l.prog w K g mg base:=ZE X G p82 (Zio · T QbX Qbe QbY) (by walk_at "b4");have Qb7:ZhL l.prog w K g mg base:=ZE X G p83 (Zke · T Qak) (by walk_at "b2");have Qb0:Zeg l.prog w K g mg base:=ZE X G p84 (Zhh · T Qa3 QaE) (by walk_at "b2");have Qb6:ZaD l.prog w K g mg base:=ZE X G p85 (Zd4 · T QbZ Qb0) (by walk_at "b2");have Qb3:Zg1 l.prog w K g mg base:=ZE X G p86 (Zjz · T Qb1) (by walk_at "b2");have Qa7:Zb7 l.prog w K g mg base:=ZE X G p87 (Ziu · T Qa5 Qa6 Qar Qb2) (by walk_at "b2");have Qca:Zfo l.prog w K g mg base:=ZE X G p88 (Zis · T Qa7 Qao Qa6 Qar Qb3 Qa1 Qb4) (by walk_at "b7");exact ok_law Fl T Qaq Qa5 Qb5 Qa7 Qa8 Qar Qb6 Qb7 Qb8 Qb9 Qao Qca Qak
theorem walk {l:PySem.W.OpenLaw}{q:Program}{loose:List Str}{XP:(Str->Option Value)->Heap->Prop}{YP:World->Heap->Prop}{d:DefRec}{K:Params->Frag}(hn:l.most=some 63)(hdf:d.params.defaults=[])(hY:∀(w:World)(h:Heap),YP w h->(K w.params).In h)(F:∀(w:World)(mg:Str->Option Value)(fa:Addr)(h:Heap),(K w.params).In h->h.Ns mainGlobals mg->mg d.name=some (.ref fa) ->
      ∃(g:Ga)(fd:FuncData),(∀(s:Shared)(u:Value),BindsTo s fd ⟨[u],[]⟩ [("_law_script",u)])/\∀ base:Heap,(K w.params).In base->base.Ns mainGlobals mg->FnOk l.prog w (K w.params) mg base CX0 12 fa fd ["_law_script"] (Zh1 (K w.params) g)) :
    PySem.W.WalkO q loose XP YP l.row.toRowW d [] (λ f vs=>PySem.call f vs):=
  L2.walk_of (n:=63) (k:=12) (x:="_law_script") (CX:=λ _=>CX0) (sp:=λ w=>Zh1 (K w.params) {}) hn (by decide) hdf ⟨rfl,by decide,by decide⟩ hY (λ w mg fa h a b c=>(F w mg fa h a b c).elim λ _ z=>z) (λ _ _ a ns hl _ hS=>⟨a,ns,rfl,hS,hl,λ _=>rfl⟩) λ _ _ _ _ _ z=>z
end My
namespace PySem.W
set_option genInjectivity false in
set_option genSizeOfSpec false in
structure Fast:Prop where
  (tw8635086600485472414 tw9074511519625265928 tw6942153086795441938 tw10260485261309396610 tw2067758265177095291 tw6994088870568703705 tw13691636870772290718 tw9204265142438780054 tw7333642295188820588 tw7709141332682771487 tw3612344386553826463 tw2223746393789687084 tw335196227745002069 tw6105571187114928108 tw2085133095182368056 tw4170001868423399355 tw9663587304292814120 tw5720626463211397677 tw16948480630383856032 tw12236613236281440244 tw1578636402551051034 tw1380902947116721765 tw3973880335635930789 tw9142032925048473513 tw9907271154476841707 tw3839028981869705223 tw6507573433805383949 tw9804361497236513257 tw563579190435646746 tw14669596782484518827 tw567062918711738166 tw8581097590430333456 tw11090255372707070613 tw16207939080802818340 tw1735554474116325808 tw12346936434251620337 tw2028631842042980234 tw10864369002817580778 tw6059207612349906765 tw17951613137167013220 tw8897390022889926435 tw13202974627607031637 tw7139515067406372775 tw13526566424334871341 tw13164867977861987172 tw8338926341154454212 tw6919613204772044595 tw5509532538789592744 tw6838331490858388049 tw778826892354120261 tw3988852948560095718 tw465358673342010813 tw11231644143528708295 tw9106759423920811717 tw7958105432223023571 tw18187479081463445167 tw17379401256965775044 tw475323481993815794 tw3073934843755486938 tw8467207966855216681 tw13225749551812986748 tw17990329886256870487 tw1821740900566092454 tw786300426124953195 tw12402974259662837282 tw15771051435019829083 tw11118100228150800831 tw3547655190229680978 tw2304658109848326921 tw2420163173144332595 tw9905670788386544178 tw16861221332213399249 tw12679223243235896064 tw11363359308968691318 tw16775319796944622670 tw2391952441766894750 tw15377470071012075620 tw15397287202688733858 tw9132576986981618644 tw754142546833236124 tw12616649797981627433 tw7626604045597632155 tw15147248085468382316 tw16969664271371850467 tw2329042689618272034 tw2851510134119369562 tw11940640505290225711 tw15107808523288270323 tw6944181759132672784 tw17370682803984950096 tw13517274659561266469 tw4873226474868476605 tw6591217781405597962 tw17217366056070991300 tw2534111589903693471 tw15909511451160926008 tw16740805227873883165 tw4930581144548345886 tw14748185945146879832 tw7428322131055496141 tw12720231532255228226 tw8909338786124295996 tw10713467381100512373 tw2181364311813476590 tw5457455879380332258 tw15965271226445951139 tw2049369981482158882 tw8518141478215421189 tw4756051570282365481 tw15346143477103640530 tw1233994795248625337 tw16638495780193864959 tw13798982741505906971 tw12538131325306829825 tw5041526835085113768 tw8347264192808491159 tw5847301400832528944 tw5992779111081681673 tw9198883555435077480 tw7194712569003114105 tw17265424221226926909 tw2959433936922584735 tw12937193984486424090 tw12363344683490774437 tw11899845029861775996 tw15923807210180750020 tw16720837870288971952 tw18240717013577339384 tw280515264439304361 tw4081531929411961539 tw13670924898295113516 tw782302208512310319 tw7629290422126439075 tw10162447743365880660 tw11419331658439611750 tw14537312786481321865 tw11322252416722931123 tw7355840893329608261 tw13040802258194368637 tw9026806972054501555 tw2866044792225714947 tw43141207564803258 tw16858787858728238797 tw5193466053505443490 tw2351265619536265613 tw5554279944803902928 tw17356180183433941900 tw2345079404802088340 tw2843617770637627113 tw12393073779215362757 tw18165619426023258936 tw14587960012369967446 tw12443929062929668146 tw11159056720026563669 tw6291127977383837435 tw14868127206664636335 tw8468070747392438313 tw6304097336486178481 tw10567835783149819837 tw5945206708881602969 tw14049717946763984458 tw6227855870995390358 tw12348531254869872749 tw13487842924009065287 tw4627141868590712670 tw5038699151578657653 tw10921546989227413547 tw1600325664265885601 tw16462591962830038250 tw9443212278761839996 tw1338394652005245116 tw5413199789366065184 tw865410751294679295 tw18001885495305873014 tw5803038223945828454 tw9088632984875087366 tw6275948466040696042 tw13670347172489528671 tw15979375841896466896 tw13892630734966422986 tw15059338412826212457 tw12405017015116173886 tw8430281100409424840 tw12350495268645369382 tw15429985276453972389 tw4644538842608286289 tw1569469770659304810 tw10001206690635041285 tw6415202634829069714 tw2704554368279146092 tw2645941682535322481 tw17536735924242380549 tw12117377206228924313 tw1593400897411804916 tw12399590724805724419 tw1733782579963041502 tw1919923048921518705 tw7398272542213569702 tw11837551276728190776 tw13564080550067774996 tw11651559982431938070 tw3186315362650766619 tw11907589741070156524 tw3317216154613894227 tw11227377151630837500 tw16325301788139682388 tw12313327152893777836 tw13750918010981491445 tw10632131025830495134 tw12528359448599840812 tw18224256080285418506 tw4501683954803226328 tw4910052587353145117 tw848817985192248053 tw18415446014174499749 tw17296714208058331011 tw16710077691610786378 tw3154916589347802613 tw10283873590687978327 tw10962688744739134250 tw17129021025333914507 tw17626428310085742318 tw8125850254710418260 tw14006465823786487212 tw16382365232177179527 tw17423617489693393070 tw15266723972020534973 tw4395060529851967888 tw11232791478086995853 tw8890917390174098681 tw8216693947299331183 tw11177461709294547550 tw10334967512294611580 tw8206214261807501250 tw12116667272070207687 tw35271469263664344 tw2495395936401074072 tw18227915861707163467 tw855598953689208625 tw10035529584617789296 tw12115595924971632745 tw16915174346895925464 tw7826906029186888586 tw9552786195638263818 tw6565885950878044028 tw4262516036260767792 tw3703971845833252081 tw13307079381944888468 tw16598380288839282779 tw9341019480965042353 tw14761454456421959046 tw12526948420145415743 tw17221959515370864137 tw14512664786943929635 tw1308359797825152114 tw13007264093880984847 tw17884631629337510517 tw16912235752202552089 tw2436875490985785789 tw10502229212280993017 tw9376458493949921056 tw7797785002134748921 tw12216805675802690973 tw12754124918756780175 tw1024332759815484081 tw539934448749924562 tw12288593744680426296 tw13313867571389127326 tw8425355027372040464 tw7381806676584386818 tw4207157751034934142 tw12729764700510644721 tw4997279559136594190 tw3952901158566828548 tw13926953647688242178 tw10957762823517206935 tw2288312403912359111 tw12267646852899932182 tw1976349451063725135 tw10307536196064806071 tw7861407546684487480 tw14570263215816859933 tw10891716774933057853 tw10455695942941644411 tw3525758009193384321 tw3172974370317289413 tw8107736729298315562 tw14560231879252864983 tw15775739255349134875 tw4289799627899853344 tw16887176693932578609 tw18052727008492779582 tw10131082776759281638 tw1856335875890517227 tw10732540900673760455 tw11125407396710138950 tw9921227593939490856 tw14769613204729566802 tw5638697778820883732 tw15406835235975857309 tw9189875369352567331 tw18076742492848511200 tw14289288253395510914 tw8758090787900697706 tw1827814402396961988 tw770734814811568162 tw17698822255805523548 tw8937910287945602970 tw12667997976638361809 tw7718580958372897634 tw9315493858303238375 tw8683329230668058266 tw12487950810279581212 tw2936289933241835797 tw4507575759236612543 tw14502824094346208235 tw1343915124267727002 tw4077494800819734688 tw17477207982440171529 tw1083952957914073302 tw490325386533618884 tw17754722392091936144 tw9967099915989278584 tw13664504147988424054 tw15762611233262362084 tw16557233809911409834 tw8976114059247463364 tw12396006550580204607 tw15540253749967543983 tw3917816254632260860 tw3135122169350883012 tw5234921443589812084 tw14497128725045955736 tw15609651193282515562 tw8871303451635751198 tw10441539326290092014 tw8967822292684180229 tw9731177040298007158 tw6338224466595220381 tw1284313204056624909 tw2765537546121775291 tw8403547469369934680 tw10985155036074901207 tw14713936170432987318 tw7391340830154285214 tw14191569437211312435 tw18377211371369682534 tw8132888435546406516 tw6617698072199719911 tw15326424611217121841 tw6105129480716029591 tw12586299404343651137 tw503846313484158441 tw18100839538460905385 tw12174643171032960740 tw9143441916405654502 tw12939939697822444731 tw13964034093814572503 tw12020769120846348416 tw3479110667068222906 tw10045233672322107306 tw5767003317720105327 tw11760946164803719686 tw11947301657370669816 tw12247073557466415370 tw9711904317671763967 tw8959127741015937047 tw13597640706667018045 tw10551960620128786039 tw1579579515342230986 tw17573169181174371380 tw6786103197638017725 tw12817623287378250531 tw16003206899961198006 tw11876384746832488744 tw9867123839333558081 tw17571927935640601701 tw13484977978515115571 tw10908362522467678269 tw477394578836663250 tw7299096334269069185 tw1132695220516492640 tw16633112626251769473 tw3487263093071769767 tw34615510595101553 tw7751385484232454305 tw3667439037408268850 tw13065856263831701368 tw1694701906865702251 tw16642262862379779752 tw4429462935010574419 tw1104210183528252574 tw1268435808119084882 tw9584978247313087376 tw11876332314795762928 tw1543420317363258300 tw16476265224352330624 tw11773222099471633264 tw1250661609392549617 tw13085529154870668705 tw16317190601326593235 tw5943660629124146640 tw6287610984084987683 tw298582921354713646 tw5967366181429156628 tw12544827854948588257 tw5086189656752864328 tw6967099773350339046 tw16286944042965447738 tw4686500355712758713 tw6987286119692940943 tw1516303390304357050 tw12974522956666214319 tw12772930803644350595 tw1996882034937014521 tw13440852278714880309 tw14274160152947471706 tw8998358675048361439 tw17915964302085017808 tw593886162615986302 tw14027473447836378003 tw2650859624873053384 tw17051915223587837436 tw1984639314345489689 tw17934562768506801175 tw1285181359509838271 tw17082754283166620981 tw13760745601775317339 tw9828289414245452721 tw13661941574853505305 tw7752590195662913576 tw12134878645549940818 tw5286771623301478984 tw12023712783289782666 tw16803254072307258119 tw15057389903017436962 tw2433709089479336327 tw7870543615168471349 tw16245797871182543904 tw11785414096045064482 tw824308500349609013 tw12680253103790539527 tw4946832561835121812 tw14367858656697411009 tw2321911121134723963 tw13767657710826751925 tw12414405910588001310 tw17215198487008548652 tw5269036353241635484 tw7947465142828249644 tw6075684165632710485 tw12881901400784083375 tw2374601490144206413 tw2364204500269532728 tw16686556004207111065 tw5092665325505775103 tw6466245942650035671 tw15920577984032869111 tw7548933108953843764 tw4263207956252732218 tw3278583260299492770 tw5034351223463606656 tw2970406175445543364 tw9877573353525075150 tw6729348080072683421 tw16320956696686195427 tw3691109667858310313 tw7082334766164578300 tw11435071378395325489 tw6101984670121707189 tw9755851432697149968 tw7718928617209222472 tw17883217198503011866 tw8859309372117489000 tw5245235170645534469 tw4898098560405474316 tw12848695472496168168 tw2911642038624131614 tw6571467304536218880 tw7599200596843602151 tw18418576498969758756 tw9218989950785492216 tw3158952813602852236 tw7690936651555276358 tw5313138551583002499 tw12253666825215789527 tw14642328885713225375 tw10009660661393161463 tw4912023870468609064 tw11876387752394202887 tw7063864243379486619 tw8152568385373573743 tw8463512398518410433 tw99676223482630847 tw2172261370480802954 tw17798037371003401325 tw9490381080678776644 tw14090534814467020433 tw8630567468434337948 tw13481303162656493736 tw591700268023118881 tw957128401455116123 tw5740171179516343267 tw11597551743416786529 tw1881466004862225838 tw4780187987727721295 tw10581999829059597101 tw4563494649229710411 tw2645340917905956085:True)
end PySem.W
open PySem PySem.W PyProof.Rows
set_option maxRecDepth 100000 in
set_option maxHeartbeats 0 in
theorem PySem.Challenge.cw_deadhand_k24_whole_late_story_hangs_holds : PySem.Challenge.rw_deadhand_k24_whole_late_story_hangs.Holds := by
  w_on; o_law; z_head; (case hw=>w_witness2)
  refine L2.walkX_of (by intro P; exact rfl) (My.walk (l:=PySem.Challenge.rw_deadhand_k24_whole_late_story_hangs) rfl rfl (fun w h Y=>Y) ?F)
  case F =>
    intro w mg fa h KX G hmg;refine' My.all_mk KX G hmg ?Qcb ?Qcc ?Qcd ?Qce ?Qcf ?Qcg ?Qch ?Qci ?Qcj ?Qck ?Qcl ?Qcm ?Qcn ?Qco ?Qcp ?Qcq ?Qcr ?Qcs ?Qct ?Qcu ?Qcv ?Qcw ?Qcx ?Qcy ?Qcz ?QcA ?QcB ?QcC ?QcD ?QcE ?QcF ?QcG ?QcH ?QcI ?QcJ ?QcK ?QcL ?QcM ?QcN ?QcO ?QcP ?QcQ ?QcR ?QcS ?QcT ?QcU ?QcV ?QcW ?QcX ?QcY ?QcZ ?Qc8 ?Qc9 ?Qda ?Qdb ?Qdc ?Qdd ?pg_Lives ?hd_Lives ?po_Lives ?sa_Lives ?na_Lives_births ?na_Lives_deaths ?na_Lives_broods ?Qde ?pg_World ?hd_World ?po_World ?sa_World ?na_World_year ?na_World_lives ?na_World_happened ?Qdf ?Qdg ?Qdh ?Qdi ?Qdj ?Qdk ?Qdl ?lk_BARRED ?Qdm ?Qdn ?Qdo ?Qdp ?Qdq ?Qdr ?lk_ABOUT_PEOPLE ?mk_Lives ?kc_Lives ?mk_World ?kc_World ?p0 ?p1 ?p2 ?p3 ?p4 ?p5 ?p6 ?p7 ?p8 ?p9 ?p10 ?p11 ?p12 ?p13 ?p14 ?p15 ?p16 ?p17 ?p18 ?p19 ?p20 ?p21 ?p22 ?p23 ?p24 ?p25 ?p26 ?p27 ?p28 ?p29 ?p30 ?p31 ?p32 ?p33 ?p34 ?p35 ?p36 ?p37 ?p38 ?p39 ?p40 ?p41 ?p42 ?p43 ?p44 ?p45 ?p46 ?p47 ?p48 ?p49 ?p50 ?p51 ?p52 ?p53 ?p54 ?p55 ?p56 ?p57 ?p58 ?p59 ?p60 ?p61 ?p62 ?p63 ?p64 ?p65 ?p66 ?p67 ?p68 ?p69 ?p70 ?p71 ?p72 ?p73 ?p74 ?p75 ?p76 ?p77 ?p78 ?p79 ?p80 ?p81 ?p82 ?p83 ?p84 ?p85 ?p86 ?p87 ?p88 ?p89
    (case Qcb=>k_is)
    (case Qcc=>k_is)
    (case Qcd=>k_is)
    (case Qce=>k_is)
    (case Qcf=>k_is)
    (case Qcg=>k_is)
    (case Qch=>k_is)
    (case Qci=>k_is)
    (case Qcj=>k_is)
    (case Qck=>k_is)
    (case Qcl=>k_is)
    (case Qcm=>k_is)
    (case Qcn=>k_is)
    (case Qco=>k_is)
    (case Qcp=>k_is)
    (case Qcq=>k_is)
    (case Qcr=>k_is)
    (case Qcs=>k_is)
    (case Qct=>k_is)
    (case Qcu=>k_is)
    (case Qcv=>k_exc)
    (case Qcw=>k_is)
    (case Qcx=>k_is)
    (case Qcy=>k_is)
    (case Qcz=>k_is)
    (case QcA=>k_is)
    (case QcB=>k_exc)
    (case QcC=>k_is)
    (case QcD=>k_is)
    (case QcE=>k_is)
    (case QcF=>k_is)
    (case QcG=>k_is)
    (case QcH=>k_exc)
    (case QcI=>k_is)
    (case QcJ=>k_is)
    (case QcK=>k_is)
    (case QcL=>k_is)
    (case QcM=>k_is)
    (case QcN=>k_exc)
    (case QcO=>k_is)
    (case QcP=>k_is)
    (case QcQ=>k_is)
    (case QcR=>k_is)
    (case QcS=>k_is)
    (case QcT=>k_exc)
    (case QcU=>k_is)
    (case QcV=>k_is)
    (case QcW=>k_is)
    (case QcX=>k_is)
    (case QcY=>k_is)
    (case QcZ=>k_exc)
    all_goals (try first | (refine' L2.glp_mk ?a ?l ?c ?k; (case a=>k_is); (case l=>k_is); (case c=>k_is); (case k=>k_is)) | (refine' L2.mtp_mk ?a ?i ?l ?c ?k; (case a=>k_is); (case i=>k_is); (case l=>k_is); (case c=>k_is); (case k=>k_is)) | k_is)
