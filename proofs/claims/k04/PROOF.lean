import PyProof.Rows.All
import Wide.All
import OpenK.AllK
import Wide.FinOn
import Lean
import PyProof.EqAt
import PyProof.EqKinds
import PyProof.TupleCall
import KE.KDictList
import PyProof.StrLawsIdx
import PyProof.NeKinds
import PyProof.Rows.SetFrom
import PyProof.StrWalks
import PyProof.DictKinds
import PyProof.Rows.SortStr
import OpenK.KMake
import PyProof.InstEq
import PyProof.Rows.EqNone
import KE.KRevIter
import PyProof.ZipIter
import PyProof.Rows.Walk
import OpenK.KOwn
import PyProof.StrLawsIn
import PySem.Challenge.RW_eldermap_k04_whole_differences
set_option Elab.async false
set_option linter.all false
set_option compiler.extract_closed false
set_option maxRecDepth 100000
local macro_rules | `(tactic| walk_at "o") => `(tactic| first | exact Or.inl rfl | exact Or.inr rfl)
local macro_rules | `(tactic| walk_at "s") => `(tactic| exact ⟨rfl, rfl, rfl, by decide +kernel, rfl, by decide +kernel, by decide +kernel⟩)
set_option hygiene false in
local macro_rules | `(tactic| walk_at "f") => `(tactic| refine F.ok sc (fun vs H Q E h => ?_) (fun cdv A outer s H vs Q E hr h => ?_))
section
namespace L2
open PySem PySem.Spec PyProof.Rows
noncomputable abbrev Key:=Sum Int Str
noncomputable def jX:Key->Value->Bool
 | .inl k,v=>Value.isInt k v
 | .inr x,v=>Value.isStrOf x v
noncomputable def Fu (w:World):Key->Int
 | .inl k=>hashInt k
 | .inr x=>hashStr w x
theorem bM:∀ {k:Key}{v:Value},jX k v=true->(∃ i t,k=Sum.inl i/\v=Value.int i t)\/(∃ x t,k=Sum.inr x/\v=Value.str x t)
 | .inl i,v,h=>by
  obtain⟨t,e⟩:=Value.isInt_shape (k:=i) (v:=v) h;exact .inl ⟨i,t,rfl,e⟩
 | .inr x,v,h=>by
  obtain⟨t,e⟩:=Value.isStrOf_shape (x:=x) (v:=v) h;exact .inr ⟨x,t,rfl,e⟩
theorem sF (i:Int) (t:Tok):jX (.inl i) (.int i t)=true:=by simp[jX,Value.isInt]
theorem tm (x:Str) (t:Tok):jX (.inr x) (.str x t)=true:=by simp[jX,Value.isStrOf]
theorem Bt (a b:Int):decide ((Sum.inl a:Key)=Sum.inl b)=(a == b):=by
 by_cases e:a=b
 ·subst e;simp
 ·have h:¬ (Sum.inl a:Key)=Sum.inl b:=fun q=>e (Sum.inl.inj q)
  rw[decide_eq_false h];exact (beq_eq_false_iff_ne.mpr e).symm
theorem Bj (a b:Str):decide ((Sum.inr a:Key)=Sum.inr b)=decide (a=b):=by
 by_cases e:a=b
 ·subst e;simp
 ·have h:¬ (Sum.inr a:Key)=Sum.inr b:=fun q=>e (Sum.inr.inj q)
  rw[decide_eq_false h,decide_eq_false e]
theorem BC (a:Int) (b:Str):decide ((Sum.inl a:Key)=Sum.inr b)=false:=decide_eq_false (fun q=>nomatch q)
theorem Bv (a:Str) (b:Int):decide ((Sum.inr a:Key)=Sum.inl b)=false:=decide_eq_false (fun q=>nomatch q)
noncomputable def bf (prog:Program) (w:World):PySem.KeyKind prog w Key where
 is:=jX
 hash:=Fu w
 inj:=fun v a b ha hb=>by
  rcases bM ha with ⟨i,t,rfl,rfl⟩|⟨x,t,rfl,rfl⟩
  ·rcases bM hb with ⟨j,u,rfl,e⟩|⟨y,u,rfl,e⟩
   ·injection e with e1 _;rw[e1]
   ·exact nomatch e
  ·rcases bM hb with ⟨j,u,rfl,e⟩|⟨y,u,rfl,e⟩
   ·exact nomatch e
   ·injection e with e1 _;rw[e1]
 byValue:=fun k v h=>by
  rcases bM h with ⟨i,t,rfl,rfl⟩|⟨x,t,rfl,rfl⟩ <;> rfl
 pyHash:=fun hv h=>by
  rcases bM hv with ⟨i,t,rfl,rfl⟩|⟨x,t,rfl,rfl⟩
  ·exact wpAny_pyHash_int h
  ·exact wpAny_pyHash_str h
 eqBool:=fun hu hv h=>by
  rcases bM hu with ⟨i,t,rfl,rfl⟩|⟨x,t,rfl,rfl⟩
  ·rcases bM hv with ⟨j,u,rfl,rfl⟩|⟨y,u,rfl,rfl⟩
   ·rw[Bt] at h;exact wpAny_eqBool_int h
   ·rw[BC] at h;exact SeqAt.EqAt.int_str i t y u _ _ _ _ h
  ·rcases bM hv with ⟨j,u,rfl,rfl⟩|⟨y,u,rfl,rfl⟩
   ·rw[Bv] at h;exact SeqAt.EqAt.str_int x t j u _ _ _ _ h
   ·rw[Bj] at h;exact wpAny_eqBool_str h
 «strs»:=fun k x t v h=>by
  rcases bM h with ⟨i,u,rfl,e⟩|⟨y,u,rfl,e⟩
  ·exact nomatch e
  ·injection e with e1 _
   subst e1
   cases v <;> rfl
theorem oE (prog:Program) (w:World) (i:Int) (t:Tok):(bf prog w).is (.inl i) (.int i t)=true:=sF i t
theorem nZ (prog:Program) (w:World) (x:Str) (t:Tok):(bf prog w).is (.inr x) (.str x t)=true:=tm x t
end L2
namespace L2
open PySem PySem.Spec PyProof.Rows
inductive V where
 | non|bl (b:Bool)|int (i:Int)|str (x:Str)|byt (b:Array UInt8)|flt (b:UInt64)|ref (a:Addr)|ty (n:String)
 deriving DecidableEq
noncomputable def RelV:V->Value->Prop
 | .non,u=>u=Value.none
 | .bl b,u=>u=Value.bool b
 | .int i,u=>∃ t,u=Value.int i t
 | .str x,u=>∃ t,u=Value.str x t
 | .byt b,u=>∃ t,u=Value.bytes b t
 | .flt b,u=>∃ t,u=Value.float b t
 | .ref a,u=>u=Value.ref a
 | .ty n,u=>u=Value.type n
noncomputable abbrev Vals:List V->List Value->Prop:=Paired RelV
theorem Vals.length {xs:List V}{us:List Value} (r:Vals xs us):xs.length=us.length:=Paired.length r
theorem Vals.get:∀ {xs:List V}{us:List Value}{i:Nat}{x:V},Vals xs us->xs[i]?=some x->∃ u,us[i]?=some u/\RelV x u
 | _,_,_,_,.nil,e=>by simp at e
 | _,_,0,_,.cons r _,e=>by simp at e;subst e;exact⟨_,rfl,r⟩
 | _,_,i+1,x,.cons _ t,e=>by
  obtain⟨u,h1,h2⟩:=Vals.get (i:=i) (x:=x) t (by simpa using e);exact⟨u,by simpa using h1,h2⟩
theorem Vals.append:∀ {xs ys:List V}{us ws:List Value},Vals xs us->Vals ys ws->Vals (xs++ys) (us++ws)
 | _,_,_,_,.nil,s=>s
 | _,_,_,_,.cons r t,s=>.cons r (Vals.append t s)
theorem Vals.take:∀ {xs:List V}{us:List Value} (n:Nat),Vals xs us->Vals (xs.take n) (us.take n)
 | _,_,0,_=>.nil
 | _,_,_+1,.nil=>.nil
 | _,_,n+1,.cons r t=>.cons r (Vals.take n t)
theorem Vals.drop:∀ {xs:List V}{us:List Value} (n:Nat),Vals xs us->Vals (xs.drop n) (us.drop n)
 | _,_,0,r=>r
 | _,_,_+1,.nil=>.nil
 | _,_,n+1,.cons _ t=>Vals.drop n t
noncomputable def eQ:Option V->Option Value->Prop
 | some v,some u=>RelV v u
 | none,none=>True
 | _,_=>False
noncomputable def KV {κ:Type}:List (κ×V)->List (κ×Value)->Prop:=Paired fun (p:κ×V) (q:κ×Value)=>p.1=q.1/\RelV p.2 q.2
noncomputable def kV:Key->V
 | .inl i=>.int i
 | .inr x=>.str x
inductive HO where
  | lst (xs:List V)
  | tup (xs:List V)
  | dK (kvs:List (Key×V))|dT (kvs:List (List Key×V))
  | set (S:Int->Bool) (n:Nat)
  | ins (C dx:Addr) (fs:List (Str×V))
  | own (x:Addr)
  | xd (fs:List (Str×V))
  | met (f x:Addr)
  | rng (lo hi:Int)
  | frz (o:Obj) (u:HO)
  | tbl (ps:Array Value)
  | ext (φ:Heap->Prop)
noncomputable abbrev Hp:=Addr->Option HO
noncomputable def upd (H:Hp) (a:Addr) (o:HO):Hp:=fun b=>if b=a then some o else H b
theorem aa {H:Hp}{a:Addr}{o:HO}:upd H a o a=some o:=by unfold upd;rw[if_pos rfl]
theorem ah {H:Hp}{a b:Addr}{o:HO} (h:b≠a):upd H a o b=H b:=by unfold upd;rw[if_neg h]
theorem bV {H:Hp}{a b:Addr}{o u:HO} (h:H a=some o) (h':H b=some u) (d:o≠u):a≠b:=by
 intro e;subst e;rw[h] at h';exact d (Option.some.inj h')
theorem ag {H:Hp}{a b:Addr}{o:HO} (h:H a=some o) (h':H b=none):a≠b:=by
 intro e;subst e;rw[h] at h';cases h'
section
variable (P:Program) (w:World)
noncomputable def bG (H:Hp) (h:Heap) (a:Addr):HO->Prop
 | .lst xs=>xs.length<=sizeLine/\∃ (its:List Value) (n:Nat),Vals xs its/\h.get? a=some { cls:=.type "list",data:=.seq its.toArray n }
 | .tup xs=>xs.length<=sizeLine/\∃ its:List Value,Vals xs its/\IsTup h a its.toArray
 | .dK kvs=>kvs.length<=sizeLine/\(a == sysModules)=false/\∃ vs,KV kvs vs/\h.DictOf (bf P w) a vs
 | .dT kvs=>kvs.length<=sizeLine/\(a == sysModules)=false/\∃ xs:List (List Key×Addr×Value),
   Paired (fun (p:List Key×V) (q:List Key×Addr×Value)=>p.1=q.1/\H q.2.1=some (.tup (p.1.map kV))/\RelV p.2 q.2.2) kvs xs /\
   ∃ o es ep,h.get? a=some o/\o.ExactDict/\o.data=.dict es ep/\es.toList=xs.map (entryOfKey (tupleKind (bf P w)))/\(xs.map (·.1)).Nodup
 | .set S n=>h.SetOf (intKind P w) a S n
 | .ins C dx fs=>H dx=some (.own a)/\fs.length<=1000/\dx≠a/\h.get? a=some (PySem.W.instObj C dx) /\
   ∃ mA,h.Ns1 dx mA/\(∀ f,eQ (fs.lookup f) (mA f))/\PySem.Within mA (fs.map (·.1))
 | .own _=>∃ o,h.get? a=some o
 | .xd fs=>∃ mA,h.Ns1 a mA/\∀ f,eQ (fs.lookup f) (mA f)
 | .rng lo hi=>∃ t u v,h.get? a=some { cls:=.type "range",data:=.fields #[.int lo t,.int hi u,.int 1 v] }
 | .frz o u=>h.get? a=some o/\bG H h a u
 | .tbl ps=>h.get? a=some { cls:=.none,data:=.fields ps }
 | .met f x=>h.get? a=some (PySem.W.methodObj (.ref f) (.ref x))
 | .ext φ=>φ h/\(∃ o,h.get? a=some o)/\∀ h1 h2:Heap,φ h1->(∀ o,h1.get? a=some o->h2.get? a=some o)->φ h2
noncomputable def fk (H:Hp) (h:Heap):Prop:=∀ a o,H a=some o->bG P w H h a o
end
section
variable {P:Program}{w:World}{H H':Hp}{h h':Heap}{a:Addr}{o:HO}
theorem bG.lt (x:bG P w H h a o):a<h.objs.size:=by
 cases o with
 | lst xs=>obtain⟨_,_,_,_,e⟩:=x;exact Heap.lt_size e
 | tup xs=>obtain⟨_,_,_,p⟩:=x;exact p.lt
 | dK kvs=>obtain⟨_,_,_,_,o,_,_,e,_⟩:=x;exact Heap.lt_size e
 | dT kvs=>obtain⟨_,_,_,_,o,_,_,e,_⟩:=x;exact Heap.lt_size e
 | set S n=>obtain⟨o,_,_,_,e,_⟩:=x;exact Heap.lt_size e
 | ins C dx fs=>obtain⟨_,_,_,e,_⟩:=x;exact Heap.lt_size e
 | own y=>obtain⟨_,e⟩:=x;exact Heap.lt_size e
 | xd fs=>obtain⟨_,⟨_,_,_,e,_⟩,_⟩:=x;exact Heap.lt_size e
 | rng lo hi=>obtain⟨_,_,_,e⟩:=x;exact Heap.lt_size e
 | frz ob u=>obtain⟨e,_⟩:=x;exact Heap.lt_size e
 | tbl ps=>exact Heap.lt_size (show h.get? a=some _ from x)
 | met f y=>exact Heap.lt_size (show h.get? a=some _ from x)
 | ext φ=>obtain⟨_,⟨_,e⟩,_⟩:=x;exact Heap.lt_size e
theorem Paired.yx {α β:Type}{F G:α->β->Prop}:∀ {l₁:List α}{l₂:List β},Paired F l₁ l₂->(∀ a b,F a b->G a b)->Paired G l₁ l₂
 | _,_,.nil,_=>.nil
 | _,_,.cons r t,f=>.cons (f _ _ r) (Paired.yx t f)
theorem Paired.imp' {α β:Type}{F G:α->β->Prop} (f:∀ a b,F a b->G a b) {l₁:List α}{l₂:List β} (r:Paired F l₁ l₂):Paired G l₁ l₂:=Paired.yx r f
theorem bG.pT (x:bG P w H h a o) (k:∀ b u,(b=a\/H b=some (.own a))->h.get? b=some u->h'.get? b=some u)
  (ho:∀ b,H b=some (.own a)->H' b=some (.own a)) (ht:∀ b xs,H b=some (.tup xs)->H' b=some (.tup xs)):bG P w H' h' a o:=by
 induction o with
 | lst xs=>obtain⟨z,its,n,r,e⟩:=x;exact⟨z,its,n,r,k _ _ (.inl rfl) e⟩
 | tup xs=>obtain⟨z,its,r,ob,e,c⟩:=x;exact⟨z,its,r,ob,k _ _ (.inl rfl) e,c⟩
 | dK kvs=>obtain⟨z,y,vs,r,ob,es,ep,e,c⟩:=x;exact⟨z,y,vs,r,ob,es,ep,k _ _ (.inl rfl) e,c⟩
 | dT kvs =>
  obtain⟨z,y,xs,r,ob,es,ep,e,c⟩:=x;exact⟨z,y,xs,Paired.yx r fun p q z=>⟨z.1,ht _ _ z.2.1,z.2.2⟩,ob,es,ep,k _ _ (.inl rfl) e,c⟩
 | set S n=>obtain⟨ob,es,ep,t,e,c⟩:=x;exact⟨ob,es,ep,t,k _ _ (.inl rfl) e,c⟩
 | ins C dx fs =>
  obtain⟨d,z,ne,e,mA,⟨od,es,ep,e2,c⟩,r⟩:=x;exact⟨ho _ d,z,ne,k _ _ (.inl rfl) e,mA,⟨od,es,ep,k _ _ (.inr d) e2,c⟩,r⟩
 | own y=>obtain⟨ob,e⟩:=x;exact⟨ob,k _ _ (.inl rfl) e⟩
 | xd fs=>obtain⟨mA,⟨od,es,ep,e,c⟩,r⟩:=x;exact⟨mA,⟨od,es,ep,k _ _ (.inl rfl) e,c⟩,r⟩
 | rng lo hi=>obtain⟨t,u,v,e⟩:=x;exact⟨t,u,v,k _ _ (.inl rfl) e⟩
 | frz ob u ih=>obtain⟨e,q⟩:=x;exact⟨k _ _ (.inl rfl) e,ih q⟩
 | tbl ps =>
  have e:h.get? a=some { cls:=.none,data:=.fields ps }:=x;show h'.get? a=some { cls:=.none,data:=.fields ps };exact k a _ (.inl rfl) e
 | met f y =>
  have e:h.get? a=some (PySem.W.methodObj (.ref f) (.ref y)):=x;show h'.get? a=some (PySem.W.methodObj (.ref f) (.ref y));exact k a _ (.inl rfl) e
 | ext φ=>obtain⟨p,⟨o,e⟩,st⟩:=x;exact⟨st _ _ p fun o q=>k _ _ (.inl rfl) q,⟨o,k _ _ (.inl rfl) e⟩,st⟩
theorem fk.lt (x:fk P w H h) (e:H a=some o):a<h.objs.size:=(x a o e).lt
theorem fk.fresh (x:fk P w H h) (e:h.objs.size<=a):H a=none:=by
 cases q:H a with
 | none=>rfl
 | some u=>exact absurd (Nat.lt_of_lt_of_le (x.lt q) e) (Nat.lt_irrefl _)
theorem fk.kept (x:fk P w H h) (k:∀ b u,h.get? b=some u->h'.get? b=some u):fk P w H h':=fun a o e =>
 (x a o e).pT (fun b u _ q=>k b u q) (fun _ q=>q) fun _ _ q=>q
theorem fk.laid (x:fk P w H h) (k:∀ b u,h.get? b=some u->h'.get? b=some u) (hp:h.objs.size<=a) (new:bG P w (upd H a o) h' a o):fk P w (upd H a o) h':=fun b u e=>by
 have hn:=x.fresh hp
 by_cases hb:b=a
 ·subst hb;rw[aa] at e;cases e;exact new
 ·rw[ah hb] at e
  exact (x b u e).pT (fun c v _ q=>k c v q) (fun c q=>by rw[ah (ag q hn)];exact q) fun c xs q=>by rw[ah (ag q hn)];exact q
end
noncomputable def Rd (H:Hp) (a:Addr) (u:HO):Prop:=H a=some u\/∃ o,H a=some (.frz o u)
theorem Rd.ok {P:Program}{w:World}{H:Hp}{h:Heap}{a:Addr}{u:HO} (r:Rd H a u) (x:fk P w H h):bG P w H h a u:=by
 rcases r with r|⟨o,r⟩
 ·exact x a u r
 ·obtain⟨_,q⟩:=x a _ r
  exact q
noncomputable def DQ:Option HO->Prop
 | some (.lst _)=>True
 | some (.dK _)=>True
 | some (.dT _)=>True
 | some (.set _ _)=>True
 | some (.ins _ _ _)=>True
 | some (.ext _)=>True
 | _=>False
section
variable {P:Program}{w:World}{H:Hp}{h h':Heap}{x e:Addr}{o':HO}
theorem fk.write (ok:fk P w H h) (mu:DQ (H x)) (he:e=x\/H e=some (.own x)) (k:∀ b u,b≠e->h.get? b=some u->h'.get? b=some u) (heo:∃ u,h'.get? e=some u)
  (new:bG P w (upd H x o') h' x o'):fk P w (upd H x o') h':=fun b u q=>by
 have nown:∀ c y,H c=some (.own y)->c≠x:=fun c y r z=>by subst z;rw[r] at mu;exact mu
 have ntup:∀ c xs,H c=some (.tup xs)->c≠x:=fun c xs r z=>by subst z;rw[r] at mu;exact mu
 by_cases hb:b=x
 ·subst hb;rw[aa] at q;cases q;exact new
 ·rw[ah hb] at q
  by_cases hbe:b=e
  ·have q':H b=some (.own x):=by
    rcases he with z|z
    ·exact absurd (hbe.trans z) hb
    ·rw[hbe];exact z
   rw[q] at q';cases q';obtain⟨v,hv⟩:=heo;exact⟨v,by rw[hbe];exact hv⟩
  ·refine (ok b u q).pT (fun c v hc r=>k c v ?_ r) (fun c r=>by rw[ah (nown c b r)];exact r) fun c xs r=>by rw[ah (ntup c xs r)];exact r
   rcases hc with rfl|hc
   ·exact hbe
   ·rintro rfl
    rcases he with z|z
    ·exact nown c b hc z
    ·rw[hc] at z;cases z;exact hb rfl
end
structure Un (fs ex:List Addr) (H H':Hp) (h h':Heap):Prop where
 keep:∀ b o,h.get? b=some o->H b=none->b∉fs->b∉ex->h'.get? b=some o
 slot:∀ b o,h.get? b=some o->H b=none->b∈fs->b∉ex->∃ sl,h'.get? b=some { o with slots:=sl }
 free:∀ b o,h.get? b=some o->H b=none->b∉ex->H' b=none
 there:∀ b o,h.get? b=some o->b∉ex->∃ o',h'.get? b=some o'
 tups:∀ b xs,H b=some (.tup xs)->H' b=some (.tup xs)
 frzs:∀ b o u,H b=some (.frz o u)->H' b=some (.frz o u)
 tbls:∀ b ps,H b=some (.tbl ps)->∃ more,H' b=some (.tbl (ps++more))
section
variable {fs fs' ex ex':List Addr}{H H1 H2:Hp}{h h1 h2 h':Heap}{a x e:Addr}{o:HO}
theorem Un.any (u:Un fs ex H H1 h h1) {b:Addr}{ob:Obj} (q:h.get? b=some ob) (n:H b=none) (hx:b∉ex):∃ sl,h1.get? b=some { ob with slots:=sl }:=by
 by_cases hb:b∈fs
 ·exact u.slot b ob q n hb hx
 ·exact⟨ob.slots,u.keep b ob q n hb hx⟩
theorem Un.kept (k:∀ b u,h.get? b=some u->h'.get? b=some u):Un fs ex H H h h' :=
 ⟨fun b ob q _ _ _=>k b ob q,fun b ob q _ _ _=>⟨ob.slots,k b ob q⟩,fun _ _ _ n _=>n,fun b ob q _=>⟨ob,k b ob q⟩,fun _ _ q=>q,fun _ _ _ q=>q,fun _ ps q=>⟨#[],by rw[q];simp⟩⟩
theorem Un.refl:Un fs ex H H h h:=Un.kept fun _ _ q=>q
theorem Un.laid (k:∀ b u,h.get? b=some u->h'.get? b=some u) (hp:h.objs.size<=a) (hn:H a=none):Un fs ex H (upd H a o) h h' where
 keep:=fun b u q _ _ _=>k b u q
 slot:=fun b u q _ _ _=>⟨u.slots,k b u q⟩
 free:=fun b u q n _=>by rw[ah (Nat.ne_of_lt (Nat.lt_of_lt_of_le (Heap.lt_size q) hp))];exact n
 there:=fun b u q _=>⟨u,k b u q⟩
 tups:=fun b xs q=>by rw[ah (ag q hn)];exact q
 frzs:=fun b u xs q=>by rw[ah (ag q hn)];exact q
 tbls:=fun b ps q=>⟨#[],by rw[ah (ag q hn),q];simp⟩
theorem Un.write (mu:DQ (H x)) (he:e=x\/H e=some (.own x)) (k:∀ b u,b≠e->h.get? b=some u->h'.get? b=some u) (heo:∃ u,h'.get? e=some u):Un fs ex H (upd H x o) h h':=by
 have hx:∀ b,H b=none->b≠x:=fun b n z=>by subst z;rw[n] at mu;exact mu
 have hb:∀ b,H b=none->b≠e:=fun b n z=>by
  subst z;rcases he with r|r
  ·exact hx b n r
  ·rw[n] at r;cases r
 have hm:∀ b u,H b=some u->¬ DQ (some u)->b≠x:=fun b u q nm z=>by subst z;rw[q] at mu;exact nm mu
 refine⟨fun b u q n _ _=>k b u (hb b n) q,fun b u q n _ _=>⟨u.slots,k b u (hb b n) q⟩,fun b u q n _=>by rw[ah (hx b n)];exact n,fun b u q _=>?_,
  fun b xs q=>by rw[ah (hm b _ q fun z=>z)];exact q,fun b u xs q=>by rw[ah (hm b _ q fun z=>z)];exact q,fun b ps q=>⟨#[],by rw[ah (hm b _ q fun z=>z),q];simp⟩⟩
 by_cases hbe:b=e
 ·subst hbe;exact heo
 ·exact⟨u,k b u hbe q⟩
end
noncomputable def E7 (h:Heap) (H:Hp):List Addr:=(List.range h.objs.size).filter fun a=>(H a).isSome
noncomputable def mX (h:Heap) (H:Hp):Heap:=PySem.W.hideAll h (E7 h H)
theorem tP (h:Heap) (H:Hp):(mX h H).objs.size=h.objs.size:=PySem.W.hideAll_size _ _
theorem u_ {h:Heap}{H:Hp}{b:Addr}{o:Obj} (e:h.get? b=some o) (n:H b=none):(mX h H).get? b=some o :=
 PySem.W.hideAll_get _ e fun hm=>by
  have q:(H b).isSome=true:=(List.mem_filter.mp hm).2;rw[n] at q;simp at q
theorem xX {h:Heap}{H:Hp}{b:Addr}{o:Obj} (e:(mX h H).get? b=some o):h.get? b=some o/\H b=none:=by
 have e':h.get? b=some o:=PySem.W.of_hideAll (E7 h H) e;refine⟨e',?_⟩
 cases q:H b with
 | none=>rfl
 | some x =>
  have hm:b∈E7 h H:=List.mem_filter.mpr ⟨List.mem_range.mpr (Heap.lt_size e'),by simp[q]⟩;have z:(mX h H).get? b=none:=PySem.W.hideAll_none (E7 h H) hm;rw[z] at e;cases e
end L2
namespace L2
open PySem PySem.Spec PyProof.Rows
structure Mod (K:PySem.W.Frag) (mg:Str->Option Value) (base:Heap):Prop where
 kin:K.In base
 glob:base.Ns mainGlobals mg
 blt:∃ mb,base.Ns builtinsNs mb/\∀ x:Str,x≠"__name__"->mb x=bootBuiltins x
 nolimit:base.NoLimit
structure Cx where
 prog:Program
 w:World
 K:PySem.W.Frag
 mg:Str->Option Value
 base:Heap
 A:Around
 N:List Str
 s₀:Shared
 H₀:Hp
 env:Env
 outer:List Env
 stack:List Env
 ex:List Addr
 fn:Str->Bool
 calm:Bool
 pn:List (Addr×Obj)
 xe:Value->Shared->Prop
noncomputable def iJ (l:List Env):List Addr:=l.filterMap (·.frame)
noncomputable abbrev Cx.fs (X:Cx):List Addr:=iJ X.outer
noncomputable def Dh (sc:Scope) (x:Str):Prop:=sc.names.lookup x=some .local\/sc.names.lookup x=some .cell\/sc.names.lookup x=some .free
noncomputable def Loc (sc:Scope) (x:Str):Prop:=sc.names.lookup x=some .local\/sc.names.lookup x=some .cell
noncomputable def Look (env:Env) (h:Heap) (m:Str->Option Value) (x:Str) (u:Value):Prop :=
 (env.kindOf x=some .local/\m x=some u)\/((env.kindOf x=some .cell\/env.kindOf x=some .free)/\∃ c,env.cells.lookup x=some c/\h.IsCell c (some u))
structure Cx.Ok (X:Cx):Prop where
 mod:Mod X.K X.mg X.base
 kind:X.env.scope.kind=.function
 glob:X.env.globals=mainGlobals
 blt:X.env.builtins=builtinsNs
 above:X.s₀.heap.objs.size<=X.env.locals
 inj:∀ x y c,X.env.cells.lookup x=some c->X.env.cells.lookup y=some c->x=y
 has:∀ x,(X.env.kindOf x=some .cell\/X.env.kindOf x=some .free)->∃ c,X.env.cells.lookup x=some c
 cab:∀ x c,X.fn x=true->X.env.cells.lookup x=some c->X.s₀.heap.objs.size<=c
 hd:X.calm=true->X.A.handled=none
 frames:X.A.frames=some X.stack
 stk:X.stack=X.outer\/(X.stack=X.env::X.outer/\X.env.frame=some X.env.locals)
 exf:∀ b∈X.ex,b≠X.env.locals/\∀ x c,X.env.cells.lookup x=some c->c≠b
 bs:∀ b o,X.base.get? b=some o->X.s₀.heap.get? b=some o/\X.H₀ b=none
 bsz:X.base.objs.size<=X.s₀.heap.objs.size
 noex:∀ b o,X.base.get? b=some o->b∉X.ex
 exfs:∀ b∈X.ex,b∉X.fs
 fZ:X.s₀.heap.FunFrames X.base X.outer
 frf:∀ b∈X.fs,X.H₀ b=none
structure Inv (X:Cx) (pins:List (Addr×Obj)) (σ:List (Option V)) (H:Hp) (s:Shared):Prop where
 ok:X.Ok
 os:s.os=X.s₀.os
 bare:AllBare s.gens
 base:Un X.fs X.ex X.H₀ H X.s₀.heap s.heap
 loc:∃ m,s.heap.Ns X.env.locals m/\∀ (i:Nat) (x:Str) (v:V),X.N[i]?=some x->σ[i]?=some (some v)->Dh X.env.scope x->∃ u,RelV v u/\Look X.env s.heap m x u
 cell:∀ x c,X.env.cells.lookup x=some c->∃ v,s.heap.IsCell c v
 free:H X.env.locals=none
 freeC:∀ x c,X.env.cells.lookup x=some c->H c=none
 pin:∀ p∈X.pn++pins,s.heap.get? p.1=some p.2/\H p.1=none/\p.1≠X.env.locals/\p.1∉X.fs/\∀ v,p.2.data≠.cell v
 hok:fk X.prog X.w H s.heap
 len:σ.length=X.N.length
section
variable {X:Cx}{pins:List (Addr×Obj)}{σ:List (Option V)}{H H':Hp}{s:Shared}{h':Heap}
theorem Cx.Ok.Fs (ok:X.Ok) {b:Addr}{o:Obj} (e:X.base.get? b=some o):b∉X.fs:=fun hb=>by
 have:=(ok.fZ.mem hb).1;rw[e] at this;cases this
theorem Inv.bs (I:Inv X pins σ H s):∀ b o,X.base.get? b=some o->s.heap.get? b=some o/\H b=none:=fun b o e =>
 ⟨I.base.keep b o (I.ok.bs b o e).1 (I.ok.bs b o e).2 (I.ok.Fs e) (I.ok.noex b o e),I.base.free b o (I.ok.bs b o e).1 (I.ok.bs b o e).2 (I.ok.noex b o e)⟩
theorem Inv.bk (I:Inv X pins σ H s):∀ b o,X.base.get? b=some o->s.heap.get? b=some o:=fun b o e=>(I.bs b o e).1
theorem Inv.mod (I:Inv X pins σ H s):Mod X.K X.mg X.base:=I.ok.mod
theorem Inv.eK (I:Inv X pins σ H s):X.K.In s.heap:=I.ok.mod.kin.keeps I.bk
theorem Inv.lt (I:Inv X pins σ H s):X.env.locals<s.heap.objs.size:=let ⟨_,hn,_⟩:=I.loc;hn.lt
theorem Inv.sz (I:Inv X pins σ H s):X.s₀.heap.objs.size<=s.heap.objs.size:=Nat.le_trans I.ok.above (Nat.le_of_lt I.lt)
theorem Inv.FU (I:Inv X pins σ H s) {a:Addr} (h:s.heap.objs.size<=a):a∉X.fs:=fun hb=>by
 obtain⟨_,o,ho,_⟩:=I.ok.fZ.mem hb;exact absurd (Nat.lt_of_lt_of_le (Heap.lt_size ho) (Nat.le_trans I.sz h)) (Nat.lt_irrefl _)
theorem Inv.yn (I:Inv X pins σ H s):∀ x c,X.env.cells.lookup x=some c->c≠X.env.locals:=fun x c e z=>by
 obtain⟨v,o,ho,hd⟩:=I.cell x c e;obtain⟨m,⟨o',es,ep,ho',hd',_⟩,_⟩:=I.loc;rw[z,ho'] at ho;cases ho;rw[hd'] at hd;cases hd
theorem Inv.fZ (I:Inv X pins σ H s):s.heap.FunFrames X.base X.outer:=by
 have all:∀ (l:List Env),(∀ b∈iJ l,b∈X.fs)->X.s₀.heap.FunFrames X.base l->s.heap.FunFrames X.base l:=by
  intro l
  induction l with
  | nil=>intro _ _;trivial
  | cons env r ih =>
   intro hs hl;obtain⟨hk,⟨L,o,hf,hn,ho,hd⟩,hr⟩:=hl;have hL:L∈X.fs:=hs L (by unfold iJ;rw[List.filterMap_cons,hf];exact List.mem_cons_self);obtain⟨sl,e⟩:=I.base.slot L o ho (I.ok.frf L hL) hL fun z=>I.ok.exfs L z hL;exact⟨hk,⟨L,_,hf,hn,e,hd⟩,ih (fun b hb=>hs b (by unfold iJ;rw[List.filterMap_cons,hf];exact List.mem_cons_of_mem _ hb)) hr⟩
 exact all X.outer (fun _ hb=>hb) I.ok.fZ
theorem Inv.stack (I:Inv X pins σ H s):s.heap.FunFrames X.base X.stack:=by
 rcases I.ok.stk with e|⟨e,hf⟩
 ·rw[e];exact I.fZ
 ·rw[e]
  obtain⟨m,hn,_⟩:=I.loc;refine .cons (by rw[I.ok.kind];decide) hf hn ?_ I.fZ;exact Heap.get?_none_of_le (Nat.le_trans I.ok.bsz I.ok.above)
theorem Inv.lY (I:Inv X pins σ H s):∀ b∈iJ X.stack,b∈X.env.locals::X.fs:=fun b hb=>by
 rcases I.ok.stk with e|⟨e,hf⟩
 ·rw[e] at hb;exact List.mem_cons_of_mem _ hb
 ·rw[e] at hb
  unfold iJ at hb;rw[List.filterMap_cons,hf] at hb;exact hb
theorem Inv.jc (I:Inv X pins σ H s):∀ b∈iJ X.stack,H b=none:=fun b hb=>by
 rcases List.mem_cons.mp (I.lY b hb) with e|hb
 ·rw[e];exact I.free
 ·obtain⟨_,o,ho,_⟩:=I.ok.fZ.mem hb
  exact I.base.free b o ho (I.ok.frf b hb) fun z=>I.ok.exfs b z hb
theorem Inv.step {g':Array GenState}{t':Nat}{d':Drawn}{ch:List Addr} (I:Inv X pins σ H s)
  (hch:∀ b∈ch,(b∈X.ex\/X.s₀.heap.objs.size<=b)/\b≠X.env.locals/\(∀ x c,X.env.cells.lookup x=some c->c≠b)/\∀ p∈X.pn++pins,p.1≠b)
  (keep:∀ b o,b≠X.env.locals->b∉X.fs->b∉ch->s.heap.get? b=some o->H b=none->h'.get? b=some o)
  (slot:∀ b o,b≠X.env.locals->b∈X.fs->b∉ch->s.heap.get? b=some o->H b=none->∃ sl,h'.get? b=some { o with slots:=sl }) (free:∀ b o,b∉ch->s.heap.get? b=some o->H b=none->H' b=none)
  (there:∀ b o,b∉ch->s.heap.get? b=some o->∃ o',h'.get? b=some o')
  (tups:∀ b xs,H b=some (.tup xs)->H' b=some (.tup xs)) (frzs:∀ b o u,H b=some (.frz o u)->H' b=some (.frz o u)) (tbls:∀ b ps,H b=some (.tbl ps)->∃ more,H' b=some (.tbl (ps++more)))
  (ns:∀ m,s.heap.Ns X.env.locals m->h'.Ns X.env.locals m) (hok:fk X.prog X.w H' h') (hg:AllBare g') :
  Inv X pins σ H' { s with heap:=h',gens:=g',drawn:=d',toks:=t' }:=by
 have neL:∀ b o,X.s₀.heap.get? b=some o->b≠X.env.locals:=fun b o e=>Nat.ne_of_lt (Nat.lt_of_lt_of_le (Heap.lt_size e) I.ok.above);have neC:∀ b o,X.s₀.heap.get? b=some o->b∉X.ex->b∉ch:=fun b o e hx hb=>by
  rcases (hch b hb).1 with z|z
  ·exact hx z
  ·exact absurd (Nat.lt_of_lt_of_le (Heap.lt_size e) z) (Nat.lt_irrefl _)
 have cellK:∀ x c,X.env.cells.lookup x=some c->∀ v,s.heap.IsCell c v->h'.IsCell c v:=fun x c e v ⟨o,ho,hd⟩=>by
  have nch:c∉ch:=fun z=>(hch c z).2.2.1 x c e rfl
  by_cases hc:c∈X.fs
  ·obtain⟨sl,q⟩:=slot c o (I.yn x c e) hc nch ho (I.freeC x c e)
   exact⟨_,q,hd⟩
  ·exact⟨o,keep c o (I.yn x c e) hc nch ho (I.freeC x c e),hd⟩
 refine⟨I.ok,I.os,hg,⟨fun b o e n hb hx=>?_,fun b o e n hb hx=>?_,fun b o e n hx=>?_,fun b o e hx=>?_,fun b xs e=>tups b xs (I.base.tups b xs e),fun b o xs e=>frzs b o xs (I.base.frzs b o xs e),fun b ps e=>?_⟩,?_,fun x c e=>?_,?_,fun x c e=>?_,fun p hp=>?_,hok,I.len⟩
 ·exact keep b o (neL b o e) hb (neC b o e hx) (I.base.keep b o e n hb hx) (I.base.free b o e n hx)
 ·obtain⟨sl,e1⟩:=I.base.slot b o e n hb hx
  obtain⟨sl',e2⟩:=slot b _ (neL b o e) hb (neC b o e hx) e1 (I.base.free b o e n hx);exact⟨sl',e2⟩
 ·obtain⟨o',e1⟩:=I.base.there b o e hx
  exact free b o' (neC b o e hx) e1 (I.base.free b o e n hx)
 ·obtain⟨o',e1⟩:=I.base.there b o e hx
  exact there b o' (neC b o e hx) e1
 ·obtain⟨m1,e1⟩:=I.base.tbls b ps e
  obtain⟨m2,e2⟩:=tbls b _ e1;exact⟨m1++m2,by rw[e2,Array.append_assoc]⟩
 ·obtain⟨m,hn,hl⟩:=I.loc
  refine⟨m,ns m hn,fun i x v e1 e2 e3=>?_⟩;obtain⟨u,r,l⟩:=hl i x v e1 e2 e3;refine⟨u,r,?_⟩;rcases l with l|⟨k,c,e,z⟩
  ·exact .inl l
  ·exact .inr ⟨k,c,e,cellK x c e _ z⟩
 ·obtain⟨v,z⟩:=I.cell x c e
  exact⟨v,cellK x c e v z⟩
 ·obtain⟨m,⟨o,_,_,ho,_⟩,_⟩:=I.loc
  exact free _ o (fun z=>(hch _ z).2.1 rfl) ho I.free
 ·obtain⟨v,o,ho,hd⟩:=I.cell x c e
  exact free c o (fun z=>(hch c z).2.2.1 x c e rfl) ho (I.freeC x c e)
 ·obtain⟨e,n,ne,nf,d⟩:=I.pin p hp
  have nch:p.1∉ch:=fun z=>(hch p.1 z).2.2.2 p hp rfl;exact⟨keep p.1 p.2 ne nf nch e n,free p.1 p.2 nch e n,ne,nf,d⟩
theorem Inv.un {t':Nat} (I:Inv X pins σ H s) (u:Un X.fs [] H H' s.heap h') (hok:fk X.prog X.w H' h'):Inv X pins σ H' { s with heap:=h',toks:=t' }:=by
 obtain⟨m,⟨o,es,ep,ho,r⟩,_⟩:=id I.loc;obtain⟨sl,hL⟩:=u.any ho I.free (by simp);exact I.step (g':=s.gens) (d':=s.drawn) (ch:=[]) (fun _ z=>nomatch z) (fun b o _ hb _ e n=>u.keep b o e n hb (by simp)) (fun b o _ hb _ e n=>u.slot b o e n hb (by simp)) (fun b o _ e n=>u.free b o e n (by simp)) (fun b o _ e=>u.there b o e (by simp)) u.tups u.frzs u.tbls (fun m' hm=>by
  obtain⟨o',es',ep',ho',r'⟩:=hm;rw[ho] at ho';cases ho';exact⟨_,es',ep',hL,r'⟩) hok I.bare
theorem Inv.call {g':Array GenState}{t':Nat}{d':Drawn}{ch:List Addr} (I:Inv X pins σ H s) (u:Un (iJ X.stack) ch H H' s.heap h') (hok:fk X.prog X.w H' h') (hg:AllBare g')
  (hch:∀ b∈ch,(b∈X.ex\/X.s₀.heap.objs.size<=b)/\b≠X.env.locals/\(∀ x c,X.env.cells.lookup x=some c->c≠b)/\∀ p∈X.pn++pins,p.1≠b) :
  Inv X pins σ H' { s with heap:=h',gens:=g',drawn:=d',toks:=t' }:=by
 obtain⟨m,⟨o,es,ep,ho,r⟩,_⟩:=id I.loc;obtain⟨sl,hL⟩:=u.any ho I.free fun z=>(hch _ z).2.1 rfl;exact I.step (ch:=ch) hch (fun b o hL hb hc e n=>u.keep b o e n (fun z=>(List.mem_cons.mp (I.lY b z)).elim hL hb) hc) (fun b o _ _ hc e n=>u.any e n hc) (fun b o hc e n=>u.free b o e n hc) (fun b o hc e=>u.there b o e hc) u.tups u.frzs u.tbls (fun m' hm=>by
  obtain⟨o',es',ep',ho',r'⟩:=hm;rw[ho] at ho';cases ho';exact⟨_,es',ep',hL,r'⟩) hok hg
theorem Inv.turned {t':Nat}{it:Addr} (I:Inv X pins σ H s) (k:∀ b o,b≠it->s.heap.get? b=some o->h'.get? b=some o) (hn:H it=none) (hL:it≠X.env.locals)
  (h1:it∈X.ex\/X.s₀.heap.objs.size<=it) (h2:∀ x c,X.env.cells.lookup x=some c->c≠it) (h3:∀ p∈X.pn++pins,p.1≠it):Inv X pins σ H { s with heap:=h',toks:=t' }:=by
 have nit:∀ b u,H b=some u->b≠it:=fun b u e z=>by rw[z,hn] at e;cases e
 refine I.step (g':=s.gens) (d':=s.drawn) (ch:=[it]) (fun b hb=>?_) (fun b o _ _ hc e _=>k b o (fun z=>hc (by simp[z])) e) (fun b o _ _ hc e _=>⟨o.slots,k b o (fun z=>hc (by simp[z])) e⟩) (fun _ _ _ _ n=>n)
  (fun b o hc e=>⟨o,k b o (fun z=>hc (by simp[z])) e⟩) (fun _ _ e=>e) (fun _ _ _ e=>e) (fun b ps e=>⟨#[],by rw[e];simp⟩) (fun m hm=>?_) (fun b u e=>?_) I.bare
 ·have e:b=it:=by simpa using hb
  subst e;exact⟨h1,hL,h2,h3⟩
 ·obtain⟨o,es,ep,ho,r⟩:=hm
  exact⟨o,es,ep,k _ o (Ne.symm hL) ho,r⟩
 ·refine (I.hok b u e).pT (fun c v hc q=>k c v ?_ q) (fun _ q=>q) fun _ _ q=>q
  rcases hc with z|z
  ·rw[z];exact nit b u e
  ·exact nit c _ z
theorem Inv.tok (I:Inv X pins σ H s) (t:Nat):Inv X pins σ H { s with toks:=t }:=I.un (h':=s.heap) (t':=t) Un.refl I.hok
theorem Inv.kept {t':Nat} (I:Inv X pins σ H s) (k:∀ b u,s.heap.get? b=some u->h'.get? b=some u):Inv X pins σ H { s with heap:=h',toks:=t' }:=I.un (Un.kept k) (I.hok.kept k)
theorem Inv.laid {a:Addr}{o:HO}{t':Nat} (I:Inv X pins σ H s) (k:∀ b u,s.heap.get? b=some u->h'.get? b=some u) (hp:s.heap.objs.size<=a) (new:bG X.prog X.w (upd H a o) h' a o) :
  Inv X pins σ (upd H a o) { s with heap:=h',toks:=t' }:=I.un (Un.laid k hp (I.hok.fresh hp)) (I.hok.laid k hp new)
theorem Inv.write {x e:Addr}{o:HO}{t':Nat} (I:Inv X pins σ H s) (mu:DQ (H x)) (he:e=x\/H e=some (.own x)) (k:∀ b u,b≠e->s.heap.get? b=some u->h'.get? b=some u) (heo:∃ u,h'.get? e=some u)
  (new:bG X.prog X.w (upd H x o) h' x o):Inv X pins σ (upd H x o) { s with heap:=h',toks:=t' }:=I.un (Un.write mu he k heo) (I.hok.write mu he k heo new)
theorem Inv.weak {σ':List (Option V)} (I:Inv X pins σ H s) (hl:σ'.length=σ.length) (w:∀ (i:Nat) v,σ'[i]?=some (some v)->σ[i]?=some (some v)):Inv X pins σ' H s :=
 ⟨I.ok,I.os,I.bare,I.base,let ⟨m,hn,hl'⟩:=I.loc;⟨m,hn,fun i x v e1 e2 e3=>hl' i x v e1 (w i v e2) e3⟩,I.cell,I.free,I.freeC,I.pin,I.hok,hl.trans I.len⟩
theorem Inv.mE {pins':List (Addr×Obj)} (I:Inv X pins σ H s) (h:∀ p∈pins',s.heap.get? p.1=some p.2/\H p.1=none/\p.1≠X.env.locals/\p.1∉X.fs/\∀ v,p.2.data≠.cell v):Inv X pins' σ H s :=
 ⟨I.ok,I.os,I.bare,I.base,I.loc,I.cell,I.free,I.freeC,fun p hp=>(List.mem_append.mp hp).elim (fun z=>I.pin p (List.mem_append_left _ z)) (h p),I.hok,I.len⟩
theorem oA {N:List Str} (hN:N.Nodup) {i j:Nat}{x:Str} (a:N[i]?=some x) (b:N[j]?=some x):i=j:=by
 obtain⟨h1,e1⟩:=List.getElem?_eq_some_iff.mp a;obtain⟨h2,e2⟩:=List.getElem?_eq_some_iff.mp b;exact (List.getElem_inj hN).mp (e1.trans e2.symm)
theorem kZ {M:Model}{A:Around}{E:Value->Shared->Prop}{i:Nat}{x:Str}{v:V}{u:Value}{Q:Unit->Shared->Prop} (I:Inv X pins σ H s) (hN:X.N.Nodup) (hi:X.N[i]?=some x) (hx:Loc X.env.scope x) (r:RelV v u)
  (h:∀ s',Inv X pins (σ.set i (some v)) H s'->(∃ a,Heap.SameBut a s.heap s'.heap/\(a=X.env.locals\/X.env.cells.lookup x=some a))->Q () s') (hf:X.fn x=true\/X.env.scope.names.lookup x=some .local:=by first|exact .inl rfl|exact .inr rfl|assumption):wpAny M A (storeName X.env x u) Q E s:=by
 obtain⟨m,hn,hl⟩:=id I.loc;have hcls:(X.env.scope.kind == .class || (X.env.scope.kind == .module && X.env.locals != X.env.globals))=false:=by rw[I.ok.kind];rfl
 have hiσ:i<σ.length:=by rw[I.len];exact (List.getElem?_eq_some_iff.mp hi).1
 have yn:=I.yn;have tracked:∀ {a:Addr}{h':Heap},(∃ o,s.heap.get? a=some o/\H a=none)->Heap.SameBut a s.heap h'->fk X.prog X.w H h':=fun {a h'} ha hs b ob e=>by
  obtain⟨_,_,hfree⟩:=ha;refine (I.hok b ob e).pT (fun c w' hc q=>(hs.2 c ?_).trans q) (fun _ q=>q) fun _ _ q=>q;rintro rfl;rcases hc with rfl|hc
  ·rw[hfree] at e;cases e
  ·rw[hfree] at hc;cases hc
 rcases hx with hk|hk
 ·refine wpAny_storeName_local hk hn (fun h' hn' hs=>?_) hcls
  obtain⟨oL,_,_,hoL,_⟩:=id hn;refine h _ ⟨I.ok,I.os,I.bare,⟨fun b o e n hb hx=>?_,fun b o e n hb hx=>?_,I.base.free,fun b o e hx=>?_,I.base.tups,I.base.frzs,I.base.tbls⟩,⟨_,hn',fun j y v' e1 e2 e3=>?_⟩,fun y c e=>?_,I.free,I.freeC,fun p hp=>?_,tracked ⟨oL,hoL,I.free⟩ hs,by simpa using I.len⟩ ⟨_,hs,.inl rfl⟩
  ·exact (hs.2 b (Nat.ne_of_lt (Nat.lt_of_lt_of_le (Heap.lt_size e) I.ok.above))).trans (I.base.keep b o e n hb hx)
  ·obtain⟨sl,e1⟩:=I.base.slot b o e n hb hx
   exact⟨sl,(hs.2 b (Nat.ne_of_lt (Nat.lt_of_lt_of_le (Heap.lt_size e) I.ok.above))).trans e1⟩
  ·obtain⟨o',e1⟩:=I.base.there b o e hx
   exact⟨o',(hs.2 b (Nat.ne_of_lt (Nat.lt_of_lt_of_le (Heap.lt_size e) I.ok.above))).trans e1⟩
  ·by_cases hj:j=i
   ·subst hj
    rw[hi] at e1;cases e1;rw[List.getElem?_set_self hiσ] at e2
    cases e2;exact⟨u,r,.inl ⟨hk,by simp⟩⟩
   ·rw[List.getElem?_set_ne (Ne.symm hj)] at e2
    obtain⟨u',r',q⟩:=hl j y v' e1 e2 e3;refine⟨u',r',?_⟩;rcases q with ⟨k,e⟩|⟨k,c,e,z⟩
    ·refine .inl ⟨k,?_⟩
     have:y≠x:=fun e=>hj (oA hN e1 (e ▸ hi));simp[this,e]
    ·exact .inr ⟨k,c,e,z.sameBut hs (yn y c e)⟩
  ·obtain⟨w',z⟩:=I.cell y c e
   exact⟨w',z.sameBut hs (yn y c e)⟩
  ·obtain⟨e,n,ne,nf,d⟩:=I.pin p hp
   exact⟨(hs.2 p.1 ne).trans e,n,ne,nf,d⟩
 ·have hfn:X.fn x=true:=by
   rcases hf with z|z
   ·exact z
   ·rw[z] at hk;cases hk
  obtain⟨c,hc⟩:=I.ok.has x (.inl hk);obtain⟨w',z⟩:=I.cell x c hc;refine wpAny_storeName_cell I.ok.kind hk hc z (fun h' hc' hs=>?_);obtain⟨oc,hoc,hocd⟩:=id z;refine h { s with heap:=h' } ⟨I.ok,I.os,I.bare,⟨fun b o e n hb hx=>?_,fun b o e n hb hx=>?_,I.base.free,fun b o e hx=>?_,I.base.tups,I.base.frzs,I.base.tbls⟩,⟨m,hn.sameBut hs (Ne.symm (yn x c hc)),fun j y v' e1 e2 e3=>?_⟩,fun y c' e=>?_,I.free,I.freeC,fun p hp=>?_,tracked ⟨oc,hoc,I.freeC x c hc⟩ hs,by simpa using I.len⟩ ⟨c,hs,.inr hc⟩
  ·exact (hs.2 b (Nat.ne_of_lt (Nat.lt_of_lt_of_le (Heap.lt_size e) (I.ok.cab x c hfn hc)))).trans (I.base.keep b o e n hb hx)
  ·obtain⟨sl,e1⟩:=I.base.slot b o e n hb hx
   exact⟨sl,(hs.2 b (Nat.ne_of_lt (Nat.lt_of_lt_of_le (Heap.lt_size e) (I.ok.cab x c hfn hc)))).trans e1⟩
  ·obtain⟨o',e1⟩:=I.base.there b o e hx
   exact⟨o',(hs.2 b (Nat.ne_of_lt (Nat.lt_of_lt_of_le (Heap.lt_size e) (I.ok.cab x c hfn hc)))).trans e1⟩
  ·by_cases hj:j=i
   ·subst hj
    rw[hi] at e1;cases e1;rw[List.getElem?_set_self hiσ] at e2
    cases e2;exact⟨u,r,.inr ⟨.inl hk,c,hc,hc'⟩⟩
   ·rw[List.getElem?_set_ne (Ne.symm hj)] at e2
    obtain⟨u',r',q⟩:=hl j y v' e1 e2 e3;refine⟨u',r',?_⟩;rcases q with q|⟨k,c',e,z'⟩
    ·exact .inl q
    ·refine .inr ⟨k,c',e,z'.sameBut hs ?_⟩
     rintro rfl;exact hj (oA hN e1 (I.ok.inj _ _ _ e hc ▸ hi))
  ·by_cases hcc:c'=c
   ·subst hcc;exact⟨_,hc'⟩
   ·obtain⟨w2,z2⟩:=I.cell y c' e
    exact⟨w2,z2.sameBut hs hcc⟩
  ·obtain⟨e,n,ne,nf,d⟩:=I.pin p hp
   refine⟨(hs.2 p.1 ?_).trans e,n,ne,nf,d⟩;intro q;rw[q,hoc] at e;have q':oc=p.2:=Option.some.inj e;exact d w' (by rw[<- q'];exact hocd)
theorem jP {M:Model}{A:Around}{E:Value->Shared->Prop}{i:Nat}{x:Str}{v:V}{u:Value}{Q:Unit->Shared->Prop} (I:Inv X pins σ H s) (hN:X.N.Nodup) (hi:X.N[i]?=some x) (hx:Loc X.env.scope x) (r:RelV v u)
  (h:∀ s',Inv X pins (σ.set i (some v)) H s'->Q () s') (hf:X.fn x=true\/X.env.scope.names.lookup x=some .local:=by first|exact .inl rfl|exact .inr rfl|assumption):wpAny M A (storeName X.env x u) Q E s :=
 kZ I hN hi hx r (fun s' I' _=>h s' I') hf
theorem Inv.yV {s':Shared}{ch:List Addr} (I:Inv X pins σ H s) (ho:s'.os=s.os) (u:Un (iJ X.stack) ch H H' s.heap s'.heap) (hok:fk X.prog X.w H' s'.heap) (hg:AllBare s'.gens)
  (hch:∀ b∈ch,(b∈X.ex\/X.s₀.heap.objs.size<=b)/\b≠X.env.locals/\(∀ x c,X.env.cells.lookup x=some c->c≠b)/\∀ p∈X.pn++pins,p.1≠b):Inv X pins σ H' s':=by
 obtain⟨h',g',d',t',o'⟩:=s';have e:o'=s.os:=ho;subst e;exact I.call (g':=g') (t':=t') (d':=d') u hok hg hch
end
noncomputable abbrev XK:=Value->Option Addr->Hp->Prop
noncomputable abbrev St:=List (Option V)
noncomputable abbrev VK:=V->Hp->Prop
noncomputable abbrev TE:=St->Hp->VK->Prop
noncomputable abbrev TT:=St->Hp->(Bool->Hp->Prop)->Prop
noncomputable abbrev TA:=St->Hp->(List V->Hp->Prop)->Prop
structure Ends where
 nx:St->Hp->Prop
 rt:VK
 bk:St->Hp->Prop:=fun _ _=>False
 ct:St->Hp->Prop:=fun _ _=>False
noncomputable abbrev TS:=Ends->St->Hp->Prop
noncomputable def EP (X:Cx) (pins:List (Addr×Obj)) (σ:St) (Q:VK) (u:Value) (s':Shared):Prop:=∃ v H',Inv X pins σ H' s'/\RelV v u/\Q v H'
noncomputable def TP (X:Cx) (pins:List (Addr×Obj)) (σ:St) (Q:Bool->Hp->Prop) (b:Bool) (s':Shared):Prop:=∃ H',Inv X pins σ H' s'/\Q b H'
noncomputable def AP (X:Cx) (pins:List (Addr×Obj)) (σ:St) (Q:List V->Hp->Prop) (us:List Value) (s':Shared):Prop:=∃ vs H',Inv X pins σ H' s'/\Vals vs us/\Q vs H'
noncomputable def SP (X:Cx) (pins:List (Addr×Obj)) (D:Ends) (f:Flow) (s':Shared):Prop :=
 match f with
 | .next=>∃ σ' H',Inv X pins σ' H' s'/\D.nx σ' H'
 | .brk=>∃ σ' H',Inv X pins σ' H' s'/\D.bk σ' H'
 | .cont=>∃ σ' H',Inv X pins σ' H' s'/\D.ct σ' H'
 | .ret u=>∃ v σ' H',Inv X pins σ' H' s'/\RelV v u/\D.rt v H'
noncomputable def PE (X:Cx) (e:Expr) (t:TE):Prop :=
 ∀ (pins:List (Addr×Obj)) (s:Shared) (σ:St) (H:Hp) (Q:VK),Inv X pins σ H s->t σ H Q->wpAny (model X.prog X.w) X.A (eval e X.env) (EP X pins σ Q) X.xe s
noncomputable def PT (X:Cx) (e:Expr) (t:TT):Prop :=
 ∀ (pins:List (Addr×Obj)) (s:Shared) (σ:St) (H:Hp) (Q:Bool->Hp->Prop),Inv X pins σ H s->t σ H Q->wpAny (model X.prog X.w) X.A (isTrue e X.env (eval e X.env)) (TP X pins σ Q) X.xe s
noncomputable def PW (X:Cx) (e:Expr) (t:TT):Prop :=
 ∀ (whole:Sem Value) (pins:List (Addr×Obj)) (s:Shared) (σ:St) (H:Hp) (Q:Bool->Hp->Prop),Inv X pins σ H s->t σ H Q->wpAny (model X.prog X.w) X.A (isTrue e X.env whole) (TP X pins σ Q) X.xe s
theorem PW.pt {X:Cx}{e:Expr}{t:TT} (h:PW X e t):PT X e t:=h _
noncomputable def PA (X:Cx) (es:List Expr) (t:TA):Prop :=
 ∀ (pos:Pos) (pins:List (Addr×Obj)) (s:Shared) (σ:St) (H:Hp) (Q:List V->Hp->Prop),Inv X pins σ H s->t σ H Q->wpAny (model X.prog X.w) X.A (spliced (backTo pos (starEach es X.env))) (AP X pins σ Q) X.xe s
noncomputable def PS (X:Cx) (st:Stmt) (t:TS):Prop :=
 ∀ (pins:List (Addr×Obj)) (s:Shared) (σ:St) (H:Hp) (D:Ends),Inv X pins σ H s->t D σ H->wpAny (model X.prog X.w) X.A (exec st X.env) (SP X pins D) X.xe s
noncomputable def mf (X:Cx) (st:List Stmt) (t:TS):Prop :=
 ∀ (pins:List (Addr×Obj)) (s:Shared) (σ:St) (H:Hp) (D:Ends),Inv X pins σ H s->t D σ H->wpAny (model X.prog X.w) X.A (execs st X.env) (SP X pins D) X.xe s
theorem bA {α:Type}{t:Sem α}{Q Q':α->Shared->Prop}{M:Model}{A:Around}{E:Value->Shared->Prop}{s:Shared} (h:wpAny M A t Q E s) (hQ:∀ a s,Q a s->Q' a s):wpAny M A t Q' E s:=wpAny_mono h hQ fun _ _ x=>x
end L2
namespace L2
open PySem PySem.Spec PyProof.Rows
section
variable {X:Cx}
noncomputable def kx (i:Nat):TE:=fun σ H Q=>∃ v,σ[i]?=some (some v)/\Q v H
noncomputable def tC (v:V):TE:=fun _ H Q=>Q v H
theorem zq {i:Nat}{x:Str}{pos:Pos} (hN:X.N[i]?=some x) (hv:Dh X.env.scope x) (hd:(x == ("__debug__":Str))=false:=by decide) (hcd:(x == ("__classdict__":Str))=false:=by decide):PE X (.Name x pos) (kx i):=by
 intro pins s σ H Q I h;obtain⟨v,e,h⟩:=h;obtain⟨m,hn,hl⟩:=I.loc;obtain⟨u,r,l⟩:=hl i x v hN e hv;have fin:EP X pins σ Q u s:=⟨v,H,I,r,h⟩;rcases l with ⟨hk,hm⟩|⟨hk,c,hc,hcell⟩
 ·exact wpAny_Name (wpAny_loadName_local I.ok.kind hk hn hm fin) hd
 ·rcases hk with hk|hk
  ·exact wpAny_Name (wpAny_loadName_cell I.ok.kind hk hc hcell fin) hd
  ·exact wpAny_Name (wpAny_loadName_free I.ok.kind hk hc hcell fin hcd) hd
theorem aj {i j pos}:PE X (.Constant (.int i) j pos) (tC (.int i)):=fun _ _ _ H _ I h=>wpAny_Constant_int ⟨.int i,H,I.tok _,⟨_,rfl⟩,h⟩
theorem fN {b j pos}:PE X (.Constant (.bool b) j pos) (tC (.bl b)):=fun _ _ _ H _ I h=>Constant_bool ⟨.bl b,H,I,rfl,h⟩
theorem fF {j pos}:PE X (.Constant .none j pos) (tC .non):=fun _ _ _ H _ I h=>Constant_none ⟨.non,H,I,rfl,h⟩
theorem au {x j pos}:PE X (.Constant (.str x) j pos) (tC (.str x)):=fun _ _ _ H _ I h=>Calls.Constant_str ⟨.str x,H,I.tok _,⟨_,rfl⟩,h⟩
noncomputable def Gl (X:Cx) (x:Str):Prop:=X.env.kindOf x=some .globalImplicit
theorem fe {E:Value->Shared->Prop}{pins:List (Addr×Obj)}{s:Shared}{σ:St}{H:Hp}{x:Str}{u:Value}{pos:Pos}{Q:Value->Shared->Prop} (I:Inv X pins σ H s) (hg:Gl X x) (hm:X.mg x=some u) (h:Q u s)
  (hd:(x == ("__debug__":Str))=false:=by decide):wpAny (model X.prog X.w) X.A (eval (.Name x pos) X.env) Q E s :=
 Calls.Name_function_global I.ok.kind hg (Calls.loadGlobal_global (by rw[I.ok.glob];exact I.mod.glob.keeps I.bk) hm h) hd
theorem hX {E:Value->Shared->Prop}{pins:List (Addr×Obj)}{s:Shared}{σ:St}{H:Hp}{x:Str}{u:Value}{pos:Pos}{Q:Value->Shared->Prop} (I:Inv X pins σ H s) (hg:Gl X x) (hm:X.mg x=none) (hv:bootBuiltins x=some u) (h:Q u s)
  (hn:x≠"__name__":=by decide) (hd:(x == ("__debug__":Str))=false:=by decide):wpAny (model X.prog X.w) X.A (eval (.Name x pos) X.env) Q E s:=by
 obtain⟨mb,h1,h2⟩:=I.mod.blt;exact Calls.Name_function_global I.ok.kind hg (Calls.loadGlobal_builtin (by rw[I.ok.glob];exact I.mod.glob.keeps I.bk) hm (by rw[I.ok.blt];exact h1.keeps I.bk) ((h2 x hn).trans hv) h) hd
theorem yB {x:Str}{v:V}{u:Value}{pos:Pos} (hg:Gl X x) (hm:X.mg x=some u) (r:RelV v u) (hd:(x == ("__debug__":Str))=false:=by decide):PE X (.Name x pos) (tC v) :=
 fun _ _ _ H _ I h=>fe I hg hm ⟨v,H,I,r,h⟩ hd
theorem bZ {x:Str}{v:V}{u:Value}{pos:Pos} (hg:Gl X x) (hm:X.mg x=none) (hv:bootBuiltins x=some u) (r:RelV v u) (hn:x≠"__name__":=by decide) (hd:(x == ("__debug__":Str))=false:=by decide):PE X (.Name x pos) (tC v) :=
 fun _ _ _ H _ I h=>hX I hg hm hv ⟨v,H,I,r,h⟩ hn hd
variable {a b:Expr}{ta tb:TE}{pos:Pos}
noncomputable def PC (X:Cx) (op:CmpOp) (a b:Expr) (t:TE):Prop :=
 ∀ (pins:List (Addr×Obj)) (s:Shared) (σ:St) (H:Hp) (Q:VK),Inv X pins σ H s->t σ H Q ->
  wpAny (model X.prog X.w) X.A (eval a X.env) (fun v s₁=>wpAny (model X.prog X.w) X.A (eval b X.env) (fun u s₂=>wpAny (model X.prog X.w) X.A (compareOp op v u) (EP X pins σ Q) X.xe s₂) X.xe s₁) X.xe s
theorem vJ (b:Expr) {op:CmpOp} (h:op≠.In) (h2:op≠.NotIn):behindInMarks op b=false:=by
 have e1:(op == CmpOp.In)=false:=by cases op <;> first|rfl|exact absurd rfl h
 have e2:(op == CmpOp.NotIn)=false:=by cases op <;> first|rfl|exact absurd rfl h2
 cases b <;> simp[behindInMarks,e1,e2]
noncomputable def Al (ta:TE):TE:=fun σ H Q=>ta σ H fun x H1=>Q (.bl (decide (x=.non))) H1
noncomputable def vZ (ta:TE):TE:=fun σ H Q=>ta σ H fun x H1=>Q (.bl (!decide (x=.non))) H1
theorem RelV.oW {x:V}{v:Value} (r:RelV x v):(v == Value.none)=decide (x=.non):=by
 cases x with
 | non=>cases r;rfl
 | bl _=>cases r;rfl
 | int _=>obtain⟨t,rfl⟩:=r;rfl
 | str _=>obtain⟨t,rfl⟩:=r;rfl
 | byt _=>obtain⟨t,rfl⟩:=r;rfl
 | flt _=>obtain⟨t,rfl⟩:=r;rfl
 | ref _=>cases r;rfl
 | ty _=>cases r;rfl
theorem fB {j pos'} (ha:PE X a ta):PC X .Is a (.Constant .none j pos') (Al ta):=by
 intro pins s σ H Q I h;refine bA (ha pins s σ H _ I h) fun v s1 ⟨x,H1,I1,r1,q1⟩=>?_;exact Constant_none (is_none_gen ⟨.bl _,H1,I1,by rw[r1.oW];rfl,q1⟩)
theorem qW {j pos'} (ha:PE X a ta):PC X .IsNot a (.Constant .none j pos') (vZ ta):=by
 intro pins s σ H Q I h;refine bA (ha pins s σ H _ I h) fun v s1 ⟨x,H1,I1,r1,q1⟩=>?_;exact Constant_none (isnot_none_gen ⟨.bl _,H1,I1,by rw[r1.oW];rfl,q1⟩)
noncomputable def tB (t:TE):TT:=fun σ H Q=>t σ H fun x H1=>∃ c,x=.bl c/\Q c H1
theorem dN {op:CmpOp}{t:TE} (h:PC X op a b t) (h1:behindInMarks op b=false:=by first|exact vJ _ (by decide) (by decide)|rfl):PT X (.Compare a [op] [b] pos) (tB t):=by
 intro pins s σ H Q I hw;refine wpAny_isTrue_Compare1 (bA (h pins s σ H _ I hw) fun v s1 h1=>bA h1 fun u s2 h2=>bA h2 fun c s3 ⟨x,H1,I1,r1,q1⟩=>?_) h1;obtain⟨d,rfl,q⟩:=q1
 cases r1;exact wpAny_truthy_bool ⟨H1,I1,q⟩
theorem cF {e:Expr}{t:TE} (h:PE X e t) (he:∀ whole,isTrue e X.env whole=(do let v <- whole;standAt e.pos;holding [v] (truthy v)):=by intro _;rfl):PT X e (tB t):=by
 intro pins s σ H Q I hw;refine isTrue_plain (bA (h pins s σ H _ I hw) fun v s1 ⟨x,H1,I1,r1,q1⟩=>?_) (he _);obtain⟨d,rfl,q⟩:=q1
 cases r1;exact wpAny_truthy_bool ⟨H1,I1,q⟩
variable {tA tB':TT}{rest:List Expr}
noncomputable def CM (t u:TT):TT:=fun σ H Q=>t σ H fun c H1=>if c=true then u σ H1 Q else Q false H1
noncomputable def GX (t u:TT):TT:=fun σ H Q=>t σ H fun c H1=>if c=true then Q true H1 else u σ H1 Q
noncomputable def Dq (t:TT):TT:=fun σ H Q=>t σ H fun c H1=>Q (!c) H1
theorem jf (ha:PT X a tA):PW X (.BoolOp .And [a] pos) tA:=by
 intro wh pins s σ H Q I h;refine isTrue_and (bA (ha pins s σ H Q I h) fun c s1 e=>?_)
 cases c with
 | true=>exact isTrue_and_nil e
 | false=>exact e
theorem fC (ha:PT X a tA):PW X (.BoolOp .Or [a] pos) tA:=by
 intro wh pins s σ H Q I h;refine isTrue_or (bA (ha pins s σ H Q I h) fun c s1 e=>?_)
 cases c with
 | false=>exact isTrue_or_nil e
 | true=>exact e
theorem ke (ha:PT X a tA) (hb:PW X (.BoolOp .And (b::rest) pos) tB'):PW X (.BoolOp .And (a::b::rest) pos) (CM tA tB'):=by
 intro wh pins s σ H Q I h;refine isTrue_and (bA (ha pins s σ H _ I h) fun c s1 ⟨H1,I1,q1⟩=>?_)
 cases c with
 | true=>exact hb wh pins s1 σ H1 Q I1 q1
 | false=>exact⟨H1,I1,q1⟩
theorem gg (ha:PT X a tA) (hb:PW X (.BoolOp .Or (b::rest) pos) tB'):PW X (.BoolOp .Or (a::b::rest) pos) (GX tA tB'):=by
 intro wh pins s σ H Q I h;refine isTrue_or (bA (ha pins s σ H _ I h) fun c s1 ⟨H1,I1,q1⟩=>?_)
 cases c with
 | true=>exact⟨H1,I1,q1⟩
 | false=>exact hb wh pins s1 σ H1 Q I1 q1
theorem eA (ha:PT X a tA):PT X (.UnaryOp .Not a pos) (Dq tA):=by
 intro pins s σ H Q I h;exact isTrue_not (ha pins s σ H (fun c H1=>Q (!c) H1) I h)
noncomputable def za (ta tb:TE):TE:=fun σ H Q=>ta σ H fun x H1=>∃ c,x=.bl c/\if c=true then tb σ H1 Q else Q (.bl false) H1
noncomputable def CL (ta tb:TE):TE:=fun σ H Q=>ta σ H fun x H1=>∃ c,x=.bl c/\if c=true then Q (.bl true) H1 else tb σ H1 Q
noncomputable def zg (ta:TE):TE:=fun σ H Q=>ta σ H fun x H1=>∃ c,x=.bl c/\Q (.bl (!c)) H1
theorem qr {op}{t:TE} (h:PE X a t):PE X (.BoolOp op [a] pos) t:=fun pins s σ H Q I hw=>BoolOp_one (h pins s σ H Q I hw)
theorem wD (ha:PE X a ta) (hb:PE X (.BoolOp .And (b::rest) pos) tb):PE X (.BoolOp .And (a::b::rest) pos) (za ta tb):=by
 intro pins s σ H Q I h;refine BoolOp_and (bA (ha pins s σ H _ I h) fun v s1 ⟨x,H1,I1,r1,q1⟩=>?_);obtain⟨c,rfl,q1⟩:=q1
 cases r1;refine wpAny_truthy_bool ?_
 cases c with
 | true=>exact hb pins s1 σ H1 Q I1 q1
 | false=>exact⟨.bl false,H1,I1,rfl,q1⟩
theorem EB (ha:PE X a ta) (hb:PE X (.BoolOp .Or (b::rest) pos) tb):PE X (.BoolOp .Or (a::b::rest) pos) (CL ta tb):=by
 intro pins s σ H Q I h;refine BoolOp_or (bA (ha pins s σ H _ I h) fun v s1 ⟨x,H1,I1,r1,q1⟩=>?_);obtain⟨c,rfl,q1⟩:=q1
 cases r1;refine wpAny_truthy_bool ?_
 cases c with
 | false=>exact hb pins s1 σ H1 Q I1 q1
 | true=>exact⟨.bl true,H1,I1,rfl,q1⟩
theorem AJ (ha:PE X a ta):PE X (.UnaryOp .Not a pos) (zg ta):=by
 intro pins s σ H Q I h;refine UnaryOp_ (bA (ha pins s σ H _ I h) fun v s1 ⟨x,H1,I1,r1,q1⟩=>?_);obtain⟨c,rfl,q1⟩:=q1
 cases r1;exact not_of (wpAny_truthy_bool ⟨.bl (!c),H1,I1,rfl,q1⟩)
noncomputable def GQ (t:TT) (ta tb:TE):TE:=fun σ H Q=>t σ H fun c H1=>if c=true then ta σ H1 Q else tb σ H1 Q
theorem gG {c:Expr} (hc:PT X c tA) (ha:PE X a ta) (hb:PE X b tb):PE X (.IfExp c a b pos) (GQ tA ta tb):=by
 intro pins s σ H Q I h;refine wpAny_IfExp (bA (hc pins s σ H _ I h) fun d s1 ⟨H1,I1,q1⟩=>?_)
 cases d with
 | true=>exact ha pins s1 σ H1 Q I1 q1
 | false=>exact hb pins s1 σ H1 Q I1 q1
end
end L2
namespace L2
open PySem PySem.Spec PyProof.Rows
noncomputable def aP (K:PySem.W.Frag) (H:Hp) (a:Addr) (xs:List V):Prop :=
 Rd H a (.lst xs) \/
  ∃ (o:Obj) (its:Array Value) (n:Nat),K.lookup a=some o/\o.cls=.type "list"/\o.dict=none/\o.data=.seq its n/\its.size<=sizeLine/\Vals xs its.toList
noncomputable def cE (K:PySem.W.Frag) (H:Hp) (a:Addr) (xs:List V):Prop :=
 Rd H a (.tup xs) \/
  ∃ (o:Obj) (its:Array Value) (n:Nat),K.lookup a=some o/\o.cls=.type "tuple"/\o.data=.seq its n/\its.size<=sizeLine/\Vals xs its.toList
noncomputable def FV:Value->Option V
 | .none=>some .non
 | .bool b=>some (.bl b)
 | .int i _=>some (.int i)
 | .str x _=>some (.str x)
 | .bytes b _=>some (.byt b)
 | .float b _=>some (.flt b)
 | .ref a=>some (.ref a)
 | .type n=>some (.ty n)
 | _=>none
theorem RelV.abs {x:V}{u:Value} (r:RelV x u):FV u=some x:=by
 cases x with
 | non=>cases r;rfl
 | bl _=>cases r;rfl
 | int _=>obtain⟨t,rfl⟩:=r;rfl
 | str _=>obtain⟨t,rfl⟩:=r;rfl
 | byt _=>obtain⟨t,rfl⟩:=r;rfl
 | flt _=>obtain⟨t,rfl⟩:=r;rfl
 | ref _=>cases r;rfl
 | ty _=>cases r;rfl
theorem RelV.inj {x y:V}{u:Value} (r:RelV x u) (q:RelV y u):x=y:=Option.some.inj (r.abs.symm.trans q.abs)
theorem Vals.inj:∀ {xs ys:List V}{us:List Value},Vals xs us->Vals ys us->xs=ys
 | _,_,_,.nil,.nil=>rfl
 | _,_,_,.cons r t,.cons r' t'=>by rw[r.inj r',Vals.inj t t']
section
variable {X:Cx}{pins:List (Addr×Obj)}{σ:St}{H:Hp}{s:Shared}{a:Addr}{xs ys:List V}
theorem aP.of {K:PySem.W.Frag} (h:H a=some (.lst xs)):aP K H a xs:=.inl (.inl h)
theorem cE.of {K:PySem.W.Frag} (h:H a=some (.tup xs)):cE K H a xs:=.inl (.inl h)
theorem Inv.list (I:Inv X pins σ H s) (h:aP X.K H a xs):∃ its:List Value,Vals xs its/\PlainL s.heap a its.toArray/\xs.length<=sizeLine:=by
 rcases h with h|⟨o,its,n,hk,hc,hd,hs,hz,r⟩
 ·obtain⟨z,its,n,r,e⟩:=h.ok I.hok
  exact⟨its,r,⟨_,n,e,rfl,rfl,rfl⟩,z⟩
 ·refine⟨its.toList,r,⟨o,n,I.eK a o hk,hc,hd,by simpa using hs⟩,?_⟩
  have e:=r.length;simp only[Array.length_toList] at e;omega
theorem Inv.tuple (I:Inv X pins σ H s) (h:cE X.K H a xs):∃ its:List Value,Vals xs its/\IsTup s.heap a its.toArray/\xs.length<=sizeLine:=by
 rcases h with h|⟨o,its,n,hk,hc,hs,hz,r⟩
 ·obtain⟨z,its,r,p⟩:=h.ok I.hok
  exact⟨its,r,p,z⟩
 ·refine⟨its.toList,r,⟨o,I.eK a o hk,hc,n,by simpa using hs⟩,?_⟩
  have e:=r.length;simp only[Array.length_toList] at e;omega
theorem Inv.oB (I:Inv X pins σ H s) (h:aP X.K H a xs) (h':aP X.K H a ys):xs=ys:=by
 obtain⟨its,r,⟨o,n,e,_,_,d⟩,_⟩:=I.list h;obtain⟨its',r',⟨o',n',e',_,_,d'⟩,_⟩:=I.list h';rw[e] at e';cases e';rw[d] at d';injection d' with d1 _
 have:its=its':=by simpa using congrArg Array.toList d1
 subst this;exact r.inj r'
theorem Inv.tY (I:Inv X pins σ H s) (h:cE X.K H a xs) (h':cE X.K H a ys):xs=ys:=by
 obtain⟨its,r,⟨o,e,_,n,d⟩,_⟩:=I.tuple h;obtain⟨its',r',⟨o',e',_,n',d'⟩,_⟩:=I.tuple h';rw[e] at e';cases e';rw[d] at d';injection d' with d1 _
 have:its=its':=by simpa using congrArg Array.toList d1
 subst this;exact r.inj r'
end
noncomputable abbrev Cx.kA (X:Cx) (E:Value->Shared->Prop):Cx:={ X with xe:=E }
noncomputable abbrev Cx.EX (X:Cx):Cx:=X.kA fun _ _=>False
theorem Cx.Ok.kA {X:Cx} (ok:X.Ok) (E:Value->Shared->Prop):(X.kA E).Ok :=
 ⟨ok.mod,ok.kind,ok.glob,ok.blt,ok.above,ok.inj,ok.has,ok.cab,ok.hd,ok.frames,ok.stk,ok.exf,ok.bs,ok.bsz,ok.noex,ok.exfs,ok.fZ,ok.frf⟩
theorem Cx.Ok.fJ {X:Cx}{E:Value->Shared->Prop} (ok:(X.kA E).Ok):X.Ok :=
 ⟨ok.mod,ok.kind,ok.glob,ok.blt,ok.above,ok.inj,ok.has,ok.cab,ok.hd,ok.frames,ok.stk,ok.exf,ok.bs,ok.bsz,ok.noex,ok.exfs,ok.fZ,ok.frf⟩
section
variable {X:Cx}{pins:List (Addr×Obj)}{σ:St}{H:Hp}{s:Shared}{E:Value->Shared->Prop}
theorem Inv.kA (I:Inv X pins σ H s) (E:Value->Shared->Prop):Inv (X.kA E) pins σ H s:=⟨I.ok.kA E,I.os,I.bare,I.base,I.loc,I.cell,I.free,I.freeC,I.pin,I.hok,I.len⟩
theorem Inv.fJ (I:Inv (X.kA E) pins σ H s):Inv X pins σ H s:=⟨I.ok.fJ,I.os,I.bare,I.base,I.loc,I.cell,I.free,I.freeC,I.pin,I.hok,I.len⟩
theorem SP.fJ {D:Ends}{f:Flow}{s':Shared} (h:SP (X.kA E) pins D f s'):SP X pins D f s':=by
 cases f with
 | next=>obtain⟨σ',H',I,q⟩:=h;exact⟨σ',H',I.fJ,q⟩
 | brk=>obtain⟨σ',H',I,q⟩:=h;exact⟨σ',H',I.fJ,q⟩
 | cont=>obtain⟨σ',H',I,q⟩:=h;exact⟨σ',H',I.fJ,q⟩
 | ret u=>obtain⟨v,σ',H',I,r,q⟩:=h;exact⟨v,σ',H',I.fJ,r,q⟩
theorem mf.EX {st:List Stmt}{t:TS} (h:mf X.EX st t):mf X st t:=fun pins s σ H D I hw =>
 wpAny_mono (h pins s σ H D (I.kA _) hw) (fun _ _ q=>q.fJ) fun _ _ z=>False.elim z
end
section
variable {X:Cx}{st:Stmt}{rest:List Stmt}{t u:TS}{e:Expr}{te:TE}{pos:Pos}
noncomputable def uT:TS:=fun D σ H=>D.nx σ H
noncomputable def Av (t u:TS):TS:=fun D σ H=>t { D with nx:=u D } σ H
theorem aJ:mf X [] uT:=fun _ _ σ H _ I h=>wpAny_execs_nil ⟨σ,H,I,h⟩
theorem af (h1:PS X st t) (h2:mf X rest u):mf X (st::rest) (Av t u):=by
 intro pins s σ H D I h;refine wpAny_execs_cons (bA (h1 pins s σ H { D with nx:=u D } I h) fun f s1 q=>?_)
 cases f with
 | next =>
  obtain⟨σ',H',I',q⟩:=q;exact h2 pins s1 σ' H' D I' q
 | ret v=>exact q
 | brk=>exact q
 | cont=>exact q
theorem ak (h1:PS X st t):mf X [st] t:=by
 intro pins s σ H D I h;refine wpAny_execs_cons (bA (h1 pins s σ H D I h) fun f s1 q=>?_)
 cases f with
 | next=>exact wpAny_execs_nil q
 | ret v=>exact q
 | brk=>exact q
 | cont=>exact q
noncomputable def De:TS:=fun D σ H=>D.ct σ H
theorem pA:PS X (.Continue pos) De:=fun _ _ σ H _ I h=>wpAny_Continue ⟨σ,H,I,h⟩
theorem Inv.quiet {pins:List (Addr×Obj)}{σ:St}{H:Hp}{s:Shared} (I:Inv X pins σ H s):interactive X.env=false:=by simp[interactive,I.ok.kind]
noncomputable def wA (te:TE):TS:=fun D σ H=>te σ H fun _ H1=>D.nx σ H1
theorem aZ (he:PE X e te) (hs:swapsWith e none pos.line X.env=pure false:=by rfl):PS X (.Expr e pos) (wA te):=by
 intro pins s σ H D I h;exact wpAny_Expr_any (bA (he pins s σ H _ I h) fun v s1 ⟨x,H1,I1,r1,q1⟩=>⟨σ,H1,I1,q1⟩) I.quiet hs
noncomputable def Bs (te:TE):TS:=fun D σ H=>te σ H D.rt
theorem aw (he:PE X e te):PS X (.Return (some e) pos) (Bs te):=by
 intro pins s σ H D I h;exact wpAny_Return_some (bA (he pins s σ H _ I h) fun v s1 ⟨x,H1,I1,r1,q1⟩=>⟨x,σ,H1,I1,r1,q1⟩)
noncomputable def DL:TS:=fun D _ H=>D.rt .non H
noncomputable def BV (c:TT) (t u:TS):TS:=fun D σ H=>c σ H fun b H1=>if b=true then t D σ H1 else u D σ H1
theorem eX {c:Expr}{a b:List Stmt}{tc:TT} (hc:PT X c tc) (ha:mf X a t) (hb:mf X b u):PS X (.If c a b pos) (BV tc t u):=by
 intro pins s σ H D I h;refine wpAny_If (bA (hc pins s σ H _ I h) fun d s1 ⟨H1,I1,q1⟩=>?_)
 cases d with
 | true=>exact ha pins s1 σ H1 D I1 q1
 | false=>exact hb pins s1 σ H1 D I1 q1
end
noncomputable abbrev TG:=V->St->Hp->(St->Hp->Prop)->Prop
noncomputable abbrev uj:=List V->St->Hp->(St->Hp->Prop)->Prop
noncomputable def PG (X:Cx) (target:Expr) (t:TG):Prop :=
 ∀ (pins:List (Addr×Obj)) (s:Shared) (σ:St) (H:Hp) (v:V) (u:Value) (Q:St->Hp->Prop),Inv X pins σ H s->RelV v u->t v σ H Q ->
  wpAny (model X.prog X.w) X.A (assign target X.env u) (fun _ s'=>∃ σ' H',Inv X pins σ' H' s'/\Q σ' H') X.xe s
noncomputable def yP (X:Cx) (ts:List Expr) (t:uj):Prop :=
 ∀ (pins:List (Addr×Obj)) (s:Shared) (σ:St) (H:Hp) (vs:List V) (us:List Value) (Q:St->Hp->Prop),Inv X pins σ H s->Vals vs us->t vs σ H Q ->
  wpAny (model X.prog X.w) X.A (assignInOrder ((assignEach ts X.env).map (·.2)) us) (fun _ s'=>∃ σ' H',Inv X pins σ' H' s'/\Q σ' H') X.xe s
noncomputable abbrev Fb:=V->V->Hp->VK->Prop
noncomputable def Hc (X:Cx) (op:Operator) (t:Fb):Prop :=
 ∀ (pins:List (Addr×Obj)) (s:Shared) (σ:St) (H:Hp) (x y:V) (v u:Value) (Q:VK),Inv X pins σ H s->RelV x v->RelV y u->t x y H Q ->
  wpAny (model X.prog X.w) X.A (inplaceOp op v u) (EP X pins σ Q) X.xe s
section
variable {X:Cx}{pos:Pos}
noncomputable def pB (i:Nat):TG:=fun v σ H Q=>Q (σ.set i (some v)) H
theorem aI {i:Nat}{x:Str} (hN:X.N.Nodup) (hi:X.N[i]?=some x) (hx:Loc X.env.scope x) (hf:X.fn x=true\/X.env.scope.names.lookup x=some .local:=by first|exact .inl rfl|exact .inr rfl|assumption):PG X (.Name x pos) (pB i):=by
 intro pins s σ H v u Q I r h;exact wpAny_assign_Name (jP I hN hi hx r (fun s' I'=>⟨_,H,I',h⟩) hf)
noncomputable def CF:uj:=fun vs σ H Q=>vs=[]/\Q σ H
noncomputable def rD (t:TG) (u:uj):uj:=fun vs σ H Q=>∃ v r,vs=v::r/\t v σ H fun σ' H'=>u r σ' H' Q
theorem ja:yP X [] CF:=by
 intro pins s σ H vs us Q I r h;obtain⟨e,h⟩:=h;subst e
 cases r;exact assignInOrder_nil ⟨σ,H,I,h⟩
theorem cw {e:Expr}{es:List Expr}{t:TG}{u:uj} (h1:PG X e t) (h2:yP X es u)
  (hs:(assignEach (e::es) X.env).map (·.2)=assign e X.env::(assignEach es X.env).map (·.2):=by rfl):yP X (e::es) (rD t u):=by
 intro pins s σ H vs us Q I r h;obtain⟨v,vr,e1,h⟩:=h;subst e1
 cases r with
 | cons r rr =>
  rw[hs];refine assignInOrder_cons (bA (h1 pins s σ H _ _ _ I r h) fun _ s1 ⟨σ1,H1,I1,q1⟩=>?_);exact h2 pins s1 σ1 H1 _ _ Q I1 rr q1
noncomputable def zu (K:PySem.W.Frag) (n:Nat) (t:uj):TG:=fun v σ H Q=>∃ a xs,v=.ref a/\cE K H a xs/\xs.length=n/\t xs σ H Q
theorem Cc {es:List Expr}{k:Nat}{t:uj}{n:Nat} (hc:X.calm=true) (h:yP X es t)
  (hn:(assignEach es X.env).length=n:=by rfl) (hst:(assignEach es X.env).findIdx? (·.1)=none:=by rfl):PG X (.Tuple es k pos) (zu X.K n t):=by
 intro pins s σ H v u Q I r hw;obtain⟨a,xs,e1,hq,hl,hw⟩:=hw;subst e1
 cases r;obtain⟨its,rv,ht,hz⟩:=I.tuple hq;refine assign_Tuple_tuple (I.ok.hd hc) ht (by simp[hn,<- hl,rv.length]) hst fun h' hx=>?_;have I1:Inv X pins σ H { s with heap:=h' }:=I.kept (t':=s.toks) fun b o e=>hx b o (Nat.ne_of_lt (Heap.lt_size e)) e;exact h pins _ σ H xs _ Q I1 (by simpa using rv) hw
noncomputable def xi (te:TE) (g:TG):TS:=fun D σ H=>te σ H fun x H1=>g x σ H1 D.nx
theorem uw {tg e:Expr}{te:TE}{g:TG} (he:PE X e te) (hg:PG X tg g) (hs:swapsWithSole [tg] e pos.line X.env=pure false:=by rfl) (hw:swappedStores [tg] e X.env=pure none:=by rfl)
  (h1:(assignEach [tg] X.env).map (·.2)=[assign tg X.env]:=by rfl):PS X (.Assign [tg] e pos) (xi te g):=by
 intro pins s σ H D I h;refine wpAny_Assign_stores (bA (he pins s σ H _ I h) fun v s1 ⟨x,H1,I1,r1,q1⟩=>?_) hs hw;rw[h1];exact bA (hg pins s1 σ H1 x v _ I1 r1 q1) fun _ s2 q=>q
theorem aA {i:Nat}{x:Str}{e:Expr}{te:TE}{pos':Pos} (hN:X.N.Nodup) (hi:X.N[i]?=some x) (hx:Loc X.env.scope x) (he:PE X e te) (hs:swapsWith e (some (.Name x pos')) pos.line X.env=pure false:=by rfl) (hf:X.fn x=true\/X.env.scope.names.lookup x=some .local:=by first|exact .inl rfl|exact .inr rfl|assumption) :
  PS X (.Assign [.Name x pos'] e pos) (xi te (pB i)):=by
 intro pins s σ H D I h;refine wpAny_Assign_Name (bA (he pins s σ H _ I h) fun v s1 ⟨y,H1,I1,r1,q1⟩=>?_) hs;exact jP I1 hN hi hx r1 (fun s2 I2=>⟨_,H1,I2,q1⟩) hf
noncomputable def DK (i:Nat) (te:TE) (ti:Fb):TS:=fun D σ H=>∃ x,σ[i]?=some (some x)/\te σ H fun y H1=>ti x y H1 fun z H2=>D.nx (σ.set i (some z)) H2
theorem uZ {i:Nat}{x:Str}{e:Expr}{te:TE}{op:Operator}{ti:Fb}{pos':Pos} (hN:X.N.Nodup) (hi:X.N[i]?=some x) (hx:Loc X.env.scope x) (he:PE X e te) (ho:Hc X op ti) (hf:X.fn x=true\/X.env.scope.names.lookup x=some .local:=by first|exact .inl rfl|exact .inr rfl|assumption) :
  PS X (.AugAssign (.Name x pos') op e pos) (DK i te ti):=by
 intro pins s σ H D I h;obtain⟨v,e1,h⟩:=h;obtain⟨m,hn,hl⟩:=I.loc;have vis:Dh X.env.scope x:=by rcases hx with k|k;exact .inl k;exact .inr (.inl k)
 obtain⟨u,r,l⟩:=hl i x v hi e1 vis;refine wpAny_AugAssign_Name ?_;have go:wpAny (model X.prog X.w) X.A (eval e X.env) (fun w s₂=>wpAny (model X.prog X.w) X.A (inplaceOp op u w) (fun r s₃=>wpAny (model X.prog X.w) X.A (storeName X.env x r) (fun _=>SP X pins D .next) X.xe s₃) X.xe s₂) X.xe s:=by
  refine bA (he pins s σ H _ I h) fun w s1 ⟨y,H1,I1,r1,q1⟩=>?_;refine bA (ho pins s1 σ H1 v y u w _ I1 r r1 q1) fun z s2 ⟨zv,H2,I2,r2,q2⟩=>?_;exact jP I2 hN hi hx r2 (fun s3 I3=>⟨_,H2,I3,q2⟩) hf
 rcases l with ⟨hk,hm⟩|⟨hk,c,hc,hcell⟩
 ·exact wpAny_loadName_local I.ok.kind hk hn hm go
 ·rcases hk with hk|hk
  ·exact wpAny_loadName_cell I.ok.kind hk hc hcell go
  ·rcases hx with k|k
   ·have:X.env.scope.names.lookup x=some .free:=hk
    rw[k] at this;cases this
   ·have:X.env.scope.names.lookup x=some .free:=hk
    rw[k] at this;cases this
noncomputable def HE (f:Int->Int->Int):Fb:=fun x y H Q=>∃ i j,x=.int i/\y=.int j/\Q (.int (f i j)) H
theorem vK:Hc X .Add (HE fun i j=>i+j):=by
 intro pins s σ H x y v u Q I r1 r2 h;obtain⟨i,j,e1,e2,q⟩:=h;subst e1;subst e2;obtain⟨t,rfl⟩:=r1;obtain⟨t',rfl⟩:=r2;exact iadd_int ⟨.int _,H,I.tok _,⟨_,rfl⟩,q⟩
end
section
variable {X:Cx}{pos:Pos}
noncomputable def ur (c:TT) (tb:TS):TS:=fun D σ H=>∃ W:Nat->St->Hp->Prop,(∃ m,W m σ H)/\∀ m σ H,W m σ H ->
 c σ H fun b H1=>if b=true then ∃ N:St->Hp->Prop,(∀ σ' H',N σ' H'->∃ m',m'<m/\W m' σ' H')/\tb { D with nx:=N,ct:=N,bk:=D.nx } σ H1 else D.nx σ H1
theorem og {c:Expr}{body:List Stmt}{tc:TT}{tb:TS} (hp:PassesOwn (model X.prog X.w) X.A X.env X.xe) (hc:PT X c tc) (hb:mf X body tb):PS X (.While c body [] pos) (ur tc tb):=by
 intro pins s σ H D I h;obtain⟨W,⟨m0,w0⟩,turn⟩:=h;refine wpAny_While (codeAny_whileLoop (fun n s'=>∃ σ' H',Inv X pins σ' H' s'/\W n σ' H') ?_ m0 ⟨σ,H,I,w0⟩);rintro n s1 ⟨σ1,H1,I1,w1⟩;refine wpAny_passesOwn hp (bA (hc pins s1 σ1 H1 _ I1 (turn n σ1 H1 w1)) fun b s2 ⟨H2,I2,q2⟩=>?_)
 cases b with
 | true =>
  obtain⟨N,hN,q2⟩:=q2;rw[if_pos rfl];refine wpAny_passesOwn hp (bA (hb pins s2 σ1 H2 _ I2 q2) fun f s3 q3=>?_)
  cases f with
  | next =>
   obtain⟨σ3,H3,I3,n3⟩:=q3;obtain⟨m',hm,w3⟩:=hN σ3 H3 n3;exact⟨m',hm,σ3,H3,I3,w3⟩
  | cont =>
   obtain⟨σ3,H3,I3,n3⟩:=q3;obtain⟨m',hm,w3⟩:=hN σ3 H3 n3;exact⟨m',hm,σ3,H3,I3,w3⟩
  | brk=>exact q3
  | ret v=>exact q3
 | false =>
  rw[if_neg Bool.false_ne_true];exact wpAny_execs_nil ⟨σ1,H2,I2,q2⟩
end
structure It where
 go:Nat->Hp->Prop
 yld:Nat->Hp->V->Hp->Prop
 stop:Nat->Hp->Prop
noncomputable def kC (X:Cx) (pins:List (Addr×Obj)) (H:Hp) (b:Addr):Prop :=
 H b=none/\b≠X.env.locals/\b∉X.fs/\(b∈X.ex\/X.s₀.heap.objs.size<=b)/\(∀ x c,X.env.cells.lookup x=some c->c≠b)/\∀ p∈X.pn++pins,p.1≠b
theorem Inv.qR {X:Cx}{pins:List (Addr×Obj)}{σ:St}{H H':Hp}{s:Shared}{b:Addr} (I:Inv X pins σ H s) (hb:s.heap.objs.size<=b) (hn:H' b=none):kC X pins H' b:=by
 refine⟨hn,Nat.ne_of_gt (Nat.lt_of_lt_of_le I.lt hb),I.FU hb,.inr (Nat.le_trans I.sz hb),fun x c e z=>?_,fun p hp z=>?_⟩
 ·obtain⟨v,q⟩:=I.cell x c e
  exact absurd (Nat.lt_of_lt_of_le q.lt (by rw[z];exact hb)) (Nat.lt_irrefl _)
 ·exact absurd (Nat.lt_of_lt_of_le (Heap.lt_size (I.pin p hp).1) (by rw[z];exact hb)) (Nat.lt_irrefl _)
structure Turn (P:Program) (w:World) (K:PySem.W.Frag) (tg:Expr) (J:It) (fp:List Addr) (it:Addr) (tn:Nat->Heap->Prop):Prop where
 mem:it∈fp
 obj:∀ i h,tn i h->∀ b∈fp,∃ o,h.get? b=some o/\∀ v,o.data≠.cell v
 keep:∀ i h h',tn i h->(∀ b∈fp,∀ o,h.get? b=some o->h'.get? b=some o)->tn i h'
 item:∀ (X:Cx),X.prog=P->X.w=w->X.K=K->X.calm=true->∀ (i:Nat) (pins:List (Addr×Obj)) (s:Shared) (σ:St) (H:Hp) (E:Value->Shared->Prop),Inv X pins σ H s->(∀ b∈fp,kC X pins H b)->tn i s.heap->J.go i H ->
  wpAny (model P w) X.A (pyNext (.ref it)) (fun r s1=>∃ u,r=some u /\
   wpAny (model P w) X.A (letOwnedTupleGo tg (.ref it) u) (fun _ s2=>∃ x H',Inv X pins σ H' s2/\RelV x u/\J.yld i H x H'/\tn (i+1) s2.heap/\∀ b∈fp,H' b=none) E s1) E s
 done:∀ (X:Cx),X.prog=P->X.w=w->X.K=K->X.calm=true->∀ (i:Nat) (pins:List (Addr×Obj)) (s:Shared) (σ:St) (H:Hp) (E:Value->Shared->Prop),Inv X pins σ H s->(∀ b∈fp,kC X pins H b)->tn i s.heap->J.stop i H ->
  wpAny (model P w) X.A (pyNext (.ref it)) (fun r s1=>r=none/\Inv X pins σ H s1) E s
 self:∀ (A:Around) (i:Nat) (s:Shared) (Q:Value->Shared->Prop) (E:Value->Shared->Prop),tn i s.heap->Q (.ref it) s->wpAny (model P w) A (pyIter (.ref it)) Q E s
noncomputable abbrev TI:=St->Hp->(It->Hp->Prop)->Prop
noncomputable def FA (X:Cx) (pins:List (Addr×Obj)) (σ:St) (tg:Expr) (R:It->Hp->Prop) (itv:Value) (s2:Shared):Prop :=
 ∃ (it:Addr) (fp:List Addr) (tn:Nat->Heap->Prop) (J:It) (H':Hp),itv=.ref it/\Inv X pins σ H' s2/\Turn X.prog X.w X.K tg J fp it tn/\tn 0 s2.heap/\(∀ b∈fp,kC X pins H' b)/\R J H'
noncomputable def PI (X:Cx) (tg iter:Expr) (wi:TI):Prop :=
 ∀ (pins:List (Addr×Obj)) (s:Shared) (σ:St) (H:Hp) (R:It->Hp->Prop),Inv X pins σ H s->wi σ H R ->
  wpAny (model X.prog X.w) X.A (eval iter X.env) (fun v s1=>wpAny (model X.prog X.w) X.A (pyIter v) (FA X pins σ tg R) X.xe s1) X.xe s
theorem lJ {M:Model}{A:Around}{E:Value->Shared->Prop}{s:Shared}{tg:Expr}{it:Addr}{u:Value}{o:Obj}{n:String}{vs:Array Value}{Q:Unit->Shared->Prop} (ho:s.heap.get? it=some o) (hc:o.cls=.type n) (hd:o.data=.fields vs)
  (hn:["enumerate","zip","dict_itemiterator","dict_reverseitemiterator","odict_iterator","itertools.zip_longest","itertools.pairwise"].contains n=false) (hQ:Q () s):wpAny M A (letOwnedTupleGo tg (.ref it) u) Q E s:=by
 unfold letOwnedTupleGo
 cases tg <;> first
  | exact wpAny_pure hQ
  | (cases u <;> first
    | exact wpAny_pure hQ
    | (refine wpAny_bind (wpAny_load ho ?_)
       rw[hc,hd];show wpAny M A (if (["enumerate","zip","dict_itemiterator","dict_reverseitemiterator","odict_iterator","itertools.zip_longest","itertools.pairwise"].contains n && vs[0]? == some (rawInt _))=true then _ else _) Q E s;rw[if_neg (by intro h;rw[hn,Bool.false_and] at h;cases h)];exact wpAny_pure hQ))
noncomputable def EF (K:PySem.W.Frag) (a:Addr):It :=
 ⟨fun i H=>∃ xs x,aP K H a xs/\xs[i]?=some x,fun i H x H'=>H'=H/\∀ xs,aP K H a xs->xs[i]?=some x,fun i H=>∃ xs,aP K H a xs/\xs.length<=i⟩
noncomputable def Fd (K:PySem.W.Frag) (a:Addr):It :=
 ⟨fun i H=>∃ xs x,cE K H a xs/\xs[i]?=some x,fun i H x H'=>H'=H/\∀ xs,cE K H a xs->xs[i]?=some x,fun i H=>∃ xs,cE K H a xs/\xs.length<=i⟩
noncomputable def DP (lo:Int) (n:Nat):It:=⟨fun i _=>i<n,fun i H x H'=>H'=H/\x=.int (lo+i),fun i _=>n<=i⟩
theorem tL {P:Program}{w:World}{K:PySem.W.Frag}{tg:Expr} (a it:Addr):Turn P w K tg (EF K a) [it] it (fun i h=>h.IsListIter it a i) where
 mem:=by simp
 obj:=fun i h st b hb=>by
  have e:b=it:=by simpa using hb
  subst e;obtain⟨o,e,c,d⟩:=st;exact⟨o,e,fun v z=>by rw[d] at z;cases z⟩
 keep:=fun i h h' st k=>st.at fun o e=>k it (by simp) o e
 item:=by
  intro X hP hw hK hc i pins s σ H E I hf st hg;subst hP hw hK;obtain⟨xs,x,hq,hx⟩:=hg;obtain⟨its,rv,p,hz⟩:=I.list hq;obtain⟨u,hu,ru⟩:=rv.get hx;obtain⟨f0,f1,f2,f3,f4,f5⟩:=hf it (by simp);refine wpAny_pyNext_list_item st p.isList (x:=u) (by simpa using hu) fun h' st' sb=>?_;have I1:Inv X pins σ H { s with heap:=h' }:=I.turned (t':=s.toks) (fun b o hb e=>(sb.2 b hb).trans e) f0 f1 f3 f4 f5;obtain⟨o,e,c,d⟩:=id st';exact⟨u,rfl,lJ (s:={ s with heap:=h' }) e c d (by decide) ⟨x,H,I1,ru,⟨rfl,fun ys hy=>by rw[I.oB hy hq];exact hx⟩,st',fun b hb=>(hf b hb).1⟩⟩
 done:=by
  intro X hP hw hK hc i pins s σ H E I hf st hg;subst hP hw hK;obtain⟨xs,hq,hx⟩:=hg;obtain⟨its,rv,p,hz⟩:=I.list hq;obtain⟨f0,f1,f2,f3,f4,f5⟩:=hf it (by simp);have hl:=rv.length;exact wpAny_pyNext_list_end (I.ok.hd hc) st p.isList (by simp;omega) fun h' eb=>⟨rfl,I.turned (t':=s.toks) (fun b o hb e=>eb b o hb e) f0 f1 f3 f4 f5⟩
 self:=fun _ _ _ _ _ st h=>wpAny_pyIter_listiter st h
theorem qS {P:Program}{w:World}{K:PySem.W.Frag}{tg:Expr} (a it:Addr):Turn P w K tg (Fd K a) [it] it (fun i h=>h.IsTupleIter it a i) where
 mem:=by simp
 obj:=fun i h st b hb=>by
  have e:b=it:=by simpa using hb
  subst e;obtain⟨o,e,c,d⟩:=st;exact⟨o,e,fun v z=>by rw[d] at z;cases z⟩
 keep:=fun i h h' st k=>st.at fun o e=>k it (by simp) o e
 item:=by
  intro X hP hw hK hc i pins s σ H E I hf st hg;subst hP hw hK;obtain⟨xs,x,hq,hx⟩:=hg;obtain⟨its,rv,p,hz⟩:=I.tuple hq;obtain⟨u,hu,ru⟩:=rv.get hx;obtain⟨f0,f1,f2,f3,f4,f5⟩:=hf it (by simp);refine wpAny_pyNext_tuple_item st (show s.heap.IsTuple a its.toArray from p) (x:=u) (by simpa using hu) fun h' st' sb=>?_;have I1:Inv X pins σ H { s with heap:=h' }:=I.turned (t':=s.toks) (fun b o hb e=>(sb.2 b hb).trans e) f0 f1 f3 f4 f5;obtain⟨o,e,c,d⟩:=id st';exact⟨u,rfl,lJ (s:={ s with heap:=h' }) e c d (by decide) ⟨x,H,I1,ru,⟨rfl,fun ys hy=>by rw[I.tY hy hq];exact hx⟩,st',fun b hb=>(hf b hb).1⟩⟩
 done:=by
  intro X hP hw hK hc i pins s σ H E I hf st hg;subst hP hw hK;obtain⟨xs,hq,hx⟩:=hg;obtain⟨its,rv,p,hz⟩:=I.tuple hq;obtain⟨f0,f1,f2,f3,f4,f5⟩:=hf it (by simp);have hl:=rv.length;exact wpAny_pyNext_tuple_end (I.ok.hd hc) st (show s.heap.IsTuple a its.toArray from p) (by simp;omega) fun h' eb=>⟨rfl,I.turned (t':=s.toks) (fun b o hb e=>eb b o hb e) f0 f1 f3 f4 f5⟩
 self:=fun _ _ _ _ _ st h=>wpAny_pyIter_tupleiter st h
theorem pS {P:Program}{w:World}{K:PySem.W.Frag}{tg:Expr} (it:Addr) (lo:Int) (n:Nat):Turn P w K tg (DP lo n) [it] it (fun i h=>IsRangeIter h it (lo+(i:Nat) * 1) ((n:Int) - (i:Nat)) 1) where
 mem:=by simp
 obj:=fun i h st b hb=>by
  have e:b=it:=by simpa using hb
  subst e;exact⟨_,st,fun v z=>by
   have z':Data.fields _=Data.cell v:=z
   cases z'⟩
 keep:=fun i h h' st k=>k it (by simp) _ st
 item:=by
  intro X hP hw hK hc i pins s σ H E I hf st hg;subst hP hw hK;obtain⟨f0,f1,f2,f3,f4,f5⟩:=hf it (by simp);have W:=Walks.range (prog:=X.prog) (w:=X.w) (I.ok.hd hc) it lo 1 n;refine W.item i s _ _ hg st fun v h' tk hv st' kk=>?_;obtain⟨t,rfl⟩:=hv;have I1:Inv X pins σ H { s with heap:=h',toks:=tk }:=I.turned (fun b o hb e=>kk b o (by simpa using hb) e) f0 f1 f3 f4 f5;refine⟨_,rfl,lJ (s:={ s with heap:=h',toks:=tk }) (n:="range_iterator") st' rfl rfl (by decide) ⟨.int (lo+i),H,I1,⟨t,?_⟩,⟨rfl,rfl⟩,st',fun b hb=>(hf b hb).1⟩⟩;rw[Int.mul_one]
 done:=by
  intro X hP hw hK hc i pins s σ H E I hf st hg;subst hP hw hK;obtain⟨f0,f1,f2,f3,f4,f5⟩:=hf it (by simp);exact wpAny_pyNext_range_end (I.ok.hd hc) st (by have:n<=i:=hg;omega) fun h' eb=>⟨rfl,I.turned (t':=s.toks) (fun b o hb e=>eb b o hb e) f0 f1 f3 f4 f5⟩
 self:=fun _ _ _ _ _ st h=>wpAny_pyIter_rangeiter st h
end L2
namespace L2
open PySem PySem.Spec PyProof.Rows
section
variable {X:Cx}{tg:Expr}
noncomputable def rZ (K:PySem.W.Frag) (tl:TE):TI:=fun σ H R=>tl σ H fun x H1=>∃ a,x=.ref a/\(∃ xs,aP K H1 a xs)/\R (EF K a) H1
noncomputable def Ap (K:PySem.W.Frag) (tl:TE):TI:=fun σ H R=>tl σ H fun x H1=>∃ a,x=.ref a/\(∃ xs,cE K H1 a xs)/\R (Fd K a) H1
theorem xk {l:Expr}{tl:TE} (hl:PE X l tl):PI X tg l (rZ X.K tl):=by
 intro pins s σ H R I h;refine bA (hl pins s σ H _ I h) fun v s1 ⟨x,H1,I1,r1,q1⟩=>?_;obtain⟨a,e,⟨xs,hq⟩,q⟩:=q1;subst e
 cases r1;obtain⟨its,rv,p,hz⟩:=I1.list hq;refine wpAny_pyIter_list p.isList ?_;refine⟨s1.heap.objs.size,[s1.heap.objs.size],_,_,H1,rfl,I1.kept (t':=s1.toks) fun b o e=>Heap.get?_push_of_some _ e,tL a _,⟨_,Heap.get?_push_size _ rfl,rfl,rfl⟩,fun b hb=>?_,q⟩;have e:b=s1.heap.objs.size:=by simpa using hb
 subst e;exact I1.qR (Nat.le_refl _) (I1.hok.fresh (Nat.le_refl _))
theorem Bw {l:Expr}{tl:TE} (hl:PE X l tl):PI X tg l (Ap X.K tl):=by
 intro pins s σ H R I h;refine bA (hl pins s σ H _ I h) fun v s1 ⟨x,H1,I1,r1,q1⟩=>?_;obtain⟨a,e,⟨xs,hq⟩,q⟩:=q1;subst e
 cases r1;obtain⟨its,rv,p,hz⟩:=I1.tuple hq;refine wpAny_pyIter_tuple (show s1.heap.IsTuple a its.toArray from p) ?_;refine⟨s1.heap.objs.size,[s1.heap.objs.size],_,_,H1,rfl,I1.kept (t':=s1.toks) fun b o e=>Heap.get?_push_of_some _ e,qS a _,⟨_,Heap.get?_push_size _ rfl,rfl,rfl⟩,fun b hb=>?_,q⟩;have e:b=s1.heap.objs.size:=by simpa using hb
 subst e;exact I1.qR (Nat.le_refl _) (I1.hok.fresh (Nat.le_refl _))
theorem vR {pins:List (Addr×Obj)}{σ:St}{H:Hp}{s:Shared}{R:It->Hp->Prop}{E:Value->Shared->Prop}{lo hi:Int}{t u v:Tok}{tk:Nat} (I:Inv X pins σ H s) (h1:-(2 ^ 62)<=lo) (h2:lo<2 ^ 62) (h3:-(2 ^ 62)<=hi) (h4:hi<2 ^ 62)
  (q:R (DP lo (hi - lo).toNat) H):wpAny (model X.prog X.w) X.A (pyIter (.ref s.heap.objs.size)) (FA X pins σ tg R) E { s with heap:=s.heap.push { cls:=.type "range",data:=.fields #[.int lo t,.int hi u,.int 1 v] },toks:=tk }:=by
 refine wpAny_pyIter_range (IsRange.new ..) (small_one h1 h2 h3 h4) ?_;have I1:Inv X pins σ H { s with heap:=s.heap.push { cls:=.type "range",data:=.fields #[.int lo t,.int hi u,.int 1 v] },toks:=tk }:=I.kept fun b o e=>Heap.get?_push_of_some _ e;refine⟨(s.heap.push { cls:=.type "range",data:=.fields #[.int lo t,.int hi u,.int 1 v] }).objs.size,[(s.heap.push { cls:=.type "range",data:=.fields #[.int lo t,.int hi u,.int 1 v] }).objs.size],_,_,H,rfl,
  I1.kept (t':=tk) fun b o e=>Heap.get?_push_of_some _ e,pS _ lo (hi - lo).toNat,?_,fun b hb=>?_,q⟩
 ·have e1:lo+((0:Nat):Int) * 1=lo:=by simp
  have e2:(((hi - lo).toNat:Nat):Int) - ((0:Nat):Int)=Builtin.Range.rangeSize lo hi 1:=by rw[rangeSize_one];split <;> omega
  show IsRangeIter _ _ (lo+((0:Nat):Int) * 1) ((((hi - lo).toNat:Nat):Int) - ((0:Nat):Int)) 1;rw[e1,e2];exact Heap.get?_push_size _ rfl
 ·have e:b=(s.heap.push { cls:=.type "range",data:=.fields #[.int lo t,.int hi u,.int 1 v] }).objs.size:=by simpa using hb
  subst e;exact I1.qR (Nat.le_refl _) (I1.hok.fresh (Nat.le_refl _))
noncomputable def uD (ta:TA):TI:=fun σ H R=>ta σ H fun vs H1=>∃ j:Int,vs=[.int j]/\-(2 ^ 62)<=j/\j<2 ^ 62/\R (DP 0 j.toNat) H1
theorem ip {a:Expr}{ta:TA}{p pos:Pos} (hg:Gl X "range") (hm:X.mg "range"=none) (ha:PA X [a] ta) (hs:starEach [a] X.env=[(false,eval a X.env)]:=by rfl):PI X tg (.Call (.Name "range" p) [a] [] pos) (uD ta):=by
 intro pins s σ H R I h;refine Call_ (hX I hg hm boot_range (PyProof.Rows.callWith_type1 (bA (ha pos pins s σ H _ I h) fun us s1 ⟨vs,H1,I1,r1,q1⟩=>?_) hs rfl));obtain⟨j,e,q1,q2,q⟩:=q1;subst e
 cases r1 with
 | cons r rr =>
  cases rr;obtain⟨t,rfl⟩:=r;exact call_range_1 (vR I1 (by omega) (by omega) q1 q2 (by simpa using q))
noncomputable def D1 (wi:TI) (g:TG) (tb:TS):TS:=fun D σ H=>wi σ H fun J H1=>∃ W:Nat->Nat->St->Hp->Prop,(∃ m,W 0 m σ H1)/\∀ i m σ H,W i m σ H ->
 (J.stop i H/\D.nx σ H)\/(J.go i H/\∃ N:St->Hp->Prop,(∀ σ' H',N σ' H'->∃ m',m'<m/\W (i+1) m' σ' H')/\∀ x H',J.yld i H x H'->g x σ H' fun σ2 H2=>tb { D with nx:=N,ct:=N,bk:=D.nx } σ2 H2)
noncomputable def dG (fp:List Addr) (h:Heap):List (Addr×Obj):=fp.filterMap fun b=>(h.get? b).map fun o=>(b,o)
theorem dc {fp:List Addr}{h:Heap}{b:Addr}{o:Obj} (hb:b∈fp) (e:h.get? b=some o):(b,o)∈dG fp h:=List.mem_filterMap.mpr ⟨b,hb,by rw[e];rfl⟩
theorem kO {fp:List Addr}{h:Heap}{p:Addr×Obj} (hp:p∈dG fp h):p.1∈fp/\h.get? p.1=some p.2:=by
 obtain⟨b,hb,e⟩:=List.mem_filterMap.mp hp
 cases q:h.get? b with
 | none=>rw[q] at e;cases e
 | some o =>
  rw[q] at e;have e':(b,o)=p:=Option.some.inj e;subst e';exact⟨hb,q⟩
theorem Inv.pinned {pins:List (Addr×Obj)}{σ:St}{H:Hp}{s:Shared}{fp:List Addr} (I:Inv X pins σ H s) (hf:∀ b∈fp,kC X pins H b) (ho:∀ b∈fp,∃ o,s.heap.get? b=some o/\∀ v,o.data≠.cell v):Inv X (pins++dG fp s.heap) σ H s :=
 I.mE fun p hp=>(List.mem_append.mp hp).elim (fun z=>I.pin p (List.mem_append_right _ z)) fun z=>by
  obtain⟨hb,e⟩:=kO z;obtain⟨f0,f1,f2,_⟩:=hf p.1 hb;obtain⟨o,e',d⟩:=ho p.1 hb;rw[e] at e';cases e';exact⟨e,f0,f1,f2,d⟩
theorem Inv.j_ {pins pl:List (Addr×Obj)}{σ:St}{H:Hp}{s:Shared} (I:Inv X (pins++pl) σ H s):Inv X pins σ H s:=I.mE fun p hp=>I.pin p (List.mem_append_right _ (List.mem_append_left _ hp))
theorem dv {iter:Expr}{body:List Stmt}{wi:TI}{g:TG}{tb:TS}{pos:Pos} (hp:PassesOwn (model X.prog X.w) X.A X.env X.xe) (hc:X.calm=true) (hi:PI X tg iter wi) (hg:PG X tg g) (hb:mf X body tb)
  (hs:∀ x,foldedSetIterable iter X.env x=pure x:=by intro _;rfl):PS X (.For tg iter body [] pos) (D1 wi g tb):=by
 intro pins s σ H D I h;refine wpAny_For (bA (hi pins s σ H _ I h) fun v s1 h1=>bA h1 fun itv s2 h2=>?_) hs;obtain⟨it,fp,tn,J,H2,e,I2,T,st2,f2,W,⟨m0,w0⟩,turn⟩:=h2;subst e;have stat:∀ {H':Hp},(∀ b∈fp,H' b=none)->∀ b∈fp,kC X pins H' b:=fun hn b hb=>⟨hn b hb,(f2 b hb).2⟩;refine codeAny_forLoop_any (fun n s'=>∃ i σ' H',Inv X pins σ' H' s'/\tn i s'.heap/\(∀ b∈fp,H' b=none)/\W i n σ' H') ?_ m0 ⟨0,σ,H2,I2,st2,fun b hb=>(f2 b hb).1,w0⟩;rintro n s3 ⟨i,σ3,H3,I3,st3,fr3,w3⟩;rcases turn i n σ3 H3 w3 with ⟨stop,qn⟩|⟨go,N,hN,step⟩
 ·refine wpAny_passesOwn hp (bA (T.done X rfl rfl rfl hc i pins s3 σ3 H3 X.xe I3 (stat fr3) st3 stop) fun r s4 ⟨hr,I4⟩=>?_)
  subst hr;exact wpAny_execs_nil ⟨σ3,H3,I4,qn⟩
 ·refine wpAny_passesOwn hp (bA (T.item X rfl rfl rfl hc i pins s3 σ3 H3 X.xe I3 (stat fr3) st3 go) fun r s4 ⟨u,hr,h4⟩=>?_)
  subst hr;refine wpAny_passesOwn hp (bA h4 fun _ s5 ⟨x,H5,I5,r5,y5,st5,fr5⟩=>?_);have I5':=I5.pinned (stat fr5) (T.obj _ _ st5);refine wpAny_passesOwn hp (bA (hg _ s5 σ3 H5 x u _ I5' r5 (step x H5 y5)) fun _ s6 ⟨σ6,H6,I6,q6⟩=>?_);refine wpAny_passesOwn hp (bA (hb _ s6 σ6 H6 _ I6 q6) fun f s7 q7=>?_);have again:∀ {σ7:St}{H7:Hp},Inv X (pins++dG fp s5.heap) σ7 H7 s7->N σ7 H7->∃ m,m<n/\∃ i σ' H',Inv X pins σ' H' s7/\tn i s7.heap/\(∀ b∈fp,H' b=none)/\W i m σ' H':=fun {σ7 H7} I7 n7=>by
   obtain⟨m',hm,w7⟩:=hN σ7 H7 n7;refine⟨m',hm,i+1,σ7,H7,I7.j_,T.keep _ _ _ st5 fun b hb o e=>(I7.pin (b,o) (List.mem_append_right _ (List.mem_append_right _ (dc hb e)))).1,fun b hb=>?_,w7⟩;obtain⟨o,e,d⟩:=T.obj _ _ st5 b hb;exact (I7.pin (b,o) (List.mem_append_right _ (List.mem_append_right _ (dc hb e)))).2.1
  cases f with
  | next=>obtain⟨σ7,H7,I7,n7⟩:=q7;exact again I7 n7
  | cont=>obtain⟨σ7,H7,I7,n7⟩:=q7;exact again I7 n7
  | brk=>obtain⟨σ7,H7,I7,q7⟩:=q7;exact⟨σ7,H7,I7.j_,q7⟩
  | ret v=>obtain⟨x7,σ7,H7,I7,r7,q7⟩:=q7;exact⟨x7,σ7,H7,I7.j_,r7,q7⟩
end
end L2
namespace L2
open PySem PySem.Spec PyProof.Rows
noncomputable abbrev R2:=V->V->Hp->VK->Prop
noncomputable def gu (X:Cx) (f:Value->Value->Sem Value) (r:R2):Prop :=
 ∀ (pins:List (Addr×Obj)) (s:Shared) (σ:St) (H:Hp) (x y:V) (v u:Value) (Q:VK),Inv X pins σ H s->RelV x v->RelV y u->r x y H Q ->
  wpAny (model X.prog X.w) X.A (f v u) (EP X pins σ Q) X.xe s
noncomputable def GH (X:Cx) (f:Value->Sem Value) (r:V->Hp->VK->Prop):Prop :=
 ∀ (pins:List (Addr×Obj)) (s:Shared) (σ:St) (H:Hp) (x:V) (v:Value) (Q:VK),Inv X pins σ H s->RelV x v->r x H Q ->
  wpAny (model X.prog X.w) X.A (f v) (EP X pins σ Q) X.xe s
noncomputable def cv (X:Cx) (f:Value) (r:List V->Hp->VK->Prop):Prop :=
 ∀ (pins:List (Addr×Obj)) (s:Shared) (σ:St) (H:Hp) (xs:List V) (us:List Value) (Q:VK),Inv X pins σ H s->Vals xs us->r xs H Q ->
  wpAny (model X.prog X.w) X.A (call f us) (EP X pins σ Q) X.xe s
noncomputable def Cp (r:R2) (ta tb:TE):TE:=fun σ H Q=>ta σ H fun x H1=>tb σ H1 fun y H2=>r x y H2 Q
noncomputable def Fy (r:V->Hp->VK->Prop) (ta:TE):TE:=fun σ H Q=>ta σ H fun x H1=>r x H1 Q
noncomputable def rI (C:Int->Int->Prop) (g:Int->Int->V):R2:=fun x y H Q=>∃ i j,x=.int i/\y=.int j/\C i j/\Q (g i j) H
noncomputable def xf (g:Int->Int->V):R2:=fun x y H Q=>∃ i j,x=.int i/\y=.int j/\Q (g i j) H
noncomputable def rU (g:Int->V):V->Hp->VK->Prop:=fun x H Q=>∃ i,x=.int i/\Q (g i) H
section
variable {X:Cx}{a b c:Expr}{ta tb tc:TE}{pos:Pos}
theorem zO (ha:PE X a ta) (hb:PE X b tb) {pins:List (Addr×Obj)}{s:Shared}{σ:St}{H:Hp}{R:V->V->Hp->Prop} (I:Inv X pins σ H s)
  (h:ta σ H fun x H1=>tb σ H1 fun y H2=>R x y H2) {Q:Value->Shared->Prop}{f:Value->Value->Sem Value}
  (hf:∀ v u s2 x y H2,Inv X pins σ H2 s2->RelV x v->RelV y u->R x y H2->wpAny (model X.prog X.w) X.A (f v u) Q X.xe s2) :
  wpAny (model X.prog X.w) X.A (eval a X.env) (fun v s₁=>wpAny (model X.prog X.w) X.A (eval b X.env) (fun u s₂=>wpAny (model X.prog X.w) X.A (f v u) Q X.xe s₂) X.xe s₁) X.xe s:=by
 refine bA (ha pins s σ H _ I h) fun v s1 ⟨x,H1,I1,r1,q1⟩=>?_;refine bA (hb pins s1 σ H1 _ I1 q1) fun u s2 ⟨y,H2,I2,r2,q2⟩=>?_;exact hf v u s2 x y H2 I2 r1 r2 q2
theorem aC {op:Operator}{r:R2} (ho:gu X (binaryOp op) r) (ha:PE X a ta) (hb:PE X b tb):PE X (.BinOp a op b pos) (Cp r ta tb):=by
 intro pins s σ H Q I h;exact wpAny_BinOp (zO ha hb I h fun v u s2 x y H2 I2 rx ry q=>ho pins s2 σ H2 x y v u Q I2 rx ry q)
theorem fH {op:UnaryOp}{r:V->Hp->VK->Prop} (ho:GH X (unaryOp op) r) (ha:PE X a ta):PE X (.UnaryOp op a pos) (Fy r ta):=by
 intro pins s σ H Q I h;exact UnaryOp_ (bA (ha pins s σ H _ I h) fun v s1 ⟨x,H1,I1,r1,q1⟩=>ho pins s1 σ H1 x v Q I1 r1 q1)
theorem Fc {f:Value->Value->Sem Value}{C:Int->Int->Prop}{g:Int->Int->Int}
  (rule:∀ (i j:Int) (t u:Tok) (s:Shared) (Q:Value->Shared->Prop) (E:Value->Shared->Prop),C i j->Q (.int (g i j) s.toks) { s with toks:=s.toks+1 }->wpAny (model X.prog X.w) X.A (f (.int i t) (.int j u)) Q E s) :
  gu X f (rI C fun i j=>.int (g i j)):=by
 intro pins s σ H x y v u Q I rx ry h;obtain⟨i,j,rfl,rfl,hc,q⟩:=h;obtain⟨t,rfl⟩:=rx;obtain⟨t',rfl⟩:=ry;exact rule i j t t' s _ _ hc ⟨.int (g i j),H,I.tok _,⟨_,rfl⟩,q⟩
theorem EE {f:Value->Value->Sem Value}{g:Int->Int->Int}
  (rule:∀ (i j:Int) (t u:Tok) (s:Shared) (Q:Value->Shared->Prop) (E:Value->Shared->Prop),Q (.int (g i j) s.toks) { s with toks:=s.toks+1 }->wpAny (model X.prog X.w) X.A (f (.int i t) (.int j u)) Q E s) :
  gu X f (xf fun i j=>.int (g i j)):=by
 intro pins s σ H x y v u Q I rx ry h;obtain⟨i,j,rfl,rfl,q⟩:=h;obtain⟨t,rfl⟩:=rx;obtain⟨t',rfl⟩:=ry;exact rule i j t t' s _ _ ⟨.int (g i j),H,I.tok _,⟨_,rfl⟩,q⟩
theorem yC {f:Value->Value->Sem Value}{g:Int->Int->Bool}
  (rule:∀ (i j:Int) (t u:Tok) (s:Shared) (Q:Value->Shared->Prop) (E:Value->Shared->Prop),Q (.bool (g i j)) s->wpAny (model X.prog X.w) X.A (f (.int i t) (.int j u)) Q E s) :
  gu X f (xf fun i j=>.bl (g i j)):=by
 intro pins s σ H x y v u Q I rx ry h;obtain⟨i,j,rfl,rfl,q⟩:=h;obtain⟨t,rfl⟩:=rx;obtain⟨t',rfl⟩:=ry;exact rule i j t t' s _ _ ⟨.bl (g i j),H,I,rfl,q⟩
noncomputable def D_ (i j:Int):Prop:=0<j/\j<1073741824
noncomputable def ER (i j:Int):Prop:=j≠0/\j.natAbs<1073741824
noncomputable def DU (i j:Int):Prop:=0<=j/\j<=1000000/\i.natAbs<2 ^ 64
noncomputable def xE (i j:Int):Prop:=(-(2 ^ 64)<i/\i<2 ^ 64)\/(-(2 ^ 64)<j/\j<2 ^ 64)
theorem xE.ok {i j:Int} (h:xE i j):IntMulOk i j:=by
 rcases h with ⟨h1,h2⟩|⟨h1,h2⟩
 ·exact .of_left (intBits_le_64 h1 h2)
 ·exact .of_right (intBits_le_64 h1 h2)
theorem eC:gu X (binaryOp .Add) (xf fun i j=>.int (i+j)):=EE fun _ _ _ _ _ _ _ q=>add_int q
theorem ff:gu X (binaryOp .Sub) (xf fun i j=>.int (i - j)):=EE fun _ _ _ _ _ _ _ q=>sub_int q
theorem ng:gu X (binaryOp .Mult) (rI xE fun i j=>.int (i * j)):=Fc fun _ _ _ _ _ _ _ hc q=>mul_int q hc.ok
theorem bW:gu X (binaryOp .FloorDiv) (rI D_ fun i j=>.int (i / j)):=Fc fun i j _ _ _ _ _ hc q=>by
 have h1:(0:Int)<j:=hc.1;have h2:j<1073741824:=hc.2;exact floordiv_int (by omega) (by rw[Int.fdiv_eq_ediv_of_nonneg i (by omega)];exact q) (.inl (PyProof.noPylong_small (by omega)))
theorem ba:gu X (binaryOp .Mod) (rI (fun _ j=>0<j) fun i j=>.int (i % j)):=Fc fun i j _ _ _ _ _ hc q=>by
 have h1:(0:Int)<j:=hc;exact mod_int' (by omega) (by rw[Int.fmod_eq_emod_of_nonneg i (by omega)];exact q)
theorem qT:gu X (binaryOp .Pow) (rI DU fun i j=>.int (i ^ j.toNat)):=Fc fun _ _ _ _ _ _ _ hc q=>pow_int_small hc.1 hc.2.1 hc.2.2 q
theorem Hv {f:Value->Sem Value}{g:Int->Int}
  (rule:∀ (i:Int) (t:Tok) (s:Shared) (Q:Value->Shared->Prop) (E:Value->Shared->Prop),Q (.int (g i) s.toks) { s with toks:=s.toks+1 }->wpAny (model X.prog X.w) X.A (f (.int i t)) Q E s) :
  GH X f (rU fun i=>.int (g i)):=by
 intro pins s σ H x v Q I rx h;obtain⟨i,rfl,q⟩:=h;obtain⟨t,rfl⟩:=rx;exact rule i t s _ _ ⟨.int (g i),H,I.tok _,⟨_,rfl⟩,q⟩
theorem dJ:GH X (unaryOp .USub) (rU fun i=>.int (-i)):=Hv fun _ _ _ _ _ q=>neg_int q
end
noncomputable def xO:V->V->Bool
 | .non,.non=>true|.non,.int _=>true|.int _,.non=>true|.non,.bl _=>true|.bl _,.non=>true|.non,.str _=>true|.str _,.non=>true
 | .int _,.int _=>true|.bl _,.bl _=>true|.str _,.str _=>true|.byt _,.byt _=>true
 | .int _,.str _=>true|.str _,.int _=>true|.bl _,.str _=>true|.str _,.bl _=>true
 | _,_=>false
noncomputable def FN:R2:=fun x y H Q=>xO x y=true/\Q (.bl (decide (x=y))) H
noncomputable def FW:R2:=fun x y H Q=>xO x y=true/\Q (.bl (!decide (x=y))) H
theorem rQ {i j:Int}:decide (V.int i=V.int j)=(i == j):=by
 rw[Bool.eq_iff_iff];simp
theorem uz {i j:Bool}:decide (V.bl i=V.bl j)=(i == j):=by
 rw[Bool.eq_iff_iff];simp
theorem rM {i j:Str}:decide (V.str i=V.str j)=(i == j):=by
 rw[Bool.eq_iff_iff];simp
theorem rn {i j:Array UInt8}:decide (V.byt i=V.byt j)=(i.toList == j.toList):=by
 rw[Bool.eq_iff_iff]
 cases i
 cases j;simp
section
variable {X:Cx}{a b c:Expr}{ta tb tc:TE}{pos:Pos}
theorem aU {pins:List (Addr×Obj)}{σ:St}{H:Hp}{s:Shared}{Q:VK}{k k':Bool} (I:Inv X pins σ H s) (q:Q (.bl k) H) (e:k=k'):EP X pins σ Q (.bool k') s:=by
 subst e;exact⟨.bl k,H,I,rfl,q⟩
theorem dg:gu X (compareOp .Eq) FN:=by
 intro pins s σ H x y v u Q I rx ry h;obtain⟨hs,q⟩:=h
 cases x with
 | non =>
  cases rx
  cases y with
  | non=>cases ry;exact PySem.EqNone.eq_none_none (aU I q (by simp))
  | bl j=>cases ry;exact PySem.EqNone.eq_none_bool (aU I q (by simp))
  | int j=>obtain⟨t',rfl⟩:=ry;exact PySem.EqNone.eq_none_int (aU I q (by simp))
  | str j=>obtain⟨t',rfl⟩:=ry;exact PySem.EqNone.eq_none_str (aU I q (by simp))
  | _=>exact absurd (show false=true from hs) Bool.false_ne_true
 | bl i =>
  cases rx
  cases y with
  | non=>cases ry;exact PySem.EqNone.eq_bool_none (aU I q (by simp))
  | bl j=>cases ry;exact eq_bool (aU I q uz)
  | str j=>obtain⟨t',rfl⟩:=ry;exact PySem.EqMixed.eq_bool_str (aU I q (by simp))
  | _=>exact absurd (show false=true from hs) Bool.false_ne_true
 | int i =>
  obtain⟨t,rfl⟩:=rx
  cases y with
  | non=>cases ry;exact PySem.EqNone.eq_int_none (aU I q (by simp))
  | int j=>obtain⟨t',rfl⟩:=ry;exact eq_int (aU I q rQ)
  | str j=>obtain⟨t',rfl⟩:=ry;exact PySem.EqMixed.eq_int_str (aU I q (by simp))
  | _=>exact absurd (show false=true from hs) Bool.false_ne_true
 | str i =>
  obtain⟨t,rfl⟩:=rx
  cases y with
  | non=>cases ry;exact PySem.EqNone.eq_str_none (aU I q (by simp))
  | bl j=>cases ry;exact PySem.EqMixed.eq_str_bool (aU I q (by simp))
  | int j=>obtain⟨t',rfl⟩:=ry;exact PySem.EqMixed.eq_str_int (aU I q (by simp))
  | str j=>obtain⟨t',rfl⟩:=ry;exact eq_str (aU I q rM)
  | _=>exact absurd (show false=true from hs) Bool.false_ne_true
 | byt i =>
  obtain⟨t,rfl⟩:=rx
  cases y with
  | byt j=>obtain⟨t',rfl⟩:=ry;exact PySem.W.eq_bytes (aU I q rn)
  | _=>exact absurd (show false=true from hs) Bool.false_ne_true
 | _=>cases y <;> exact absurd (show false=true from hs) Bool.false_ne_true
theorem dY:gu X (compareOp .NotEq) FW:=by
 intro pins s σ H x y v u Q I rx ry h;obtain⟨hs,q⟩:=h
 cases x with
 | non =>
  cases rx
  cases y with
  | non=>cases ry;exact PySem.EqNone.ne_none_none (aU I q (by simp))
  | bl j=>cases ry;exact PySem.EqNone.ne_none_bool (aU I q (by simp))
  | int j=>obtain⟨t',rfl⟩:=ry;exact PySem.EqNone.ne_none_int (aU I q (by simp))
  | str j=>obtain⟨t',rfl⟩:=ry;exact PySem.EqNone.ne_none_str (aU I q (by simp))
  | _=>exact absurd (show false=true from hs) Bool.false_ne_true
 | bl i =>
  cases rx
  cases y with
  | non=>cases ry;exact PySem.EqNone.ne_bool_none (aU I q (by simp))
  | bl j=>cases ry;exact ne_bool (aU I q (congrArg not uz))
  | str j=>obtain⟨t',rfl⟩:=ry;exact PySem.EqMixed.ne_bool_str (aU I q (by simp))
  | _=>exact absurd (show false=true from hs) Bool.false_ne_true
 | int i =>
  obtain⟨t,rfl⟩:=rx
  cases y with
  | non=>cases ry;exact PySem.EqNone.ne_int_none (aU I q (by simp))
  | int j=>obtain⟨t',rfl⟩:=ry;exact ne_int (aU I q (congrArg not rQ))
  | str j=>obtain⟨t',rfl⟩:=ry;exact PySem.EqMixed.ne_int_str (aU I q (by simp))
  | _=>exact absurd (show false=true from hs) Bool.false_ne_true
 | str i =>
  obtain⟨t,rfl⟩:=rx
  cases y with
  | non=>cases ry;exact PySem.EqNone.ne_str_none (aU I q (by simp))
  | bl j=>cases ry;exact PySem.EqMixed.ne_str_bool (aU I q (by simp))
  | int j=>obtain⟨t',rfl⟩:=ry;exact PySem.EqMixed.ne_str_int (aU I q (by simp))
  | str j=>obtain⟨t',rfl⟩:=ry;exact ne_str (aU I q (congrArg not rM))
  | _=>exact absurd (show false=true from hs) Bool.false_ne_true
 | byt i =>
  obtain⟨t,rfl⟩:=rx
  cases y with
  | byt j=>obtain⟨t',rfl⟩:=ry;exact PySem.W.ne_bytes (aU I q (congrArg not rn))
  | _=>exact absurd (show false=true from hs) Bool.false_ne_true
 | _=>cases y <;> exact absurd (show false=true from hs) Bool.false_ne_true
theorem oR:gu X (compareOp .Lt) (xf fun i j=>.bl (decide (i<j))):=yC fun _ _ _ _ _ _ _ q=>lt_int q
theorem EL:gu X (compareOp .LtE) (xf fun i j=>.bl (decide (i<=j))):=yC fun _ _ _ _ _ _ _ q=>le_int q
theorem zk:gu X (compareOp .Gt) (xf fun i j=>.bl (decide (j<i))):=yC fun _ _ _ _ _ _ _ q=>gt_int q
theorem yX:gu X (compareOp .GtE) (xf fun i j=>.bl (decide (j<=i))):=yC fun _ _ _ _ _ _ _ q=>ge_int q
theorem aH (b:Expr) {op:CmpOp} (h:op≠.In:=by decide) (h2:op≠.NotIn:=by decide):behindInMarks op b=false:=by
 have e1:(op == CmpOp.In)=false:=by cases op <;> first|rfl|exact absurd rfl h
 have e2:(op == CmpOp.NotIn)=false:=by cases op <;> first|rfl|exact absurd rfl h2
 cases b <;> simp[behindInMarks,e1,e2]
theorem fV {op:CmpOp}{r:R2} (ho:gu X (compareOp op) r) (ha:PE X a ta) (hb:PE X b tb) (hm:behindInMarks op b=false):PE X (.Compare a [op] [b] pos) (Cp r ta tb):=by
 intro pins s σ H Q I h;exact wpAny_Compare1 (zO ha hb I h fun v u s2 x y H2 I2 rx ry q=>ho pins s2 σ H2 x y v u Q I2 rx ry q) hm
noncomputable def uk (t:TE):TT:=fun σ H Q=>t σ H fun x H'=>∃ k,x=.bl k/\Q k H'
theorem aG {op:CmpOp}{r:R2} (ho:gu X (compareOp op) r) (ha:PE X a ta) (hb:PE X b tb) (hm:behindInMarks op b=false):PT X (.Compare a [op] [b] pos) (uk (Cp r ta tb)):=by
 intro pins s σ H Q I h;refine wpAny_isTrue_Compare1 (bA (ha pins s σ H _ I h) fun v s1 ⟨x,H1,I1,r1,q1⟩=>bA (hb pins s1 σ H1 _ I1 q1) fun u s2 ⟨y,H2,I2,r2,q2⟩ =>
  bA (ho pins s2 σ H2 x y v u _ I2 r1 r2 q2) fun c s3 ⟨z,H3,I3,r3,k,e,q3⟩=>?_) hm
 subst e
 cases r3;exact wpAny_truthy_bool ⟨H3,I3,q3⟩
noncomputable def vQ (r r':R2) (ta tb tc:TE):TE:=fun σ H Q=>ta σ H fun x H1=>tb σ H1 fun y H2=>r x y H2 fun z H3=>∃ k,z=.bl k /\
 (if k=true then tc σ H3 fun w' H4=>r' y w' H4 Q else Q (.bl false) H3)
theorem uB {op op':CmpOp}{r r':R2} (ho:gu X (compareOp op) r) (ho':gu X (compareOp op') r') (ha:PE X a ta) (hb:PE X b tb) (hc:PE X c tc)
  (hm:lastMarks [op,op'] [b,c]=false:=by with_unfolding_all rfl):PE X (.Compare a [op,op'] [b,c] pos) (vQ r r' ta tb tc):=by
 intro pins s σ H Q I h;refine Compare_chain (bA (ha pins s σ H _ I h) fun v s1 ⟨x,H1,I1,r1,q1⟩=>chain_link (bA (hb pins s1 σ H1 _ I1 q1) fun u s2 ⟨y,H2,I2,r2,q2⟩ =>
  bA (ho pins s2 σ H2 x y v u _ I2 r1 r2 q2) fun d s3 ⟨z,H3,I3,r3,k,e,q3⟩=>?_)) hm
 subst e
 cases r3;refine wpAny_truthy_bool ?_
 cases k with
 | false=>exact ite_ff ⟨.bl false,H3,I3,rfl,q3⟩
 | true=>exact ite_tt (chain_last (bA (hc pins s3 σ H3 _ I3 q3) fun w' s4 ⟨z',H4,I4,r4,q4⟩=>ho' pins s4 σ H4 y z' u w' Q I4 r2 r4 q4))
theorem nu:(sizeLine:Nat)<2 ^ 63:=by rw[sizeLine_eq];decide
theorem cK:gu X (binaryOp .Add) (fun x y H Q=>∃ i j,x=.str i/\y=.str j/\i.length+j.length<=sizeLine/\Q (.str (i++j)) H):=by
 intro pins s σ H x y v u Q I rx ry h;obtain⟨i,j,rfl,rfl,hz,q⟩:=h;obtain⟨t,rfl⟩:=rx;obtain⟨t',rfl⟩:=ry;exact add_str (fun t' tk=>⟨.str (i++j),H,I.tok _,⟨_,rfl⟩,q⟩) hz
theorem vals1 {x:V}{us:List Value} (r:Vals [x] us):∃ u,us=[u]/\RelV x u:=by
 cases r with
 | cons r1 r2=>cases r2;exact⟨_,rfl,r1⟩
theorem vals2 {x y:V}{us:List Value} (r:Vals [x,y] us):∃ u w',us=[u,w']/\RelV x u/\RelV y w':=by
 cases r with
 | cons r1 r2 =>
  cases r2 with
  | cons r3 r4=>cases r4;exact⟨_,_,rfl,r1,r3⟩
theorem kW (hc:X.calm=true):cv X (.builtin "max") (fun xs H Q=>∃ i j,xs=[.int i,.int j]/\Q (.int (if j > i then j else i)) H):=by
 intro pins s σ H xs us Q I r h;obtain⟨i,j,rfl,q⟩:=h;obtain⟨u,w',rfl,⟨t,rfl⟩,⟨t',rfl⟩⟩:=vals2 r;refine max_two_ints (I.ok.hd hc) fun h' tk k=>⟨_,H,I.kept k,?_,q⟩
 by_cases hj:j > i
 ·rw[if_pos hj,if_pos hj];exact⟨_,rfl⟩
 ·rw[if_neg hj,if_neg hj];exact⟨_,rfl⟩
theorem mB:cv X (.type "str") (fun xs H Q=>∃ i,xs=[.int i]/\i.natAbs.log2<1920/\Q (.str (toString i)) H):=by
 intro pins s σ H xs us Q I r h;obtain⟨i,rfl,hz,q⟩:=h;obtain⟨u,rfl,t,rfl⟩:=vals1 r;exact PySem.P.str_of_int hz ⟨.str _,H,I.tok _,⟨_,rfl⟩,q⟩
noncomputable def yG (K:PySem.W.Frag) (x:V) (H:Hp) (n:Nat):Prop :=
 match x with
 | .str y=>y.length<=sizeLine/\n=y.length
 | .byt y=>y.size<=sizeLine/\n=y.size
 | .ref p=>(∃ xs,aP K H p xs/\n=xs.length)\/∃ xs,cE K H p xs/\n=xs.length
 | _=>False
theorem n_:cv X (.builtin "len") (fun xs H Q=>∃ x n,xs=[x]/\yG X.K x H n/\Q (.int n) H):=by
 intro pins s σ H xs us Q I r h;obtain⟨x,n,rfl,e,q⟩:=h;obtain⟨u,rfl,rx⟩:=vals1 r;have hl:=nu;have hs:sizeLine=16777216:=sizeLine_eq
 cases x with
 | str y =>
  obtain⟨t,rfl⟩:=rx;obtain⟨hy,e'⟩:y.length<=sizeLine/\n=y.length:=e;subst e';exact len_str (by omega) ⟨.int _,H,I.tok _,⟨_,rfl⟩,q⟩
 | byt y =>
  obtain⟨t,rfl⟩:=rx;obtain⟨hy,e'⟩:y.size<=sizeLine/\n=y.size:=e;subst e';exact PySem.W.len_bytes (by omega) ⟨.int _,H,I.tok _,⟨_,rfl⟩,q⟩
 | ref p =>
  cases rx;have e':(∃ xs,aP X.K H p xs/\n=xs.length)\/∃ xs,cE X.K H p xs/\n=xs.length:=e;rcases e' with ⟨xs,hx,e'⟩|⟨xs,hx,e'⟩
  ·subst e'
   obtain⟨its,r',pl,hz⟩:=I.list hx;have hlen:=r'.length;exact Calls.call_len_list pl.isList (by simp only[List.size_toArray];omega) ⟨.int xs.length,H,I.tok _,⟨_,by simp only[List.size_toArray];rw[hlen]⟩,q⟩
  ·subst e'
   obtain⟨its,r',pl,hz⟩:=I.tuple hx;have hlen:=r'.length;exact len_tuple pl (by simp only[List.size_toArray];omega) ⟨.int xs.length,H,I.tok _,⟨_,by simp only[List.size_toArray];rw[hlen]⟩,q⟩
 | _=>exact (show False from e).elim
end
end L2
namespace L2
open PySem PySem.Spec PyProof.Rows
structure qA (h:Heap) (x dx C:Addr) (mA:Str->Option Value):Prop where
 obj:h.get? x=some (PySem.W.instObj C dx)
 ns:h.Ns1 dx mA
 ne:dx≠x
theorem tT {h:Heap}{dx:Addr}{mA:Str->Option Value} (n:h.Ns1 dx mA):∃ od,h.get? dx=some od/\∀ name,PySem.W.lookIn name od=some (mA name):=by
 obtain⟨o,es,ep,ho,hd,hk,_,hm⟩:=n;refine⟨o,ho,fun name=>?_⟩;have e:=hm name;unfold nsFind findBy at e;rw[<- Array.find?_toList] at e;unfold PySem.W.lookIn;rw[hd];dsimp only
 split
 ·rename_i y q
  rw[q] at e;exact congrArg some e
 ·rename_i q
  rw[q] at e;have a:es.toList.any (·.refKey)=false:=by
   rw[List.any_eq_false];intro y hy;obtain⟨z,t,hkey⟩:=hk y (Array.mem_toList_iff.mp hy);simp[DictEntry.refKey,hkey]
  have a':¬ es.toList.any (·.refKey)=true:=by rw[a];exact Bool.false_ne_true
  rw[if_neg a'];exact congrArg some e
theorem qA.look {h:Heap}{x dx C:Addr}{mA:Str->Option Value} (I:qA h x dx C mA):∃ od,PySem.W.InstAt h x (PySem.W.instObj C dx) C (some od)/\∀ name,PySem.W.lookIn name od=some (mA name) :=
 let ⟨od,ho,hl⟩:=tT I.ns
 ⟨od,⟨I.obj,rfl,rfl,ho⟩,hl⟩
section
variable {prog:Program}{w:World}{A:Around}{E:Value->Shared->Prop}{s:Shared}{K:PySem.W.Frag}{x dx C f:Addr}{mA:Str->Option Value}{name:Str}{v:Value}
theorem get_map {expr:Bool}{Q:Value->Shared->Prop} (X:K.In s.heap) (I:qA s.heap x dx C mA) (hg:PySem.W.plainGet K C name=true) (hh:PySem.W.hasDictIn K C=true)
  (ha:PySem.W.findIn K (.ref C) name=some none) (hv:mA name=some v) (hv':PySem.W.handedIn v=true) (h:Q v { s with toks:=s.toks+1 }) :
  wpAny (model prog w) A (getAttr (.ref x) name expr) Q E s:=by
 obtain⟨od,J,hl⟩:=I.look;exact PySem.W.get_value X J (PySem.W.plainGet_of hg).1 (PySem.W.findObj_own hh ha rfl (by rw[hl,hv])) hv' h
theorem uJ {pl:Sem Bool}{Q:Value×List Value->Shared->Prop} (X:K.In s.heap) (I:qA s.heap x dx C mA) (hg:PySem.W.plainGet K C name=true)
  (hf:PySem.W.findIn K (.ref C) name=some (some (.ref f))) (ht:PySem.W.isFn K (.ref f)=true) (hv:mA name=none) (h:Q (.ref f,[.ref x]) s) :
  wpAny (model prog w) A (getMethod (.ref x) name pl) Q E s:=by
 obtain⟨od,J,hl⟩:=I.look;exact PySem.W.method_fn X J (PySem.W.plainGet_of hg).1 (PySem.W.plainGet_of hg).2 hf (beq_iff_eq.mp ht) (by show (PySem.W.lookIn name od).map (·.isSome)=some false;rw[hl,hv];rfl) h
theorem yt {ns:List Str}{Q:Unit->Shared->Prop} (X:K.In s.heap) (I:qA s.heap x dx C mA)
  (hs:PySem.W.findIn K (.ref C) "__setattr__"=some (some (.builtin "object.__setattr__"))) (hp:PySem.W.plainOver K C=true) (ht:PySem.W.takerIn K C name=some none) (hh:PySem.W.hasDictIn K C=true)
  (hw:PySem.Within mA ns) (hsz:ns.length<=sizeLine)
  (h:∀ h',qA h' x dx C (fun y=>if y=name then some v else mA y)->Heap.SameBut dx s.heap h'->Q () { s with heap:=h',toks:=s.toks+2 }) :
  wpAny (model prog w) A (setAttr (.ref x) name v) Q E s:=by
 obtain⟨od,J,hl⟩:=I.look;refine PySem.W.set_plain X J hs (PySem.W.osa_open (s:={ s with toks:=s.toks+1 }) (r:=none) X J hp ht fun b=>?_);obtain⟨cd,hc,hd'⟩:=PySem.W.any_some hh;have hx:s.heap.get? x=some ⟨.ref C,some dx,.plain,#[]⟩:=I.obj;refine wpAny_bind (wpAny_pure (wpAny_bind (wpAny_bind (wpAny_loadPart hx (wpAny_bind (PySem.W.Looks.here (s:={ s with toks:=s.toks+1 }) (PySem.W.looks_clsIn X hc) ?_))))));rw[hd'];refine wpAny_pure (a:=some dx) (wpAny_bind (wpAny_pure (wpAny_bind ?_)));refine wpAny_nsSet1 (s:={ s with toks:=s.toks+1 }) I.ns fun h' hn2 hs2=>?_;obtain⟨oD,esD,epD,hoD,hdD,hcD⟩:=hn2.count (PySem.Within.cons name v hw);refine wpAny_bind (wpAny_lookBehind hoD (by rw[hdD];exact pastItsLine_dict (Nat.le_trans hcD (by rw[List.length_cons];omega))) ?_);exact wpAny_pure (h _ ⟨(hs2.2 _ (Ne.symm I.ne)).trans I.obj,hn2,I.ne⟩ hs2)
theorem uQ {R:Result->Shared->Prop}{vs:List Value}{kw:List (Str×Value)} (X:K.In s.heap) (hm:PySem.W.makesIn K C=true)
  (hi:PySem.W.findIn K (.ref C) "__init__"=some (some (.ref f))) (hf:PySem.W.typeIn K (.ref f)=some (.type "function"))
  (h:codeAny (model prog w) (A.under (.builtin "type.__call__" ⟨.ref C::vs,kw⟩)) (.call (.ref f) ⟨.ref (s.heap.objs.size+1)::vs,kw⟩) (PySem.W.InitBack (s.heap.objs.size+1) R)
   { s with heap:=(s.heap.push PySem.W.emptyDict).push (PySem.W.instObj C s.heap.objs.size) }) :
  codeAny (model prog w) A (.call (.ref C) ⟨vs,kw⟩) R s:=by
 obtain⟨hh,g,d,t,os⟩:=s;exact PySem.W.make_core (PySem.W.makes_of X hm) (PySem.W.looks_findIn X hi) (fun self=>PySem.W.bind_fn X self hf) (.inl rfl) h
end
noncomputable def cj (f:Str) (v:V):List (Str×V)->List (Str×V)
 | []=>[(f,v)]
 | (g,x)::r=>if g=f then (g,v)::r else (g,x)::cj f v r
theorem aB (f g:Str) (v:V):∀ fs:List (Str×V),(cj f v fs).lookup g=if g=f then some v else fs.lookup g
 | []=>by
  show List.lookup g [(f,v)]=_
  by_cases h:g=f
  ·have hb:(g == f)=true:=beq_iff_eq.mpr h
   simp only[List.lookup,hb,if_pos h]
  ·have hb:(g == f)=false:=beq_eq_false_iff_ne.mpr h
   simp only[List.lookup,hb,if_neg h]
 | (k,x)::r=>by
  have ih:=aB f g v r;rw[show cj f v ((k,x)::r)=(if k=f then (k,v)::r else (k,x)::cj f v r) from rfl]
  by_cases hk:k=f
  ·rw[if_pos hk]
   by_cases h:g=k
   ·have hb:(g == k)=true:=beq_iff_eq.mpr h
    simp only[List.lookup,hb,if_pos (h.trans hk)]
   ·have hb:(g == k)=false:=beq_eq_false_iff_ne.mpr h
    simp only[List.lookup,hb,if_neg (fun e:g=f=>h (e.trans hk.symm))]
  ·rw[if_neg hk]
   by_cases h:g=k
   ·have hb:(g == k)=true:=beq_iff_eq.mpr h
    simp only[List.lookup,hb,if_neg (fun e:g=f=>hk (h.symm.trans e))]
   ·have hb:(g == k)=false:=beq_eq_false_iff_ne.mpr h
    simp only[List.lookup,hb];exact ih
theorem hV (f:Str) (v:V):∀ fs:List (Str×V),f∈(cj f v fs).map (·.1)/\∀ g,g∈fs.map (·.1)->g∈(cj f v fs).map (·.1)
 | []=>⟨by simp[cj],fun g h=>by simp at h⟩
 | (k,x)::r=>by
  obtain⟨i1,i2⟩:=hV f v r;rw[show cj f v ((k,x)::r)=(if k=f then (k,v)::r else (k,x)::cj f v r) from rfl]
  by_cases hk:k=f
  ·rw[if_pos hk]
   subst hk;exact⟨by simp,fun g h=>by simpa using h⟩
  ·rw[if_neg hk]
   refine⟨?_,fun g h=>?_⟩
   ·rw[List.map_cons]
    exact List.mem_cons_of_mem _ i1
   ·rw[List.map_cons] at h ⊢
    rcases List.mem_cons.mp h with e|e
    ·exact List.mem_cons.mpr (.inl e)
    ·exact List.mem_cons_of_mem _ (i2 g e)
theorem cu (f:Str) (v:V):∀ fs:List (Str×V),(cj f v fs).length<=fs.length+1
 | []=>by simp[cj]
 | (k,x)::r=>by
  have ih:=cu f v r;rw[show cj f v ((k,x)::r)=(if k=f then (k,v)::r else (k,x)::cj f v r) from rfl]
  by_cases hk:k=f
  ·rw[if_pos hk,List.length_cons,List.length_cons];omega
  ·rw[if_neg hk,List.length_cons,List.length_cons];omega
theorem eQ.some_of {v:V}{o:Option Value} (r:eQ (some v) o):∃ u,o=some u/\RelV v u:=by
 cases o with
 | none=>exact (show False from r).elim
 | some u=>exact⟨u,rfl,r⟩
theorem eQ.none_of {o:Option Value} (r:eQ none o):o=none:=by
 cases o with
 | none=>rfl
 | some u=>exact (show False from r).elim
theorem sJ {v:V}{u:Value} (r:RelV v u):PySem.W.handedIn u=true:=by
 cases v with
 | non=>cases (show u=Value.none from r);rfl
 | bl b=>cases (show u=Value.bool b from r);rfl
 | int i=>obtain⟨t,e⟩:=(show ∃ t,u=Value.int i t from r);cases e;rfl
 | str x=>obtain⟨t,e⟩:=(show ∃ t,u=Value.str x t from r);cases e;rfl
 | byt b=>obtain⟨t,e⟩:=(show ∃ t,u=Value.bytes b t from r);cases e;rfl
 | flt b=>obtain⟨t,e⟩:=(show ∃ t,u=Value.float b t from r);cases e;rfl
 | ref a=>cases (show u=Value.ref a from r);rfl
 | ty n=>cases (show u=Value.type n from r);rfl
section
variable {P:Program}{w:World}{H H':Hp}{h h':Heap}{a C dx:Addr}{fs fs':List (Str×V)}
theorem gS (hok:fk P w H h) (e:H a=some (.ins C dx fs)):∃ mA,qA h a dx C mA/\(∀ f,eQ (fs.lookup f) (mA f))/\PySem.Within mA (fs.map (·.1))/\fs.length<=1000/\H dx=some (.own a):=by
 obtain⟨d,z,ne,ob,mA,n,r,q⟩:=(show bG P w H h a (.ins C dx fs) from hok a _ e);exact⟨mA,⟨ob,n,ne⟩,r,q,z,d⟩
end
structure pH (K:PySem.W.Frag) (C:Addr):Prop where
 pg:PySem.W.plainGet K C Str.empty=true
 hd:PySem.W.hasDictIn K C=true
 po:PySem.W.plainOver K C=true
 sa:PySem.W.findIn K (.ref C) "__setattr__"=some (some (.builtin "object.__setattr__"))
theorem pH.get {K:PySem.W.Frag}{C:Addr} (c:pH K C) (f:Str):PySem.W.plainGet K C f=true:=c.pg
noncomputable def bp (K:PySem.W.Frag) (C:Addr) (f:Str):Prop:=PySem.W.findIn K (.ref C) f=some none
theorem bp.DB {K:PySem.W.Frag}{C:Addr}{f:Str} (n:bp K C f):PySem.W.takerIn K C f=some none:=by
 unfold PySem.W.takerIn;rw[show PySem.W.findIn K (.ref C) f=some none from n]
 rfl
structure HY (K:PySem.W.Frag) (C:Addr) (f:Str) (v:V) (u:Value):Prop where
 at_:PySem.W.findIn K (.ref C) f=some (some u)
 rel:RelV v u
 get:PySem.W.specialIn K u "__get__"=some none
 cp:PySem.W.copiedNames.contains f=false
structure Meth (K:PySem.W.Frag) (C:Addr) (m:Str) (f:Addr):Prop where
 at_:PySem.W.findIn K (.ref C) m=some (some (.ref f))
 fn:PySem.W.isFn K (.ref f)=true
 kp:PySem.W.keepIn K (.ref f)=true
section
variable {X:Cx}{pins:List (Addr×Obj)}{σ:St}{H:Hp}{s:Shared}{a C dx:Addr}{fs:List (Str×V)}{f:Str}{v:V}{A:Around}{E:Value->Shared->Prop}
theorem qw {b:Bool}{Q:Value->Shared->Prop} (I:Inv X pins σ H s) (e:H a=some (.ins C dx fs)) (c:pH X.K C) (n:bp X.K C f) (l:fs.lookup f=some v)
  (h:∀ u s',Inv X pins σ H s'->RelV v u->Q u s'):wpAny (model X.prog X.w) A (getAttr (.ref a) f b) Q E s:=by
 obtain⟨mA,O,r,_,_,_⟩:=gS I.hok e;obtain⟨u,hu,ru⟩:=eQ.some_of (v:=v) (o:=mA f) (by rw[<- l];exact r f);exact get_map I.eK O (c.get f) c.hd n hu (sJ ru) (h u _ (I.tok _) ru)
theorem jj {m:Str}{g:Addr}{pl:Sem Bool}{Q:Value×List Value->Shared->Prop} (I:Inv X pins σ H s) (e:H a=some (.ins C dx fs)) (c:pH X.K C) (k:Meth X.K C m g) (l:fs.lookup m=none)
  (h:Q (.ref g,[.ref a]) s):wpAny (model X.prog X.w) A (getMethod (.ref a) m pl) Q E s:=by
 obtain⟨mA,O,r,_,_,_⟩:=gS I.hok e;have hn:mA m=none:=eQ.none_of (by rw[<- l];exact r m);exact uJ I.eK O (c.get m) k.at_ k.fn hn h
theorem p_ {y:V}{u:Value}{Q:Unit->Shared->Prop} (I:Inv X pins σ H s) (e:H a=some (.ins C dx fs)) (c:pH X.K C) (n:bp X.K C f) (hl:fs.length<1000) (ry:RelV y u)
  (h:∀ s',Inv X pins σ (upd H a (.ins C dx (cj f y fs))) s'->Q () s'):wpAny (model X.prog X.w) A (setAttr (.ref a) f u) Q E s:=by
 obtain⟨mA,O,r,wi,_,ho⟩:=gS I.hok e;have hz:(fs.map (·.1)).length<=sizeLine:=by rw[List.length_map,sizeLine_eq];omega
 refine yt I.eK O c.sa c.po n.DB c.hd wi hz fun h' O' sb=>h _ ?_;have hd:∃ o,h'.get? dx=some o:=let ⟨o,_,_,e',_⟩:=O'.ns;⟨o,e'⟩;refine I.write (x:=a) (e:=dx) (by rw[e];exact True.intro) (.inr ho) (fun b q hb z=>(sb.2 b hb).trans z) hd ?_;refine⟨by rw[ah O.ne];exact ho,?_,O.ne,O'.obj,_,O'.ns,fun g=>?_,fun g hg=>?_⟩
 ·have:=cu f y fs;omega
 ·show eQ ((cj f y fs).lookup g) (if g=f then some u else mA g)
  rw[aB]
  by_cases q:g=f
  ·rw[if_pos q,if_pos q];exact ry
  ·rw[if_neg q,if_neg q];exact r g
 ·by_cases q:g=f
  ·rw[q];exact (hV f y fs).1
  ·refine (hV f y fs).2 g (wi g fun z=>hg ?_)
   show (if g=f then some u else mA g)=none;rw[if_neg q];exact z
theorem Inv.made (I:Inv X pins σ H s):Inv X pins σ (upd (upd H s.heap.objs.size (.own (s.heap.objs.size+1))) (s.heap.objs.size+1) (.ins C s.heap.objs.size []))
  { s with heap:=(s.heap.push PySem.W.emptyDict).push (PySem.W.instObj C s.heap.objs.size) }:=by
 have e1:(s.heap.push PySem.W.emptyDict).get? s.heap.objs.size=some PySem.W.emptyDict:=Heap.get?_push_size s.heap rfl;have e2:((s.heap.push PySem.W.emptyDict).push (PySem.W.instObj C s.heap.objs.size)).get? (s.heap.objs.size+1)=some (PySem.W.instObj C s.heap.objs.size):=by
  have:=Heap.get?_push_size (s.heap.push PySem.W.emptyDict) (o:=PySem.W.instObj C s.heap.objs.size) rfl
  rwa [Heap.size_push] at this
 have e3:(s.heap.push PySem.W.emptyDict).Ns s.heap.objs.size (fun _=>none):=⟨PySem.W.emptyDict,#[],_,e1,rfl,(fun e he=>absurd he (by simp)),fun _=>rfl⟩;have I1:=I.laid (a:=s.heap.objs.size) (o:=.own (s.heap.objs.size+1)) (h':=s.heap.push PySem.W.emptyDict) (t':=s.toks) (fun b u q=>Heap.get?_push_of_some _ q) (Nat.le_refl _) ⟨_,e1⟩;refine I1.laid (a:=s.heap.objs.size+1) (o:=.ins C s.heap.objs.size []) (t':=s.toks) (fun b u q=>Heap.get?_push_of_some _ q) (Nat.le_of_eq (Heap.size_push _ _)) ?_;have ne:s.heap.objs.size≠s.heap.objs.size+1:=Nat.ne_of_lt (Nat.lt_succ_self _);refine⟨by rw[ah ne,aa],Nat.zero_le _,ne,e2,fun _=>none,(Heap.Ns1.of_empty e3).at fun o q=>Heap.get?_push_of_some _ q,fun _=>True.intro,fun y hy=>absurd rfl hy⟩
theorem xR {prog:Program}{w:World}{env:Env}{e:Expr}{f:Str}{pos:Pos}{s:Shared}{Q:Value->Shared->Prop} (hb:attributeBase e f env (eval e env)=eval e env)
  (h:wpAny (model prog w) A (eval e env) (fun o s₁=>wpAny (model prog w) A (getAttr o f true) Q E s₁) E s):wpAny (model prog w) A (eval (.Attribute e f pos) env) Q E s :=
 Attribute_any_ h (by rw[arm_eval_Attribute,hb])
end
noncomputable def Cf (K:PySem.W.Frag) (ta:TE) (f:Str):TE:=fun σ H Q=>ta σ H fun x H1=>∃ a C dx fs v,x=.ref a/\H1 a=some (.ins C dx fs)/\pH K C/\bp K C f/\fs.lookup f=some v/\Q v H1
noncomputable def El (K:PySem.W.Frag) (ta tv:TE) (f:Str):TS:=fun D σ H=>tv σ H fun y H1=>ta σ H1 fun x H2=>∃ a C dx fs,x=.ref a/\H2 a=some (.ins C dx fs)/\pH K C/\bp K C f/\fs.length<1000 /\
 D.nx σ (upd H2 a (.ins C dx (cj f y fs)))
section
variable {X:Cx}{o e value:Expr}{f:Str}{pos pos' tpos:Pos}{ta tv:TE}
theorem BL (he:PE X e ta) (hb:attributeBase e f X.env (eval e X.env)=eval e X.env):PE X (.Attribute e f pos) (Cf X.K ta f):=by
 intro pins s σ H Q I h;refine xR hb (bA (he pins s σ H _ I h) fun u s1 ⟨x,H1,I1,rx,a,C,dx,fs,v,ex,ea,c,n,l,q⟩=>?_);subst ex;obtain rfl:u=Value.ref a:=rx;exact qw I1 ea c n l fun u' s2 I2 ru=>⟨v,H1,I2,ru,q⟩
theorem dS (ha:PE X o ta) (hv:PE X value tv) (hs:swapsWith value (some (.Attribute o f pos')) pos.line X.env=pure false):PS X (.Assign [.Attribute o f pos'] value pos) (El X.K ta tv f):=by
 intro pins s σ H D I h;refine plainObj_wpAny_Assign_Attribute (bA (hv pins s σ H _ I h) fun u s1 ⟨y,H1,I1,ry,q⟩=>bA (ha pins s1 σ H1 _ I1 q) fun ov s2 ⟨x,H2,I2,rx,a,C,dx,fs,ex,ea,c,n,l,q2⟩=>?_) hs;subst ex;obtain rfl:ov=Value.ref a:=rx;exact p_ I2 ea c n l ry fun s3 I3=>⟨σ,_,I3,q2⟩
end
section
variable {X:Cx}{pins:List (Addr×Obj)}{σ:St}{H:Hp}{s:Shared}{A:Around}{E:Value->Shared->Prop}{Q:Value->Shared->Prop}{c:Value}{b:Bool}
inductive cz (K:PySem.W.Frag) (H:Hp):V->Value->Prop where
 | non:cz K H .non (.type "NoneType")
 | bl (x:Bool):cz K H (.bl x) (.type "bool")
 | int (i:Int):cz K H (.int i) (.type "int")
 | str (x:Str):cz K H (.str x) (.type "str")
 | flt (x:UInt64):cz K H (.flt x) (.type "float")
 | lst {a:Addr}{xs:List V} (e:H a=some (.lst xs)):cz K H (.ref a) (.type "list")
 | frz {a:Addr}{o:Obj}{xs:List V} (e:H a=some (.frz o (.lst xs))):cz K H (.ref a) (.type "list")
 | tup {a:Addr}{xs:List V} (e:H a=some (.tup xs)):cz K H (.ref a) (.type "tuple")
 | dK {a:Addr}{kvs:List (Key×V)} (e:H a=some (.dK kvs)):cz K H (.ref a) (.type "dict")
 | dT {a:Addr}{kvs:List (List Key×V)} (e:H a=some (.dT kvs)):cz K H (.ref a) (.type "dict")
 | ins {a C dx:Addr}{fs:List (Str×V)} (e:H a=some (.ins C dx fs)) (cl:pH K C) (ha:PySem.W.findIn K (.ref C) "__class__"=some (some (.builtin "object.__class__")))
   (hn:PySem.W.specialIn K (.builtin "object.__class__") "__get__"=some (some (.builtin "getset_descriptor.__get__"))) (htk:PySem.W.takesIn K (.builtin "object.__class__")=some true)
   (hm:PySem.W.mroIn K C (.type "object")=some true):cz K H (.ref a) (.ref C)
theorem s_ {x:V}{u t:Value} (I:Inv X pins σ H s) (rx:RelV x u) (ty:cz X.K H x t) (e:PySem.W.kitOne X.K t c=some b) (h:∀ tk,Q (.bool b) { s with toks:=tk }) :
  wpAny (model X.prog X.w) A (call (.builtin "isinstance") [u,c]) Q E s:=by
 cases ty with
 | non=>cases (show u=Value.none from rx);exact PySem.W.kia_one PySem.W.kitx_none I.eK True.intro e (fun z=>nomatch z) h
 | bl y=>cases (show u=Value.bool y from rx);exact PySem.W.kia_one PySem.W.kitx_bool I.eK True.intro e (fun z=>nomatch z) h
 | int i=>obtain⟨t,q⟩:=(show ∃ t,u=Value.int i t from rx);cases q;exact PySem.W.kia_one PySem.W.kitx_int I.eK True.intro e (fun z=>nomatch z) h
 | str y=>obtain⟨t,q⟩:=(show ∃ t,u=Value.str y t from rx);cases q;exact PySem.W.kia_one PySem.W.kitx_str I.eK True.intro e (fun z=>nomatch z) h
 | flt y=>obtain⟨t,q⟩:=(show ∃ t,u=Value.float y t from rx);cases q;exact PySem.W.kia_one PySem.W.kitx_float I.eK True.intro e (fun z=>nomatch z) h
 | @lst a xs ea =>
  cases (show u=Value.ref a from rx);obtain⟨_,_,n,_,h1⟩:=(show bG X.prog X.w H s.heap a (.lst xs) from I.hok a _ ea);exact PySem.W.kia_one PySem.W.kitx_list I.eK ⟨_,h1,rfl⟩ e (fun z=>nomatch z) h
 | @frz a ob xs ea =>
  cases (show u=Value.ref a from rx);obtain⟨_,_,_,n,_,h1⟩:=(show bG X.prog X.w H s.heap a (.frz ob (.lst xs)) from I.hok a _ ea);exact PySem.W.kia_one PySem.W.kitx_list I.eK ⟨_,h1,rfl⟩ e (fun z=>nomatch z) h
 | @tup a xs ea =>
  cases (show u=Value.ref a from rx);obtain⟨_,_,_,p⟩:=(show bG X.prog X.w H s.heap a (.tup xs) from I.hok a _ ea);obtain⟨o,h1,h2,_⟩:=p;exact PySem.W.kia_one PySem.W.kitx_tuple I.eK ⟨o,h1,h2⟩ e (fun z=>nomatch z) h
 | @dK a kvs ea =>
  cases (show u=Value.ref a from rx);obtain⟨_,_,vs,_,p⟩:=(show bG X.prog X.w H s.heap a (.dK kvs) from I.hok a _ ea);obtain⟨o,es,ep,h1,h2,_⟩:=p;exact PySem.W.kia_one PySem.W.kitx_dict I.eK ⟨o,h1,h2.1⟩ e (fun z=>nomatch z) h
 | @dT a kvs ea =>
  cases (show u=Value.ref a from rx);obtain⟨_,_,xs,_,o,es,ep,h1,h2,_⟩:=(show bG X.prog X.w H s.heap a (.dT kvs) from I.hok a _ ea);exact PySem.W.kia_one PySem.W.kitx_dict I.eK ⟨o,h1,h2.1⟩ e (fun z=>nomatch z) h
 | @ins a C dx fs ea cl ha hn htk hm =>
  cases (show u=Value.ref a from rx);obtain⟨mA,O,_⟩:=gS I.hok ea;obtain⟨od,J,_⟩:=O.look;exact PySem.W.kia_one (PySem.W.kitx_own (cl.get _) cl.hd ha hn htk hm) I.eK J e (fun z=>nomatch z) h
end
end L2
namespace L2
open PySem PySem.Spec PyProof.Rows
structure cc (k:Nat) (A:Around):Prop where
 hd:A.handled=none
 dp:A.depth+3 * k+5<recursionLimit
 un:A.units+16 * k+200<cLine
theorem cc.mono {j k:Nat}{A:Around} (r:cc k A) (h:j<=k):cc j A:=⟨r.hd,by have:=r.dp;omega,by have:=r.un;omega⟩
theorem cc.deeper {k:Nat}{A:Around} (r:cc (k+1) A) (env:Env):cc k (A.deeper env) :=
 ⟨r.hd,by have:=r.dp;show A.depth+1+3 * k+5<_;omega,by have:=r.un;show A.units+3+16 * k+200<_;omega⟩
theorem qz {A:Around}{C:Addr}{us:List Value}{kw:List (Str×Value)}:(A.under (.builtin "type.__call__" ⟨.ref C::us,kw⟩)).depth=A.depth+1:=by
 first|rfl|simp[Around.under,Code.weight,Code.isCreation,Code.isGuard,Code.isCaller,Code.frames,Code.isFrame,guardIds]
theorem qD {A:Around}{C:Addr}{us:List Value}{kw:List (Str×Value)}:(A.under (.builtin "type.__call__" ⟨.ref C::us,kw⟩)).units=A.units+1:=by
 first|rfl|simp[Around.under,Code.cUnits,Code.frames,Code.isFrame]
theorem cc.make {k:Nat}{A:Around} (r:cc (k+1) A) (C:Addr) (us:List Value) (kw:List (Str×Value)):cc k (A.under (.builtin "type.__call__" ⟨.ref C::us,kw⟩)) :=
 ⟨r.hd,by have:=r.dp;rw[qz];omega,by have:=r.un;rw[qD];omega⟩
theorem cc.depth {k:Nat}{A:Around} (r:cc k A):A.depth<recursionLimit:=by have:=r.dp;omega
theorem cc.units {k:Nat}{A:Around} (r:cc k A):A.units+64<cLine:=by have:=r.un;omega
theorem cc.cL {k:Nat}{A:Around} (r:cc k A):A.units<cLine:=by have:=r.un;omega
noncomputable def mF:TA:=fun _ H Q=>Q [] H
noncomputable def rL (ta:TE) (tr:TA):TA:=fun σ H Q=>ta σ H fun x H1=>tr σ H1 fun xs H2=>Q (x::xs) H2
section
variable {X:Cx}{e:Expr}{es:List Expr}{te:TE}{t:TA}{pos:Pos}
theorem ae:PA X [] mF:=fun _ _ _ _ H Q I h=>Calls.spliced_nil ⟨[],H,I,.nil,h⟩
theorem iW (ha:PE X e te) (hr:PA X es t) (hs:starEach (e::es) X.env=(false,eval e X.env)::starEach es X.env:=by rfl):PA X (e::es) (rL te t):=by
 intro pos pins s σ H Q I h;rw[hs];show wpAny _ _ (spliced ((false,eval e X.env)::backTo pos (starEach es X.env))) _ _ s;refine Calls.spliced_cons (bA (ha pins s σ H _ I h) fun u s1 ⟨x,H1,I1,r1,q1⟩=>?_);exact bA (hr pos pins s1 σ H1 _ I1 q1) fun us s2 ⟨xs,H2,I2,r2,q2⟩=>⟨x::xs,H2,I2,.cons r1 r2,q2⟩
noncomputable def z_ (t:TA):TE:=fun σ H Q=>t σ H fun xs H1=>xs.length<=sizeLine/\∀ p,H1 p=none->Q (.ref p) (upd H1 p (.tup xs))
noncomputable def Bh (t:TA):TE:=fun σ H Q=>t σ H fun xs H1=>xs.length<=sizeLine/\∀ p,H1 p=none->Q (.ref p) (upd H1 p (.lst xs))
theorem cm {x1} (h:PA X es t):PE X (.Tuple es x1 pos) (z_ t):=by
 intro pins s σ H Q I hq;refine wpAny_Tuple_spliced (bA (h pos pins s σ H _ I hq) fun us s1 ⟨xs,H1,I1,r,z,q⟩=>⟨by rw[<- r.length];exact z,?_⟩);have hf:H1 s1.heap.objs.size=none:=I1.hok.fresh (Nat.le_refl _);refine⟨.ref s1.heap.objs.size,upd H1 s1.heap.objs.size (.tup xs),I1.laid (t':=s1.toks) (fun b u e=>Heap.get?_push_of_some _ e) (Nat.le_refl _) ?_,rfl,q _ hf⟩;exact⟨z,us,r,⟨_,Heap.get?_push_size _ rfl,rfl,_,rfl⟩⟩
theorem bw (h:PA X es t):PE X (.List es pos) (Bh t):=by
 intro pins s σ H Q I hq;refine wpAny_List_spliced (bA (h pos pins s σ H _ I hq) fun us s1 ⟨xs,H1,I1,r,z,q⟩=>⟨by rw[<- r.length];exact z,?_⟩);have hf:H1 s1.heap.objs.size=none:=I1.hok.fresh (Nat.le_refl _);refine⟨.ref s1.heap.objs.size,upd H1 s1.heap.objs.size (.lst xs),I1.laid (t':=s1.toks) (fun b u e=>Heap.get?_push_of_some _ e) (Nat.le_refl _) ?_,rfl,q _ hf⟩;exact⟨z,us,0,r,Heap.get?_push_size _ rfl⟩
end
noncomputable abbrev Sp:=List V->Hp->VK->XK->Prop
noncomputable abbrev kQ:=List Env->Hp->Shared->XK->Value->Shared->Prop
structure qf (P:Program) (w:World) (K:PySem.W.Frag) (mg:Str->Option Value) (base:Heap) (A:Around) (outer:List Env) (s:Shared) (H:Hp):Prop where
 frames:A.frames=some outer
 mod:Mod K mg base
 bs:∀ b o,base.get? b=some o->s.heap.get? b=some o/\H b=none
 bsz:base.objs.size<=s.heap.objs.size
 fZ:s.heap.FunFrames base outer
 frf:∀ b∈iJ outer,H b=none
 hok:fk P w H s.heap
 bare:AllBare s.gens
noncomputable def CE (outer:List Env) (P:Program) (w:World) (H:Hp) (s:Shared) (Q:VK) (u:Value) (s':Shared):Prop :=
 ∃ v H',s'.os=s.os/\AllBare s'.gens/\Un (iJ outer) [] H H' s.heap s'.heap/\fk P w H' s'.heap/\RelV v u/\Q v H'
noncomputable def CR (CX:kQ) (outer:List Env) (P:Program) (w:World) (H:Hp) (s:Shared) (Q:VK) (E:XK) (r:Result) (s':Shared):Prop :=
 match r with
 | .ok (.ret u)=>CE outer P w H s Q u s'
 | .ok _=>False
 | .error e=>CX outer H s E e s'
structure aR (P:Program) (w:World) (K:PySem.W.Frag) (mg:Str->Option Value) (base:Heap) (CX:kQ) (k:Nat) (f:Addr) (fd:FuncData) (ps:List Str) (sp:Sp):Prop where
 len:∀ vs H Q E,sp vs H Q E->vs.length=ps.length
 run:∀ (A:Around) (outer:List Env) (s:Shared) (H:Hp) (args:Args) (us:List Value) (vs:List V) (Q:VK) (E:XK),cc k A->qf P w K mg base A outer s H->BindsTo s fd args (ps.zip us)->Vals vs us->sp vs H Q E ->
  codeAny (model P w) A (.call (.ref f) args) (CR CX outer P w H s Q E) s
theorem aR.mono {P:Program}{w:World}{K:PySem.W.Frag}{mg:Str->Option Value}{base:Heap}{CX:kQ}{j k:Nat}{f:Addr}{fd:FuncData}{ps:List Str}{sp:Sp} (F:aR P w K mg base CX j f fd ps sp) (h:j<=k) :
  aR P w K mg base CX k f fd ps sp:=⟨F.len,fun A outer s H args us vs Q E hr=>F.run A outer s H args us vs Q E (hr.mono h)⟩
theorem qf.make {P:Program}{w:World}{K:PySem.W.Frag}{mg:Str->Option Value}{base:Heap}{A:Around}{outer:List Env}{s:Shared}{H:Hp} (e:qf P w K mg base A outer s H) (C:Addr) (us:List Value) (kw:List (Str×Value)) :
  qf P w K mg base (A.under (.builtin "type.__call__" ⟨.ref C::us,kw⟩)) outer s H:=⟨by first|exact e.frames|(simpa [Around.under,Code.envs,Code.isFrame,pushEnvs] using e.frames),e.mod,e.bs,e.bsz,e.fZ,e.frf,e.hok,e.bare⟩
section
variable {X:Cx}{pins:List (Addr×Obj)}{σ:St}{H:Hp}{s s':Shared}
theorem Inv.DD (I:Inv X pins σ H s):qf X.prog X.w X.K X.mg X.base X.A X.stack s H :=
 ⟨I.ok.frames,I.ok.mod,I.bs,Nat.le_trans I.ok.bsz I.sz,I.stack,I.jc,I.hok,I.bare⟩
theorem Inv.after {Q:VK}{u:Value} (I:Inv X pins σ H s) (h:CE X.stack X.prog X.w H s Q u s'):EP X pins σ Q u s':=by
 obtain⟨v,H',os,bare,un,hok,r,q⟩:=h;obtain⟨hh,g,d,t,os'⟩:=s';obtain rfl:os'=s.os:=os;exact⟨v,H',I.call (h':=hh) (g':=g) (d':=d) (t':=t) (ch:=[]) un hok bare (fun b z=>absurd z (by simp)),r,q⟩
end
noncomputable def iK (sp:Sp) (dvs:List V) (E:XK) (t:TA):TE:=fun σ H Q=>t σ H fun vs H1=>sp (vs++dvs) H1 Q E
noncomputable def pC (C:Addr) (m:Str) (sp:Sp) (dvs:List V) (E:XK) (ta:TE) (t:TA):TE:=fun σ H Q=>ta σ H fun x H1=>∃ a dx fs,x=.ref a/\H1 a=some (.ins C dx fs)/\fs.lookup m=none /\
 t σ H1 fun vs H2=>sp (x::(vs++dvs)) H2 Q E
noncomputable def ou (C:Addr) (sp:Sp) (dvs:List V) (E:XK) (t:TA):TE:=fun σ H Q=>t σ H fun vs H1=>∀ x dx,H1 x=none->H1 dx=none->dx≠x ->
 sp (.ref x::(vs++dvs)) (upd (upd H1 dx (.own x)) x (.ins C dx [])) (fun v H2=>v=.non/\Q (.ref x) H2) E
noncomputable def Binds (K:PySem.W.Frag) (fd:FuncData) (ps:List Str) (ds:List Value):Prop :=
 ∀ (s:Shared) (us:List Value),K.In s.heap->(us++ds).length=ps.length->BindsTo s fd ⟨us,[]⟩ (ps.zip (us++ds))
theorem Binds.all {K:PySem.W.Frag}{fd:FuncData}{ps:List Str} (h:∀ us:List Value,us.length=ps.length->bindArgs fd ⟨us,[]⟩=pure (ps.zip us)):Binds K fd ps []:=fun s us _ hl=>by
 rw[List.append_nil] at hl ⊢;exact .of_eq (h us hl)
noncomputable def Passes (CX:kQ) (X:Cx) (E:XK):Prop:=∀ (pins:List (Addr×Obj)) (σ:St) (H:Hp) (s:Shared) (e:Value) (s':Shared),Inv X pins σ H s->CX X.stack H s E e s'->X.xe e s'
section
variable {X:Cx}{CX:kQ}{k:Nat}{f C:Addr}{fd:FuncData}{ps:List Str}{sp:Sp}{dvs:List V}{ds:List Value}{E:XK}{x m:Str}{p pos apos:Pos}{e o:Expr}{es:List Expr}{ta:TE}{t:TA}
theorem mQ {pins:List (Addr×Obj)}{σ:St}{H:Hp}{s:Shared}{Q:VK}{us:List Value}{vs:List V} (F:aR X.prog X.w X.K X.mg X.base CX k f fd ps sp) (hr:cc k X.A) (hb:Binds X.K fd ps ds) (hd:Vals dvs ds) (hx:Passes CX X E)
  (I:Inv X pins σ H s) (r:Vals vs us) (h:sp (vs++dvs) H Q E):wpAny (model X.prog X.w) X.A (call (.ref f) us) (EP X pins σ Q) X.xe s:=by
 have r2:Vals (vs++dvs) (us++ds):=r.append hd;have hl:(us++ds).length=ps.length:=by rw[<- r2.length];exact F.len _ _ _ _ h
 refine wpAny_call (codeAny_mono (F.run X.A X.stack s H ⟨us,[]⟩ (us++ds) (vs++dvs) Q E hr I.DD (hb s us I.eK hl) r2 h) fun r s' hq=>?_)
 cases r with
 | error e=>exact hx pins σ H s e s' I hq
 | ok fl =>
  cases fl with
  | ret u=>exact I.after hq
  | next=>exact False.elim hq
  | brk=>exact False.elim hq
  | cont=>exact False.elim hq
theorem rJ (F:aR X.prog X.w X.K X.mg X.base CX k f fd ps sp) (hr:cc k X.A) (hg:Gl X x) (hm:X.mg x=some (.ref f)) (hk:PySem.W.keepIn X.K (.ref f)=true) (hb:Binds X.K fd ps ds) (hd:Vals dvs ds) (hx:Passes CX X E)
  (ha:PA X (e::es) t) (hdb:(x == ("__debug__":Str))=false:=by decide) (he:starEach (e::es) X.env=(false,eval e X.env)::starEach es X.env:=by rfl) (hpl:(backTo pos (starEach es X.env)).any (·.1)=false:=by rfl) :
  PE X (.Call (.Name x p) (e::es) [] pos) (iK sp dvs E t):=by
 intro pins s σ H Q I h;refine wpAny_Call_Name_kw (fe I hg hm ?_ hdb);refine PySem.W.callWith_K (h₀:=X.base) I.ok.mod.kin hk (bA (ha pos pins s σ H _ I h) fun us s1 ⟨vs,H1,I1,r,q⟩=>⟨I1.eK,?_⟩) he hpl;exact mQ F hr hb hd hx I1 r q
theorem vN (F:aR X.prog X.w X.K X.mg X.base CX k f fd ps sp) (hr:cc k X.A) (hg:Gl X x) (hm:X.mg x=some (.ref f)) (hk:PySem.W.keepIn X.K (.ref f)=true) (hb:Binds X.K fd ps ds) (hd:Vals dvs ds) (hx:Passes CX X E)
  (hdb:(x == ("__debug__":Str))=false:=by decide):PE X (.Call (.Name x p) [] [] pos) (iK sp dvs E mF):=by
 intro pins s σ H Q I h;refine wpAny_Call_Name_kw (fe I hg hm ?_ hdb);exact PySem.W.callWith_K0 I.eK hk (mQ (us:=[]) F hr hb hd hx I .nil h)
theorem xV {pl:Sem Bool} (he:PE X o ta) (c:pH X.K C) (hm:Meth X.K C m f) (F:aR X.prog X.w X.K X.mg X.base CX k f fd ps sp) (hr:cc k X.A) (hb:Binds X.K fd ps ds) (hd:Vals dvs ds) (hx:Passes CX X E) (ha:PA X (e::es) t)
  (hst:starEach (e::es) X.env=(false,eval e X.env)::starEach es X.env:=by rfl) (hpl:(backTo pos (starEach es X.env)).any (·.1)=false:=by rfl)
  (ht:eval (.Call (.Attribute o m apos) (e::es) [] pos) X.env=(do
   let ov <- eval o X.env
   standAt apos.atName
   let (f,first) <- holding [ov] (getMethod ov m pl)
   callWith pos f first (backTo pos (starEach (e::es) X.env)) (backToKw pos (keywordEach [] X.env))):=by rfl) :
  PE X (.Call (.Attribute o m apos) (e::es) [] pos) (pC C m sp dvs E ta t):=by
 intro pins s σ H Q I h;refine PySem.W.methodCall_KW (pl:=pl) (bA (he pins s σ H _ I h) fun u s1 ⟨x,H1,I1,rx,a,dx,fs,ex,ea,l,q⟩=>?_) ht;subst ex;obtain rfl:u=Value.ref a:=rx;refine jj I1 ea c hm l ?_;refine PySem.W.callWith_K (first:=[.ref a]) (h₀:=X.base) I.ok.mod.kin hm.kp (bA (ha pos pins s1 σ H1 _ I1 q) fun us s2 ⟨vs,H2,I2,r,q2⟩=>⟨I2.eK,?_⟩) hst hpl;exact mQ (us:=.ref a::us) (vs:=.ref a::vs) F hr hb hd hx I2 (.cons rfl r) q2
theorem vL {pl:Sem Bool} (he:PE X o ta) (c:pH X.K C) (hm:Meth X.K C m f) (F:aR X.prog X.w X.K X.mg X.base CX k f fd ps sp) (hr:cc k X.A) (hb:Binds X.K fd ps ds) (hd:Vals dvs ds) (hx:Passes CX X E)
  (ht:eval (.Call (.Attribute o m apos) [] [] pos) X.env=(do
   let ov <- eval o X.env
   standAt apos.atName
   let (f,first) <- holding [ov] (getMethod ov m pl)
   callWith pos f first (backTo pos (starEach [] X.env)) (backToKw pos (keywordEach [] X.env))):=by rfl) :
  PE X (.Call (.Attribute o m apos) [] [] pos) (pC C m sp dvs E ta mF):=by
 intro pins s σ H Q I h;refine PySem.W.methodCall_KW (pl:=pl) (bA (he pins s σ H _ I h) fun u s1 ⟨x,H1,I1,rx,a,dx,fs,ex,ea,l,q⟩=>?_) ht;subst ex;obtain rfl:u=Value.ref a:=rx;refine jj I1 ea c hm l ?_;exact PySem.W.callWith_K0 (first:=[.ref a]) I1.eK hm.kp (mQ (us:=[.ref a]) (vs:=[.ref a]) F hr hb hd hx I1 (.cons rfl .nil) q)
structure Mk (K:PySem.W.Frag) (C f:Addr):Prop where
 makes:PySem.W.makesIn K C=true
 init:PySem.W.findIn K (.ref C) "__init__"=some (some (.ref f))
 fn:PySem.W.isFn K (.ref f)=true
 kp:PySem.W.keepIn K (.ref C)=true
theorem pf {pins:List (Addr×Obj)}{σ:St}{H:Hp}{s:Shared}{Q:VK}{us:List Value}{vs:List V} (M:Mk X.K C f) (F:aR X.prog X.w X.K X.mg X.base CX k f fd ps sp) (hr:cc (k+1) X.A) (hb:Binds X.K fd ps ds) (hd:Vals dvs ds)
  (hx:Passes CX X E) (I:Inv X pins σ H s) (r:Vals vs us)
  (h:∀ x dx,H x=none->H dx=none->dx≠x->sp (.ref x::(vs++dvs)) (upd (upd H dx (.own x)) x (.ins C dx [])) (fun v H2=>v=.non/\Q (.ref x) H2) E) :
  wpAny (model X.prog X.w) X.A (call (.ref C) us) (EP X pins σ Q) X.xe s:=by
 have hq:=h (s.heap.objs.size+1) s.heap.objs.size (I.hok.fresh (Nat.le_succ _)) (I.hok.fresh (Nat.le_refl _)) (Nat.ne_of_lt (Nat.lt_succ_self _));have I2:=Inv.made (C:=C) I;have r2:Vals (V.ref (s.heap.objs.size+1)::(vs++dvs)) (Value.ref (s.heap.objs.size+1)::(us++ds)):=.cons rfl (r.append hd);have hl:(Value.ref (s.heap.objs.size+1)::us++ds).length=ps.length:=by
  have e:=r2.length;rw[F.len _ _ _ _ hq] at e;exact e.symm
 refine wpAny_call (uQ (f:=f) I.eK M.makes M.init (beq_iff_eq.mp M.fn) (codeAny_mono (F.run _ X.stack _ _ ⟨Value.ref (s.heap.objs.size+1)::us,[]⟩ (Value.ref (s.heap.objs.size+1)::(us++ds)) _ _ E (hr.make C us [])
  (I2.DD.make C us []) (hb _ (Value.ref (s.heap.objs.size+1)::us) I2.eK hl) r2 hq) fun r s' hq'=>?_))
 cases r with
 | error e=>exact hx pins σ _ _ e s' I2 hq'
 | ok fl =>
  cases fl with
  | ret u =>
   obtain⟨v,H',I3,rv,ev,q3⟩:=I2.after hq';subst ev;exact⟨rv,⟨V.ref (s.heap.objs.size+1),H',I3,rfl,q3⟩⟩
  | next=>exact False.elim hq'
  | brk=>exact False.elim hq'
  | cont=>exact False.elim hq'
theorem yA (M:Mk X.K C f) (F:aR X.prog X.w X.K X.mg X.base CX k f fd ps sp) (hr:cc (k+1) X.A) (hg:Gl X x) (hm:X.mg x=some (.ref C)) (hb:Binds X.K fd ps ds) (hd:Vals dvs ds) (hx:Passes CX X E)
  (ha:PA X (e::es) t) (hdb:(x == ("__debug__":Str))=false:=by decide) (he:starEach (e::es) X.env=(false,eval e X.env)::starEach es X.env:=by rfl) (hpl:(backTo pos (starEach es X.env)).any (·.1)=false:=by rfl) :
  PE X (.Call (.Name x p) (e::es) [] pos) (ou C sp dvs E t):=by
 intro pins s σ H Q I h;refine wpAny_Call_Name_kw (fe I hg hm ?_ hdb);refine PySem.W.callWith_K (h₀:=X.base) I.ok.mod.kin M.kp (bA (ha pos pins s σ H _ I h) fun us s1 ⟨vs,H1,I1,r,q⟩=>⟨I1.eK,?_⟩) he hpl;exact pf M F hr hb hd hx I1 r q
theorem vd (M:Mk X.K C f) (F:aR X.prog X.w X.K X.mg X.base CX k f fd ps sp) (hr:cc (k+1) X.A) (hg:Gl X x) (hm:X.mg x=some (.ref C)) (hb:Binds X.K fd ps ds) (hd:Vals dvs ds) (hx:Passes CX X E)
  (hdb:(x == ("__debug__":Str))=false:=by decide):PE X (.Call (.Name x p) [] [] pos) (ou C sp dvs E mF):=by
 intro pins s σ H Q I h;refine wpAny_Call_Name_kw (fe I hg hm ?_ hdb);exact PySem.W.callWith_K0 I.eK M.kp (pf (us:=[]) M F hr hb hd hx I .nil h)
end
section
variable {X:Cx}{CX:kQ}{k:Nat}{f C:Addr}{fd:FuncData}{ps ks:List Str}{sp:Sp}{E:XK}{x m:Str}{p pos apos kpos:Pos}{e o:Expr}{es:List Expr}{kws:List Keyword}{te ta:TE}{t tk:TA}{nm:Option Str}
structure FZ (K:PySem.W.Frag) (fd:FuncData) (ps ks:List Str) (g:List Value->List Value->List Value) (gV:List V->List V->List V):Prop where
 to:∀ (s:Shared) (us ws:List Value),K.In s.heap->(g us ws).length=ps.length->BindsTo s fd ⟨us,ks.zip ws⟩ (ps.zip (g us ws))
 rel:∀ {vs:List V}{us:List Value}{zs:List V}{ws:List Value},Vals vs us->Vals zs ws->Vals (gV vs zs) (g us ws)
variable {g:List Value->List Value->List Value}{gV:List V->List V->List V}
end
structure az (N P:List Str) (sc:Scope):Prop where
 kind:sc.kind=.function
 co:sc.isCoroutine=false
 gen:sc.isGenerator=false
 nd:N.Nodup
 pre:N.take P.length=P
 par:∀ x∈P,sc.names.lookup x=some .local\/sc.names.lookup x=some .cell
 nofree:∀ y∈sc.names,y.2≠.free
theorem lL {kindOf:Str->Option NameKind}{x:Str}:∀ {binds:List (Str×Value)}{m:Str->Option Value},(∀ v,(x,v)∉binds)->bindL kindOf binds m x=m x
 | [],_,_=>rfl
 | (n,v)::r,m,h=>by
  unfold bindL;rw[lL fun w hw=>h w (List.mem_cons_of_mem _ hw)]
  split
  ·have:x≠n:=by rintro rfl;exact h v List.mem_cons_self
   simp[this]
  ·rfl
theorem kH {kindOf:Str->Option NameKind}{x:Str}:∀ {binds:List (Str×Value)}{m:Str->Option Value},(∀ v,(x,v)∉binds)->bindC kindOf binds m x=m x
 | [],_,_=>rfl
 | (n,v)::r,m,h=>by
  unfold bindC;rw[kH fun w hw=>h w (List.mem_cons_of_mem _ hw)]
  split
  ·rfl
  ·have:x≠n:=by rintro rfl;exact h v List.mem_cons_self
   simp[this]
theorem lR {kindOf:Str->Option NameKind}{x:Str}{v:Value}:∀ {P:List Str}{vs:List Value}{i:Nat}{m:Str->Option Value},P.Nodup->P[i]?=some x->vs[i]?=some v->kindOf x=some .local ->
  bindL kindOf (P.zip vs) m x=some v
 | [],_,_,_,_,h,_,_=>by simp at h
 | _::_,[],_,_,_,_,h,_=>by simp at h
 | p::P,w::vs,0,m,nd,h1,h2,hk=>by
  simp at h1 h2;subst h1;subst h2;show bindL kindOf ((p,w)::P.zip vs) m p=_;unfold bindL;rw[lL fun v hv=>(List.nodup_cons.mp nd).1 (List.of_mem_zip hv).1,if_pos hk];simp
 | p::P,w::vs,i+1,m,nd,h1,h2,hk=>by
  show bindL kindOf ((p,w)::P.zip vs) m x=_;unfold bindL;exact lR (i:=i) (List.nodup_cons.mp nd).2 (by simpa using h1) (by simpa using h2) hk
theorem lz {kindOf:Str->Option NameKind}{x:Str}{v:Value}:∀ {P:List Str}{vs:List Value}{i:Nat}{m:Str->Option Value},P.Nodup->P[i]?=some x->vs[i]?=some v->kindOf x≠some .local ->
  bindC kindOf (P.zip vs) m x=some v
 | [],_,_,_,_,h,_,_=>by simp at h
 | _::_,[],_,_,_,_,h,_=>by simp at h
 | p::P,w::vs,0,m,nd,h1,h2,hk=>by
  simp at h1 h2;subst h1;subst h2;show bindC kindOf ((p,w)::P.zip vs) m p=_;unfold bindC;rw[kH fun v hv=>(List.nodup_cons.mp nd).1 (List.of_mem_zip hv).1,if_neg hk];simp
 | p::P,w::vs,i+1,m,nd,h1,h2,hk=>by
  show bindC kindOf ((p,w)::P.zip vs) m x=_;unfold bindC;exact lz (i:=i) (List.nodup_cons.mp nd).2 (by simpa using h1) (by simpa using h2) hk
noncomputable def start (N:List Str) (vs:List V):St:=vs.map some++List.replicate (N.length - vs.length) none
noncomputable def iN (CX:kQ) (P:Program) (w:World) (K:PySem.W.Frag) (mg:Str->Option Value) (base:Heap) (N:List Str) (qual:Str) (scope:Scope) (f:Addr) (cd:Value) (A:Around) (outer:List Env) (s:Shared) (H:Hp) (E:XK):Cx where
 prog:=P
 w:=w
 K:=K
 mg:=mg
 base:=base
 A:=A.deeper (envOfC qual scope s.heap.objs.size f cd)
 N:=N
 s₀:=s
 H₀:=H
 env:=envOfC qual scope s.heap.objs.size f cd
 outer:=outer
 stack:=envOfC qual scope s.heap.objs.size f cd::outer
 ex:=[]
 calm:=true
 fn:=fun _=>true
 pn:=[]
 xe:=fun e s'=>wpAny (model P w) (A.deeper (envOfC qual scope s.heap.objs.size f cd)) (leaving (envOfC qual scope s.heap.objs.size f cd) e) (fun _ s''=>CX outer H s E e s'') (fun e' s''=>CX outer H s E e' s'') s'
theorem oI {sc:Scope}{n:Nat}{x:Str} (h:sc.names.lookup x=some .cell):∃ c,(cellsFrom n sc.names []).lookup x=some c:=by
 have q:=PySem.W.cellsFrom_some sc.names n [] (.inl h);exact Option.isSome_iff_exists.mp q
theorem tF {CX:kQ}{P:Program}{w:World}{K:PySem.W.Frag}{mg:Str->Option Value}{base:Heap}{N ps:List Str}{qual:Str}{scope:Scope}{f:Addr}{cd:Value}{A:Around}{outer:List Env}{s s1:Shared}{H:Hp}{E:XK}{us:List Value}{vs:List V}
  (S:az N ps scope) (hd:A.handled=none) (e0:qf P w K mg base A outer s H) (hl:vs.length=ps.length) (r:Vals vs us)
  (x:InCallC s s.heap.objs.size (bindL (envOfC qual scope s.heap.objs.size f cd).kindOf (ps.zip us) fun _=>none) (cellsFrom (s.heap.objs.size+1) scope.names []) (bindC (envOfC qual scope s.heap.objs.size f cd).kindOf (ps.zip us) fun _=>none) s1) :
  Inv (iN CX P w K mg base N qual scope f cd A outer s H E) [] (start N vs) H s1:=by
 have hpl:ps.length<=N.length:=by have:=congrArg List.length S.pre;rw[List.length_take] at this;omega
 obtain⟨h1,tk,rfl,hk⟩:=x.done;have noA:∀ b:Addr,b∉(iN CX P w K mg base N qual scope f cd A outer s H E).ex:=fun b z=>absurd (show b∈([]:List Addr) from z) (by simp);refine⟨⟨e0.mod,S.kind,rfl,rfl,Nat.le_refl _,fun y z c h1 h2=>?_,fun y hy=>?_,fun y c _ h=>?_,fun _=>hd,Around.frames_deeper e0.frames,.inr ⟨rfl,rfl⟩,fun b z=>absurd z (noA b),e0.bs,e0.bsz,fun b _ _=>noA b,fun b z=>absurd z (noA b),e0.fZ,e0.frf⟩,
  rfl,e0.bare,Un.kept hk,⟨_,x.toInCall.ns,fun i y v h1 h2 h3=>?_⟩,fun y c h=>⟨_,x.cell y c h⟩,e0.hok.fresh (Nat.le_refl _),fun y c h=>?_,fun p hp=>absurd (show p∈([]:List (Addr×Obj)) from hp) (by simp),e0.hok.kept hk,?_⟩
 ·exact name_of_addr x.apart (PySem.mem_of_lookup h1) (PySem.mem_of_lookup h2)
 ·have hy:scope.names.lookup y=some .cell\/scope.names.lookup y=some .free:=hy
  rcases hy with hy|hy
  ·exact oI hy
  ·exact absurd rfl (S.nofree _ (PySem.mem_of_lookup hy))
 ·exact Nat.le_of_lt (x.above y c (PySem.mem_of_lookup h))
 ·have hi:i<vs.length:=by
   unfold start at h2
   by_cases hi:i<vs.length
   ·exact hi
   ·rw[List.getElem?_append_right (by simpa using hi)] at h2
    rw[List.getElem?_replicate] at h2
    split at h2 <;> cases h2
  have ha:vs[i]?=some v:=by
   unfold start at h2;rw[List.getElem?_append_left (by simpa using hi),List.getElem?_map] at h2
   cases e:vs[i]? with
   | none=>rw[e] at h2;cases h2
   | some a=>rw[e] at h2;cases h2;rfl
  obtain⟨u,hu,rv⟩:=r.get ha;have hp:ps[i]?=some y:=by
   rw[<- S.pre,List.getElem?_take_of_lt (by omega)];exact h1
  have ndP:ps.Nodup:=by rw[<- S.pre];exact S.nd.sublist (List.take_sublist _ _)
  refine⟨u,rv,?_⟩;rcases S.par y (List.mem_of_getElem? hp) with k|k
  ·exact .inl ⟨k,lR ndP hp hu k⟩
  ·obtain⟨c,e⟩:=oI (n:=s.heap.objs.size+1) k
   refine .inr ⟨.inl k,c,e,?_⟩;have q:=x.cell y c e;rw[lz ndP hp hu (by show scope.names.lookup y≠_;rw[k];decide)] at q;exact q
 ·exact e0.hok.fresh (Nat.le_of_lt (x.above y c (PySem.mem_of_lookup h)))
 ·unfold start
  show _=N.length;rw[List.length_append,List.length_map,List.length_replicate];omega
theorem yZ {CX:kQ}{P:Program}{w:World}{K:PySem.W.Frag}{mg:Str->Option Value}{base:Heap}{k:Nat}{f:Addr}{name qual:Str}{params:Arguments}{body:List Stmt}{scope:Scope}{dV kV doc pm cdv ct oc:Value}{an od:Option Addr}
  {osl:Array (Option Value)}{N ps:List Str}{sp:Sp} (lk:K.lookup f=some ⟨oc,od,.func (PySem.W.fnOf name qual params body scope dV kV doc pm an cdv ct),osl⟩) (hcd:PySem.W.codeIn K cdv qual=true) (S:az N ps scope)
  (len:∀ vs H Q E,sp vs H Q E->vs.length=ps.length)
  (hbody:∀ (A:Around) (outer:List Env) (s:Shared) (H:Hp) (vs:List V) (Q:VK) (E:XK),cc k (A.deeper (envOfC qual scope s.heap.objs.size f cdv))->sp vs H Q E ->
   ∃ t,mf (iN CX P w K mg base N qual scope f cdv A outer s H E) body t/\t { nx:=fun _ H'=>Q .non H',rt:=Q } (start N vs) H) :
  aR P w K mg base CX (k+1) f (PySem.W.fnOf name qual params body scope dV kV doc pm an cdv ct) ps sp:=by
 refine⟨len,fun A outer s H args us vs Q E hr e0 hb r hsp=>?_⟩;have hl:=len _ _ _ _ hsp;have KX:K.In s.heap:=e0.mod.kin.keeps fun b o e=>(e0.bs b o e).1;have lim:s.heap.NoLimit:=e0.mod.nolimit.keeps fun b o e=>(e0.bs b o e).1;have hkind:∀ y∈ps.zip us,scope.names.lookup y.1=some .local\/(scope.names.lookup y.1=some .cell/\((cellsFrom (s.heap.objs.size+1) scope.names []).lookup y.1).isSome=true):=fun ⟨n,v⟩ hy=>by
  rcases S.par n (List.of_mem_zip hy).1 with q|q
  ·exact .inl q
  ·exact .inr ⟨q,PySem.W.cellsFrom_some _ _ _ (.inl q)⟩
 refine codeAny_call_function hr.depth (KX _ _ lk) rfl S.co S.gen rfl (PySem.W.codeRec_of KX hcd) (hb _ _ _ _ ?_);refine wpAny_newFunctionEnv_cells S.kind hkind fun env he s1 x=>?_;subst he;refine⟨lim.keeps x.toInCall.keep,codeAny_func ?_⟩;obtain⟨t,ht,hq⟩:=hbody A outer s H vs Q E (hr.deeper _) hsp;have I:Inv (iN CX P w K mg base N qual scope f cdv A outer s H E) [] (start N vs) H s1:=tF S hr.hd e0 hl r x;refine wpAny_mono (ht [] s1 (start N vs) H _ I hq) (fun fl s' hs=>?_) fun e s' hs=>hs;have fin:∀ {σ':St}{H':Hp}{v:V}{u:Value},Inv (iN CX P w K mg base N qual scope f cdv A outer s H E) [] σ' H' s'->RelV v u->Q v H'->CE outer P w H s Q u s' :=
  fun {σ' H' v u} J rv q=>⟨v,H',J.os,J.bare,J.base,J.hok,rv,q⟩
 cases fl with
 | ret u =>
  obtain⟨v,σ',H',J,rv,q⟩:=hs;exact fin J rv q
 | next =>
  obtain⟨σ',H',J,q⟩:=hs;exact fin (v:=V.non) (u:=Value.none) J rfl q
 | brk =>
  obtain⟨_,_,_,q⟩:=hs;exact False.elim q
 | cont =>
  obtain⟨_,_,_,q⟩:=hs;exact False.elim q
end L2
namespace L2
open PySem PySem.Spec PyProof.Rows
section
variable {X:Cx}{x:Str}{p pos:Pos}{e:Expr}{es:List Expr}{t:TA}{id T:String}{r:List V->Hp->VK->Prop}
noncomputable def Cm (r:List V->Hp->VK->Prop) (t:TA):TE:=fun σ H Q=>t σ H fun vs H1=>r vs H1 Q
theorem nY (hc:cv X (.builtin id) r) (hg:Gl X x) (hm:X.mg x=none) (hv:bootBuiltins x=some (.builtin id)) (ha:PA X (e::es) t) (hn:x≠"__name__":=by decide) (hdb:(x == ("__debug__":Str))=false:=by decide)
  (he:starEach (e::es) X.env=(false,eval e X.env)::starEach es X.env:=by rfl) (hpl:(backTo pos (starEach es X.env)).any (·.1)=false:=by rfl):PE X (.Call (.Name x p) (e::es) [] pos) (Cm r t):=by
 intro pins s σ H Q I h;refine wpAny_Call_Name_kw (hX I hg hm hv ?_ hn hdb);exact PyProof.Rows.callWith_builtin1 (bA (ha pos pins s σ H _ I h) fun us s1 ⟨vs,H1,I1,r1,q1⟩=>hc pins s1 σ H1 vs us Q I1 r1 q1) he hpl
theorem tK (hc:cv X (.type T) r) (hg:Gl X x) (hm:X.mg x=none) (hv:bootBuiltins x=some (.type T)) (ha:PA X (e::es) t) (hn:x≠"__name__":=by decide) (hdb:(x == ("__debug__":Str))=false:=by decide)
  (he:starEach (e::es) X.env=(false,eval e X.env)::starEach es X.env:=by rfl) (hpl:(backTo pos (starEach es X.env)).any (·.1)=false:=by rfl):PE X (.Call (.Name x p) (e::es) [] pos) (Cm r t):=by
 intro pins s σ H Q I h;refine wpAny_Call_Name_kw (hX I hg hm hv ?_ hn hdb);exact PyProof.Rows.callWith_type1 (bA (ha pos pins s σ H _ I h) fun us s1 ⟨vs,H1,I1,r1,q1⟩=>hc pins s1 σ H1 vs us Q I1 r1 q1) he hpl
end
end L2
namespace L2
open PySem PySem.Spec PyProof.Rows
section
variable {κ:Type} [DecidableEq κ]
noncomputable def dr (kvs:List (κ×V)) (k:κ):Option V:=(kvs.find? fun kv=>decide (kv.1=k)).map (·.2)
noncomputable def putK (kvs:List (κ×V)) (k:κ) (v:V):List (κ×V) :=
 if (kvs.any fun kv=>decide (kv.1=k))=true then kvs.map (fun kv=>if kv.1=k then (kv.1,v) else kv) else kvs++[(k,v)]
noncomputable def iG (kvs:List (κ×V)) (k:κ):List (κ×V):=kvs.filter fun kv=>decide (kv.1≠k)
theorem cR {p:κ×V}{r:List (κ×V)}{k:κ} (e:p.1=k):dr (p::r) k=some p.2:=by simp[dr,List.find?_cons,e]
theorem aS {p:κ×V}{r:List (κ×V)}{k:κ} (e:¬ p.1=k):dr (p::r) k=dr r k:=by simp[dr,List.find?_cons,e]
theorem js (k:κ):∀ kvs:List (κ×V),(kvs.any fun kv=>decide (kv.1=k))=(dr kvs k).isSome
 | []=>rfl
 | p::r=>by
  rw[List.any_cons]
  by_cases e:p.1=k
  ·simp only[cR e,decide_eq_true e,Bool.true_or,Option.isSome_some]
  ·rw[aS e,decide_eq_false e,Bool.false_or];exact js k r
theorem fO (kvs:List (κ×V)) (k:κ) (v:V):(putK kvs k v).length<=kvs.length+1:=by
 unfold putK
 split
 ·rw[List.length_map];omega
 ·rw[List.length_append,List.length_cons,List.length_nil];omega
theorem fU {kvs:List (κ×V)}{k:κ} (v:V) (h:dr kvs k=none):putK kvs k v=kvs++[(k,v)]:=by
 unfold putK;rw[js,h];exact if_neg (by decide)
theorem eQ.iz {o:Option V}{u:Option Value} (r:eQ o u):o.isSome=u.isSome:=by
 cases o with
 | none=>cases u with
  | none=>rfl
  | some _=>exact (show False from r).elim
 | some _=>cases u with
  | none=>exact (show False from r).elim
  | some _=>rfl
theorem eQ.getD {o:Option V}{u:Option Value}{d:V}{d':Value} (r:eQ o u) (rd:RelV d d'):RelV (o.getD d) (u.getD d'):=by
 cases o with
 | none=>cases u with
  | none=>exact rd
  | some _=>exact (show False from r).elim
 | some _=>cases u with
  | none=>exact (show False from r).elim
  | some _=>exact r
theorem KV.val {kvs:List (κ×V)}{vs:List (κ×Value)} (r:KV kvs vs) (k:κ):eQ (dr kvs k) (valueAt vs k):=by
 unfold KV at r
 induction r with
 | nil=>exact True.intro
 | @cons p q ps qs h t ih =>
  obtain⟨h1,h2⟩:=h
  by_cases e:p.1=k
  ·have e':q.1=k:=h1.symm.trans e
   have b:valueAt (q::qs) k=some q.2:=by simp[valueAt,List.find?_cons,e']
   rw[cR e,b];exact h2
  ·have e':¬ q.1=k:=fun z=>e (h1.trans z)
   have b:valueAt (q::qs) k=valueAt qs k:=by simp[valueAt,List.find?_cons,e']
   rw[aS e,b];exact ih
theorem KV.any {kvs:List (κ×V)}{vs:List (κ×Value)} (r:KV kvs vs) (k:κ):(kvs.any fun kv=>decide (kv.1=k))=vs.any fun kv=>decide (kv.1=k):=by
 unfold KV at r
 induction r with
 | nil=>rfl
 | cons h t ih=>rw[List.any_cons,List.any_cons,ih,h.1]
theorem KV.AQ {kvs:List (κ×V)}{vs:List (κ×Value)} (r:KV kvs vs) (k:κ) {y:V}{u:Value} (ry:RelV y u) :
  KV (kvs.map fun kv=>if kv.1=k then (kv.1,y) else kv) (vs.map fun kv=>if kv.1=k then (kv.1,u) else kv):=by
 unfold KV at r ⊢
 induction r with
 | nil=>exact .nil
 | @cons p q ps qs h t ih =>
  rw[List.map_cons,List.map_cons];refine .cons ?_ ih;obtain⟨h1,h2⟩:=h
  by_cases e:p.1=k
  ·rw[if_pos e,if_pos (h1.symm.trans e)];exact⟨h1,ry⟩
  ·rw[if_neg e,if_neg (fun z=>e (h1.trans z))];exact⟨h1,h2⟩
theorem KV.put {kvs:List (κ×V)}{vs:List (κ×Value)} (r:KV kvs vs) (k:κ) {y:V}{u:Value} (ry:RelV y u):KV (putK kvs k y) (stored vs k u):=by
 unfold putK stored;rw[r.any k]
 by_cases e:(vs.any fun kv=>decide (kv.1=k))=true
 ·rw[if_pos e,if_pos e];exact r.AQ k ry
 ·rw[if_neg e,if_neg e];exact Paired.snoc r ⟨rfl,ry⟩
theorem KV.drop {kvs:List (κ×V)}{vs:List (κ×Value)} (r:KV kvs vs) (k:κ):KV (iG kvs k) (without vs k):=by
 unfold KV at r ⊢;unfold iG without
 induction r with
 | nil=>exact .nil
 | @cons p q ps qs h t ih =>
  obtain⟨h1,h2⟩:=h;rw[List.filter_cons,List.filter_cons]
  by_cases e:p.1=k
  ·have a:¬ decide (p.1≠k)=true:=by simp[e]
   have b:¬ decide (q.1≠k)=true:=by simp[h1.symm.trans e]
   rw[if_neg a,if_neg b];exact ih
  ·have e':¬ q.1=k:=fun z=>e (h1.trans z)
   have a:decide (p.1≠k)=true:=by simp[e]
   have b:decide (q.1≠k)=true:=by simp[e']
   rw[if_pos a,if_pos b];exact .cons ⟨h1,h2⟩ ih
theorem KV.length {kvs:List (κ×V)}{vs:List (κ×Value)} (r:KV kvs vs):kvs.length=vs.length:=Paired.length r
theorem wH (kvs:List (κ×V)) (k:κ):(iG kvs k).length<=kvs.length:=List.length_filter_le _ _
end
theorem iM {P:Program}{w:World}{k:Key}{u:Value} (r:RelV (kV k) u):(bf P w).is k u=true:=by
 cases k with
 | inl i=>obtain⟨t,e⟩:=(show ∃ t,u=Value.int i t from r);subst e;exact oE P w i t
 | inr x=>obtain⟨t,e⟩:=(show ∃ t,u=Value.str x t from r);subst e;exact nZ P w x t
theorem kK {P:Program}{w:World}:∀ {ks:List Key}{us:List Value},Vals (ks.map kV) us->ItemsAre (bf P w) ks us
 | [],_,r=>by rw[List.map_nil] at r;cases r;exact .nil
 | k::ks,_,r=>by
  rw[List.map_cons] at r
  cases r with
  | cons h t=>exact .cons (iM h) (kK t)
noncomputable abbrev KT (H:Hp):List (List Key×V)->List (List Key×Addr×Value)->Prop:=Paired fun p q=>p.1=q.1/\H q.2.1=some (.tup (p.1.map kV))/\RelV p.2 q.2.2
theorem KT.val {H:Hp}{kvs:List (List Key×V)}{xs:List (List Key×Addr×Value)} (r:KT H kvs xs) (k:List Key):eQ (dr kvs k) ((atKey xs k).map (·.2)):=by
 induction r with
 | nil=>exact True.intro
 | @cons p q ps qs h t ih =>
  obtain⟨h1,_,h2⟩:=h
  by_cases e:p.1=k
  ·have e':q.1=k:=h1.symm.trans e
   have b:atKey (q::qs) k=some q.2:=by simp[atKey,List.find?_cons,e']
   rw[cR e,b];exact h2
  ·have e':¬ q.1=k:=fun z=>e (h1.trans z)
   have b:atKey (q::qs) k=atKey qs k:=by simp[atKey,List.find?_cons,e']
   rw[aS e,b];exact ih
theorem KT.AQ {H:Hp}{kvs:List (List Key×V)}{xs:List (List Key×Addr×Value)} (r:KT H kvs xs) (k:List Key) {y:V}{u:Value} (ry:RelV y u) :
  KT H (kvs.map fun kv=>if kv.1=k then (kv.1,y) else kv) (xs.map (putAt k u)):=by
 induction r with
 | nil=>exact .nil
 | @cons p q ps qs h t ih =>
  rw[List.map_cons,List.map_cons];refine .cons ?_ ih;obtain⟨h1,h2,h3⟩:=h;unfold putAt
  by_cases e:p.1=k
  ·rw[if_pos e,if_pos (h1.symm.trans e)];exact⟨h1,h2,ry⟩
  ·rw[if_neg e,if_neg (fun z=>e (h1.trans z))];exact⟨h1,h2,h3⟩
theorem KT.put {H:Hp}{kvs:List (List Key×V)}{xs:List (List Key×Addr×Value)} (r:KT H kvs xs) (k:List Key) {b:Addr}{y:V}{u:Value} (hb:H b=some (.tup (k.map kV))) (ry:RelV y u) :
  KT H (putK kvs k y) (storedH xs k b u):=by
 have e:(kvs.any fun kv=>decide (kv.1=k))=(atKey xs k).isSome:=by
  rw[js,(r.val k).iz,Option.isSome_map]
 unfold putK storedH;rw[e]
 by_cases q:(atKey xs k).isSome=true
 ·rw[if_pos q,if_pos q];exact r.AQ k ry
 ·rw[if_neg q,if_neg q];exact Paired.snoc r ⟨rfl,hb,ry⟩
theorem KT.keeps {H H':Hp}{kvs:List (List Key×V)}{xs:List (List Key×Addr×Value)} (r:KT H kvs xs) (ht:∀ b ys,H b=some (.tup ys)->H' b=some (.tup ys)):KT H' kvs xs :=
 Paired.yx r fun _ _ z=>⟨z.1,ht _ _ z.2.1,z.2.2⟩
section
variable {P:Program}{w:World}{H:Hp}{h:Heap}{a:Addr}
theorem yO {u:HO} (ok:fk P w H h) (e:Rd H a u):bG P w H h a u:=e.ok ok
theorem gh {kvs:List (Key×V)} (ok:fk P w H h) (e:Rd H a (.dK kvs)):kvs.length<=sizeLine/\(a == sysModules)=false/\∃ vs,KV kvs vs/\h.DictOf (bf P w) a vs :=
 show bG P w H h a (.dK kvs) from yO ok e
theorem qY {kvs:List (Key×V)} (ok:fk P w H h) (e:H a=some (.dK kvs)):kvs.length<=sizeLine/\(a == sysModules)=false/\∃ vs,KV kvs vs/\h.DictOf (bf P w) a vs:=gh ok (.inl e)
theorem fK {ks:List Key} (ok:fk P w H h) (e:H a=some (.tup (ks.map kV))):(tupleKind (bf P w)).is h ks a:=by
 obtain⟨_,its,r,o,h1,h2,n,h3⟩:=(show bG P w H h a (.tup (ks.map kV)) from ok a _ e);exact⟨o,its.toArray,n,h1,h2,h3,by simpa using kK r⟩
theorem kG {kvs:List (List Key×V)} (ok:fk P w H h) (e:Rd H a (.dT kvs)):kvs.length<=sizeLine/\(a == sysModules)=false /\
  ∃ xs,KT H kvs xs/\h.DictOfH (tupleKind (bf P w)) a xs:=by
 obtain⟨z,y,xs,r,o,es,ep,h1,h2,h3,h4,h5⟩:=(show bG P w H h a (.dT kvs) from yO ok e);refine⟨z,y,xs,r,o,es,ep,h1,h2,h3,h4,fun x hx=>?_,h5⟩;have all:∀ {l:List (List Key×V)}{m:List (List Key×Addr×Value)},KT H l m->∀ x∈m,(tupleKind (bf P w)).is h x.1 x.2.1:=by
  intro l m q
  induction q with
  | nil=>intro x hx;exact nomatch hx
  | @cons p q ps qs hq t ih =>
   intro x hx;rcases List.mem_cons.mp hx with e|hx
   ·subst e
    exact fK ok (by rw[<- hq.1];exact hq.2.1)
   ·exact ih x hx
 exact all r x hx
theorem Dp {kvs:List (List Key×V)} (ok:fk P w H h) (e:H a=some (.dT kvs)):kvs.length<=sizeLine/\(a == sysModules)=false /\
  ∃ xs,KT H kvs xs/\h.DictOfH (tupleKind (bf P w)) a xs:=kG ok (.inl e)
end
noncomputable def bN (H:Hp) (a:Addr) (y:V) (r:Option V):Prop :=
 (∃ kvs k,Rd H a (.dK kvs)/\y=kV k/\r=dr kvs k)\/∃ kvs k b,Rd H a (.dT kvs)/\y=.ref b/\H b=some (.tup (k.map kV))/\r=dr kvs k
noncomputable def mJ (H:Hp) (a:Addr) (y v:V) (H':Hp):Prop :=
 (∃ kvs k,H a=some (.dK kvs)/\y=kV k/\kvs.length<sizeLine/\H'=upd H a (.dK (putK kvs k v))) \/
 ∃ kvs k b,H a=some (.dT kvs)/\y=.ref b/\H b=some (.tup (k.map kV))/\kvs.length<sizeLine/\H'=upd H a (.dT (putK kvs k v))
theorem bN.k {H:Hp}{a:Addr}{kvs:List (Key×V)}{k:Key} (e:H a=some (.dK kvs)):bN H a (kV k) (dr kvs k):=.inl ⟨kvs,k,.inl e,rfl,rfl⟩
theorem mJ.k {H:Hp}{a:Addr}{kvs:List (Key×V)}{k:Key}{v:V} (e:H a=some (.dK kvs)) (hl:kvs.length<sizeLine):mJ H a (kV k) v (upd H a (.dK (putK kvs k v))):=.inl ⟨kvs,k,e,rfl,hl,rfl⟩
section
variable {X:Cx}{pins:List (Addr×Obj)}{σ:St}{H:Hp}{s:Shared}{a:Addr}{y v:V}{u r:Value}{o:Option V}{A:Around}{E:Value->Shared->Prop}
theorem Inv.big (I:Inv X pins σ H s):sysModules<s.heap.objs.size:=by
 have h:mainGlobals<s.heap.objs.size:=(I.mod.glob.keeps I.bk).lt;exact Nat.lt_trans (by decide) h
theorem tM {Q:Value->Shared->Prop} (hu:A.units+1<cLine) (I:Inv X pins σ H s) (g:bN H a y (some v)) (ry:RelV y u) (h:∀ w' s',Inv X pins σ H s'->RelV v w'->Q w' s') :
  wpAny (model X.prog X.w) A (getItem (.ref a) u) Q E s:=by
 rcases g with ⟨kvs,k,e,ey,l⟩|⟨kvs,k,b,e,ey,eb,l⟩
 ·subst ey
  obtain⟨z,hd,vs,rel,dd⟩:=gh I.hok e;obtain⟨w',hw,rw'⟩:=eQ.some_of (v:=v) (o:=valueAt vs k) (by rw[l];exact rel.val k);exact wpAny_getItem_of (iM ry) dd.mapOf hw (h w' _ (I.tok _) rw')
 ·subst ey
  cases (show u=Value.ref b from ry);obtain⟨z,hd,xs,rel,dd⟩:=kG I.hok e;obtain⟨w',hw,rw'⟩:=eQ.some_of (v:=v) (o:=(atKey xs k).map (·.2)) (by rw[l];exact rel.val k);obtain⟨p,hp,hp2⟩:=Option.map_eq_some_iff.mp hw;refine wpAny_getItem_heap (tupleKind_room_in1 hu) (fK I.hok eb) dd hp ?_;rw[hp2];exact h w' _ (I.tok _) rw'
theorem x_ {Q:Value->Shared->Prop} (hu:A.units+1<cLine) (I:Inv X pins σ H s) (g:bN H a y o) (ry:RelV y u) (h:∀ s',Inv X pins σ H s'->Q (.bool (!o.isSome)) s') :
  wpAny (model X.prog X.w) A (compareOp .NotIn u (.ref a)) Q E s:=by
 rcases g with ⟨kvs,k,e,ey,l⟩|⟨kvs,k,b,e,ey,eb,l⟩
 ·subst ey
  obtain⟨z,hd,vs,rel,dd⟩:=gh I.hok e;refine wpAny_notIn_of (iM ry) hd dd.mapOf ?_;rw[<- (rel.val k).iz,<- l];exact h _ (I.tok _)
 ·subst ey
  cases (show u=Value.ref b from ry);obtain⟨z,hd,xs,rel,dd⟩:=kG I.hok e;refine wpAny_notIn_heap (tupleKind_room_in1 hu) (fK I.hok eb) hd dd ?_;have q:=(rel.val k).iz;rw[Option.isSome_map] at q;rw[<- q,<- l];exact h _ (I.tok _)
theorem jd {h':Heap}{t':Nat}{ob:HO} (I:Inv X pins σ H s) (mu:DQ (H a)) (hs:Heap.SameBut a s.heap h') (he:∃ q,h'.get? a=some q) (new:bG X.prog X.w (upd H a ob) h' a ob) :
  Inv X pins σ (upd H a ob) { s with heap:=h',toks:=t' } :=
 I.write (x:=a) (e:=a) mu (.inl rfl) (fun b q hb z=>(hs.2 b hb).trans z) he new
theorem lT {P:Program}{w:World}{H':Hp}{h':Heap}{kvs:List (Key×V)}{vs:List (Key×Value)} (z:kvs.length<=sizeLine) (hd:(a == sysModules)=false) (rel:KV kvs vs) (dd:h'.DictOf (bf P w) a vs) :
  bG P w H' h' a (.dK kvs):=⟨z,hd,vs,rel,dd⟩
theorem tN {H':Hp}{Q:Unit->Shared->Prop} (hu:A.units+1<cLine) (I:Inv X pins σ H s) (g:mJ H a y v H') (ry:RelV y u) (rv:RelV v r) (h:∀ s',Inv X pins σ H' s'->Q () s') :
  wpAny (model X.prog X.w) A (setItem (.ref a) u r) Q E s:=by
 rcases g with ⟨kvs,k,e,ey,l,eH⟩|⟨kvs,k,b,e,ey,eb,l,eH⟩
 ·subst ey eH
  obtain⟨z,hd,vs,rel,dd⟩:=qY I.hok e;have hz:vs.length<=sizeLine:=by rw[<- rel.length];exact z
  have hl:(putK kvs k v).length<=sizeLine:=by have:=fO kvs k v;omega
  refine wpAny_setItem_pairs (hsz:=hz) (iM ry) dd fun h' dd' hs=>h _ ?_;have he:∃ q,h'.get? a=some q:=let ⟨q,_,_,hq,_⟩:=dd';⟨q,hq⟩;exact jd I (by rw[e];exact True.intro) hs he (lT hl hd (rel.put k rv) dd')
 ·subst ey eH
  cases (show u=Value.ref b from ry);obtain⟨z,hd,xs,rel,dd⟩:=Dp I.hok e;have hz:xs.length<=sizeLine:=by rw[<- Paired.length rel];exact z
  have hl:(putK kvs k v).length<=sizeLine:=by have:=fO kvs k v;omega
  refine wpAny_setItem_heap (hsz:=hz) (tupleKind_room_in1 hu) (fK I.hok eb) dd fun h' dd' hs=>h _ ?_;obtain⟨q,es,ep,hq,h2,h3,h4,_,h5⟩:=dd';refine jd I (by rw[e];exact True.intro) hs ⟨q,hq⟩ ⟨hl,hd,_,(rel.put k eb rv).keeps fun c ys ec=>?_,q,es,ep,hq,h2,h3,h4,h5⟩;rw[ah (bV ec e (fun z=>nomatch z))];exact ec
end
section
variable {X:Cx}{pins:List (Addr×Obj)}{σ:St}{H:Hp}{s:Shared}{a:Addr}{kvs:List (Key×V)}{k:Key}{u:Value}{A:Around}{E:Value->Shared->Prop}
theorem zh {v:V}{more:List Value}{Q:Value->Shared->Prop} (I:Inv X pins σ H s) (e:H a=some (.dK kvs)) (ry:RelV (kV k) u) (l:dr kvs k=some v) (hm:more=[]\/∃ x,more=[x])
  (h:∀ w' s',Inv X pins σ (upd H a (.dK (iG kvs k))) s'->RelV v w'->Q w' s'):wpAny (model X.prog X.w) A (call (.builtin "dict.pop") (.ref a::u::more)) Q E s:=by
 obtain⟨z,hd,vs,rel,dd⟩:=qY I.hok e;obtain⟨w',hw,rw'⟩:=eQ.some_of (v:=v) (o:=valueAt vs k) (by rw[<- l];exact rel.val k);have hp:(keyPart u).isSome=true:=by
  cases k with
  | inl i=>obtain⟨t,q⟩:=(show ∃ t,u=Value.int i t from ry);subst q;rfl
  | inr x=>obtain⟨t,q⟩:=(show ∃ t,u=Value.str x t from ry);subst q;rfl
 have ha:argsOk "dict.pop" ⟨.ref a::u::more,[]⟩:=by
  rcases hm with q|⟨x,q⟩
  ·subst q;exact PySem.F.args_dict_pop_2 _ _
  ·subst q;exact PySem.F.args_dict_pop_3 _ _ _
 refine call_meetsIn PySem.F.slot_dict_pop dd.typeIs PySem.F.entry_dict_pop ha (meets_dict_pop_there (bf X.prog X.w) a (iM ry) more hm hp)
  ⟨vs,w',dd,by rw[<- rel.length];exact z,hw,fun h' dd' hs=>h w' _ ?_ rw'⟩
 have he:∃ q,h'.get? a=some q:=let ⟨q,_,_,hq,_⟩:=dd';⟨q,hq⟩;exact jd I (by rw[e];exact True.intro) hs he (lT (Nat.le_trans (wH kvs k) z) hd (rel.drop k) dd')
theorem A4 {r:Value}{Q:Value->Shared->Prop} (I:Inv X pins σ H s) (e:H a=some (.dK kvs)) (ry:RelV (kV k) u) (l:dr kvs k=none) (h:∀ s',Inv X pins σ H s'->Q r s') :
  wpAny (model X.prog X.w) A (call (.builtin "dict.pop") [.ref a,u,r]) Q E s:=by
 obtain⟨z,hd,vs,rel,dd⟩:=qY I.hok e;have hn:valueAt vs k=none:=eQ.none_of (by rw[<- l];exact rel.val k);have hp:(keyPart u).isSome=true:=by
  cases k with
  | inl i=>obtain⟨t,q⟩:=(show ∃ t,u=Value.int i t from ry);subst q;rfl
  | inr x=>obtain⟨t,q⟩:=(show ∃ t,u=Value.str x t from ry);subst q;rfl
 exact call_meetsIn PySem.F.slot_dict_pop dd.typeIs PySem.F.entry_dict_pop (PySem.F.args_dict_pop_3 _ _ _) (meets_dict_pop_default (bf X.prog X.w) a (iM ry) hd hp r) ⟨vs,dd,hn,h _ (I.tok _)⟩
theorem CJ {Q:Value->Shared->Prop} (I:Inv X pins σ H s) (e:Rd H a (.dK kvs)) (h:∀ t s',Inv X pins σ H s'->Q (.int kvs.length t) s'):wpAny (model X.prog X.w) A (call (.builtin "len") [.ref a]) Q E s:=by
 obtain⟨z,hd,vs,rel,dd⟩:=gh I.hok e;refine call_len_dict hd dd (by rw[<- rel.length];rw[sizeLine_eq] at z;omega) ?_;rw[<- rel.length];exact h _ _ (I.tok _)
end
noncomputable def C4 (i:Expr):Prop:=∀ ov iv,subscripted i false ov iv=operate [ov,iv] (getItem ov iv)
theorem xN {prog:Program}{w:World}{A:Around}{E:Value->Shared->Prop}{s:Shared}{env:Env}{value slice:Expr}{pos:Pos}{T id:String}{Q:Value->Shared->Prop}
  (hl:typeLookup (.type T) "__getitem__"=pure (some (.builtin id))) (hs:C4 slice)
  (h:wpAny (model prog w) A (eval value env) (fun o s₁=>wpAny (model prog w) A (eval slice env) (fun i s₂=>s₂.TypeIs o T/\wpAny (model prog w) A (getItem o i) Q E s₂) E s₁) E s) :
  wpAny (model prog w) A (eval (.Subscript value slice pos) env) Q E s:=by
 refine Subscript_ (wpAny_mono h (fun o s₁ h₁=>wpAny_mono h₁ (fun i s₂ h₂=>?_) fun _ _ x=>x) fun _ _ x=>x);obtain⟨hT,h₂⟩:=h₂;unfold subscriptTail;refine wpAny_bind ?_;rw[getitemInPython_of_ne hT.not_modules];refine wpAny_bind (wpAny_specialOf hT hl ?_);have fin:wpAny (model prog w) A (subscripted slice false o i) (fun r s₃=>wpAny (model prog w) A (letTemporaryGo value o r >>= fun _=>pure r) Q E s₃) E s₂:=by
  rw[hs o i];exact wpAny_operating (wpAny_mono h₂ (fun r s₃ h₃=>wpAny_bind (wpAny_letTemporaryGo (wpAny_pure h₃))) fun _ _ x=>x)
 first
  | exact wpAny_pure (wpAny_bind fin)
  | exact wpAny_bind (wpAny_pure (wpAny_bind fin))
  | exact wpAny_bind fin
theorem oX {X:Cx}{pins:List (Addr×Obj)}{σ:St}{H:Hp}{s:Shared}{a:Addr}{y:V}{o:Option V} (I:Inv X pins σ H s) (g:bN H a y o):s.TypeIs (.ref a) "dict":=by
 rcases g with ⟨kvs,k,e,_,_⟩|⟨kvs,k,b,e,_,_,_⟩
 ·obtain⟨_,_,vs,_,dd⟩:=gh I.hok e
  exact dd.typeIs
 ·obtain⟨_,_,xs,_,dd⟩:=kG I.hok e
  exact dd.typeIs
noncomputable def wC (td ty:TE):TE:=fun σ H Q=>td σ H fun x H1=>ty σ H1 fun y H2=>∃ a v,x=.ref a/\bN H2 a y (some v)/\Q v H2
noncomputable def GG (ty td:TE):TE:=fun σ H Q=>ty σ H fun y H1=>td σ H1 fun x H2=>∃ a o,x=.ref a/\bN H2 a y o/\Q (.bl o.isSome) H2
noncomputable def mD (ty td:TE):TE:=fun σ H Q=>ty σ H fun y H1=>td σ H1 fun x H2=>∃ a o,x=.ref a/\bN H2 a y o/\Q (.bl (!o.isSome)) H2
noncomputable def uR (td ty tv:TE):TS:=fun D σ H=>tv σ H fun v H1=>td σ H1 fun x H2=>ty σ H2 fun y H3=>∃ a H4,x=.ref a/\mJ H3 a y v H4/\D.nx σ H4
section
variable {X:Cx}{o i e value:Expr}{pos pos' tpos:Pos}{td ty tv:TE}
theorem bB (hu:X.A.units+1<cLine) (ho:PE X o td) (hi:PE X i ty) (hs:C4 i):PE X (.Subscript o i pos) (wC td ty):=by
 intro pins s σ H Q I h;refine xN PySem.F.slot_dict_getitem.lookup hs (bA (ho pins s σ H _ I h) fun u s1 ⟨x,H1,I1,rx,q1⟩=>bA (hi pins s1 σ H1 _ I1 q1) fun iv s2 ⟨y,H2,I2,ry,a,v,ex,g,q2⟩=>?_);subst ex;obtain rfl:u=Value.ref a:=rx;exact⟨oX I2 g,tM hu I2 g ry fun w' s3 I3 rw'=>⟨v,H2,I3,rw',q2⟩⟩
theorem tZ (hu:X.A.units+1<cLine) (hi:PE X i ty) (ho:PE X o td):PC X .NotIn i o (mD ty td):=by
 intro pins s σ H Q I h;refine bA (hi pins s σ H _ I h) fun iv s1 ⟨y,H1,I1,ry,q1⟩=>bA (ho pins s1 σ H1 _ I1 q1) fun u s2 ⟨x,H2,I2,rx,a,ov,ex,g,q2⟩=>?_;subst ex;obtain rfl:u=Value.ref a:=rx;exact x_ hu I2 g ry fun s3 I3=>⟨.bl (!ov.isSome),H2,I3,rfl,q2⟩
theorem gF (hu:X.A.units+1<cLine) (ho:PE X o td) (hi:PE X i ty) (hv:PE X value tv) (hs:swapsWith value (some (.Subscript o i pos')) pos.line X.env=pure false) :
  PS X (.Assign [.Subscript o i pos'] value pos) (uR td ty tv):=by
 intro pins s σ H D I h;refine wpAny_Assign_Subscript (bA (hv pins s σ H _ I h) fun r s1 ⟨v,H1,I1,rv,q1⟩=>bA (ho pins s1 σ H1 _ I1 q1) fun u s2 ⟨x,H2,I2,rx,q2⟩=>bA (hi pins s2 σ H2 _ I2 q2) fun iv s3 ⟨y,H3,I3,ry,a,H4,ex,g,q3⟩=>?_) hs;subst ex;obtain rfl:u=Value.ref a:=rx;exact tN hu I3 g ry rv fun s4 I4=>⟨σ,H4,I4,q3⟩
end
theorem oY {P:Program}{w:World}{H:Hp} (h:Heap) (hb:sysModules<h.objs.size):bG P w H (h.push { cls:=.type "dict",data:=.dict #[] }) h.objs.size (.dK []) :=
 ⟨Nat.zero_le _,beq_eq_false_iff_ne.mpr (Ne.symm (Nat.ne_of_lt hb)),[],.nil,Heap.DictOf.new h⟩
noncomputable def pK:TE:=fun _ H Q=>∀ p,H p=none->Q (.ref p) (upd H p (.dK []))
section
variable {X:Cx}{pos:Pos}
theorem gP:PE X (.Dict [] [] pos) pK:=fun pins s σ H Q I h =>
 wpAny_Dict_empty ⟨.ref s.heap.objs.size,_,I.laid (a:=s.heap.objs.size) (o:=.dK []) (t':=s.toks) (fun _ _ q=>Heap.get?_push_of_some _ q) (Nat.le_refl _) (oY s.heap I.big),rfl,h _ (I.hok.fresh (Nat.le_refl _))⟩
end
noncomputable def jU:List (TE×TE)->St->Hp->(List (V×V)->Hp->Prop)->Prop
 | [],_,H,Q=>Q [] H
 | (tk,tv)::r,σ,H,Q=>tk σ H fun x H1=>tv σ H1 fun y H2=>jU r σ H2 fun ps H3=>Q ((x,y)::ps) H3
noncomputable abbrev VV:List (V×V)->List (Value×Value)->Prop:=Paired fun p q=>RelV p.1 q.1/\RelV p.2 q.2
noncomputable def Et (X:Cx) (pos:Pos) (keys:List (Option Expr)) (values:List Expr) (trs:List (TE×TE)):Prop :=
 ∀ (pins:List (Addr×Obj)) (s:Shared) (σ:St) (H:Hp) (Q:List (V×V)->Hp->Prop),Inv X pins σ H s->jU trs σ H Q ->
  wpAny (model X.prog X.w) X.A (evalPairs (pairTrees keys values X.env pos)) (fun vs s'=>∃ ps H',Inv X pins σ H' s'/\VV ps vs/\Q ps H') X.xe s
theorem xt {X:Cx}{pos:Pos}:Et X pos [] [] []:=fun pins s σ H Q I h=>pairTrees_nil_walk ⟨[],H,I,.nil,h⟩
theorem fS {X:Cx}{pos:Pos}{k v:Expr}{ks:List (Option Expr)}{vs:List Expr}{tk tv:TE}{trs:List (TE×TE)} (hk:PE X k tk) (hv:PE X v tv) (hr:Et X pos ks vs trs) :
  Et X pos (some k::ks) (v::vs) ((tk,tv)::trs):=fun pins s σ H Q I h =>
 pairTrees_cons_walk (bA (hk pins s σ H _ I h) fun u s1 ⟨x,H1,I1,rx,q1⟩=>bA (hv pins s1 σ H1 _ I1 q1) fun w2 s2 ⟨y,H2,I2,ry,q2⟩ =>
  bA (hr pins s2 σ H2 _ I2 q2) fun ws s3 ⟨ps,H3,I3,rel,q3⟩=>⟨(x,y)::ps,H3,I3,.cons ⟨rx,ry⟩ rel,q3⟩)
noncomputable def gz (kvs more:List (Key×V)):List (Key×V):=more.foldl (fun acc kv=>putK acc kv.1 kv.2) kvs
theorem KV.merge:∀ {more:List (Key×V)}{rs:List (Key×Value)}{kvs:List (Key×V)}{vs:List (Key×Value)},KV more rs->KV kvs vs->KV (gz kvs more) (merged vs rs):=by
 intro more rs kvs vs r;unfold KV at r
 induction r generalizing kvs vs with
 | nil=>intro q;exact q
 | @cons p q ps qs h t ih =>
  intro r0;have e:KV (putK kvs p.1 p.2) (stored vs q.1 q.2):=by
   have:=r0.put p.1 h.2;rw[<- h.1];exact this
  exact ih e
theorem gk:∀ (more kvs:List (Key×V)),(gz kvs more).length<=kvs.length+more.length
 | [],kvs=>by show kvs.length<=kvs.length+0;omega
 | p::r,kvs=>by
  have h1:=gk r (putK kvs p.1 p.2);have h2:=fO kvs p.1 p.2;show (gz (putK kvs p.1 p.2) r).length<=_;rw[List.length_cons];omega
theorem jC {P:Program}{w:World}:∀ {kvs:List (Key×V)}{ws:List (Value×Value)},VV (kvs.map fun kv=>(kV kv.1,kv.2)) ws->∃ rs,Carries (bf P w) ws rs/\KV kvs rs
 | [],_,r=>by rw[List.map_nil] at r;cases r;exact⟨[],True.intro,.nil⟩
 | p::kvs,_,r=>by
  rw[List.map_cons] at r
  cases r with
  | @cons a b as bs h t =>
   obtain⟨rs,c,q⟩:=jC (P:=P) (w:=w) t;obtain⟨b1,b2⟩:=b;exact⟨(p.1,b2)::rs,⟨iM h.1,rfl,c⟩,.cons ⟨rfl,h.2⟩ q⟩
noncomputable def vi (trs:List (TE×TE)):TE:=fun σ H Q=>∀ p,H p=none->jU trs σ (upd H p (.dK [])) fun ps H2=>H2 p=some (.dK [])/\∃ kvs:List (Key×V),ps=kvs.map (fun kv=>(kV kv.1,kv.2))/\kvs.length<=15/\Q (.ref p) (upd H2 p (.dK (gz [] kvs)))
theorem xq {X:Cx}{pos:Pos}{keys:List (Option Expr)}{values:List Expr}{trs:List (TE×TE)} (h:Et X pos keys values trs) (hall:keys.all (·.isSome)=true) (hl:keys.length=values.length) (h0:keys≠[])
  (h15:keys.length<=15):PE X (.Dict keys values pos) (vi trs):=by
 intro pins s σ H Q I q;have hn:=I.hok.fresh (Nat.le_refl s.heap.objs.size);have I1:=I.laid (a:=s.heap.objs.size) (o:=.dK []) (h':=s.heap.push { cls:=.type "dict",data:=.dict #[] }) (t':=s.toks) (fun _ _ q=>Heap.get?_push_of_some _ q) (Nat.le_refl _) (oY s.heap I.big);refine wpAny_Dict_walk (knd:=bf X.prog X.w) hall hl h0 h15 (bA (h pins _ σ _ _ I1 (q _ hn)) fun ws s2 ⟨ps,H2,I2,rel,e,kvs,ep,lk,q2⟩=>?_);subst ep;obtain⟨rs,c,rk⟩:=jC (P:=X.prog) (w:=X.w) rel;obtain⟨z,hd,vs0,r0,dd⟩:=qY I2.hok e
 cases r0;refine⟨rs,c,dd,fun h' dd' hs=>⟨.ref s.heap.objs.size,_,?_,rfl,q2⟩⟩;have hz:(gz [] kvs).length<=sizeLine:=by
  have h1:=gk kvs [];rw[List.length_nil] at h1;rw[sizeLine_eq];omega
 have he:∃ q,h'.get? s.heap.objs.size=some q:=let ⟨q,_,_,hq,_⟩:=dd';⟨q,hq⟩;exact jd I2 (by rw[e];exact True.intro) hs he (lT hz hd (rk.merge .nil) dd')
structure M1 (X:Cx) (o:Expr) (m:Str) (apos:Pos) (e:Expr) (cpos:Pos):Prop where
 base:attributeBase o m X.env (eval o X.env)=eval o X.env
 few:((backTo cpos (starEach [e] X.env)).all (fun x=>!x.1) && (backToKw cpos (keywordEach [] X.env)).all (fun x=>x.1.isSome)
  && decide (([e]:List Expr).length+([]:List Keyword).length+(if ([]:List Keyword).isEmpty then 0 else 1)<30))=true
 line:(apos.endLine == cpos.line)=true
 trees:backTo cpos (starEach [e] X.env)=[(false,eval e X.env)]
structure M2 (X:Cx) (o:Expr) (m:Str) (apos:Pos) (e f:Expr) (cpos:Pos):Prop where
 base:attributeBase o m X.env (eval o X.env)=eval o X.env
 few:((backTo cpos (starEach [e,f] X.env)).all (fun x=>!x.1) && (backToKw cpos (keywordEach [] X.env)).all (fun x=>x.1.isSome)
  && decide (([e,f]:List Expr).length+([]:List Keyword).length+(if ([]:List Keyword).isEmpty then 0 else 1)<30))=true
 line:(apos.endLine == cpos.line)=true
 trees:backTo cpos (starEach [e,f] X.env)=[(false,eval e X.env),(false,eval f X.env)]
noncomputable def ET (H:Hp) (a:Addr):Prop:=(∃ kvs,Rd H a (.dK kvs))\/∃ kvs,Rd H a (.dT kvs)
theorem qd {X:Cx}{pins:List (Addr×Obj)}{σ:St}{H:Hp}{s:Shared}{a:Addr} (I:Inv X pins σ H s) (d:ET H a) :
  s.TypeIs (.ref a) "dict"/\(∀ b,Value.ref a=.ref b->∃ ob,s.heap.get? b=some ob/\ob.dict=none)/\(a == sysModules)=false:=by
 rcases d with ⟨kvs,e⟩|⟨kvs,e⟩
 ·obtain⟨_,hd,vs,_,dd⟩:=gh I.hok e
  refine⟨dd.typeIs,fun b q=>?_,hd⟩
  cases q;obtain⟨ob,_,_,h1,h2,_⟩:=dd;exact⟨ob,h1,h2.2.1⟩
 ·obtain⟨_,hd,xs,_,dd⟩:=kG I.hok e
  refine⟨dd.typeIs,fun b q=>?_,hd⟩
  cases q;obtain⟨ob,_,_,h1,h2,_⟩:=dd;exact⟨ob,h1,h2.2.1⟩
section
variable {X:Cx}{pins:List (Addr×Obj)}{σ:St}{H:Hp}{s:Shared}{a:Addr}{y d:V}{u r:Value}{o:Option V}{A:Around}{E:Value->Shared->Prop}
theorem BA {Q:Value->Shared->Prop} (hu:A.units+1<cLine) (I:Inv X pins σ H s) (g:bN H a y o) (ry:RelV y u) (h:∀ w' s',Inv X pins σ H s'->RelV (o.getD .non) w'->Q w' s') :
  wpAny (model X.prog X.w) A (call (.builtin "dict.get") [.ref a,u]) Q E s:=by
 rcases g with ⟨kvs,k,e,ey,l⟩|⟨kvs,k,b,e,ey,eb,l⟩
 ·subst ey
  obtain⟨z,hd,vs,rel,dd⟩:=gh I.hok e;refine call_meetsIn PySem.F.slot_dict_get dd.typeIs PySem.F.entry_dict_get (PySem.F.args_dict_get_2 _ _) (meets_dict_get (bf X.prog X.w) a (iM ry) hd) ⟨_,dd.mapOf,h _ _ (I.tok _) ?_⟩;rw[l];exact (rel.val k).getD rfl
 ·subst ey
  cases (show u=Value.ref b from ry);obtain⟨z,hd,xs,rel,dd⟩:=kG I.hok e;refine call_meetsIn PySem.F.slot_dict_get dd.typeIs PySem.F.entry_dict_get (PySem.F.args_dict_get_2 _ _) (meetsH_dict_get (tupleKind (bf X.prog X.w)) a b hd) ⟨tupleKind_room_in1 hu,k,xs,fK I.hok eb,dd,h _ _ (I.tok _) ?_⟩;rw[l];exact (rel.val k).getD rfl
end
noncomputable def qU (td ty:TE):TE:=fun σ H Q=>td σ H fun x H1=>∃ a,x=.ref a/\ET H1 a/\ty σ H1 fun y H2=>∃ o,bN H2 a y o/\Q (o.getD .non) H2
noncomputable def qu (td ty:TE):TE:=fun σ H Q=>td σ H fun x H1=>∃ a,x=.ref a/\ET H1 a/\ty σ H1 fun y H2=>∃ kvs k v,H2 a=some (.dK kvs)/\y=kV k/\dr kvs k=some v/\Q v (upd H2 a (.dK (iG kvs k)))
noncomputable def vO (td ty tx:TE):TE:=fun σ H Q=>td σ H fun x H1=>∃ a,x=.ref a/\ET H1 a/\ty σ H1 fun y H2=>tx σ H2 fun z H3=>∃ kvs k,H3 a=some (.dK kvs)/\y=kV k /\
 (∀ v,dr kvs k=some v->Q v (upd H3 a (.dK (iG kvs k))))/\(dr kvs k=none->Q z H3)
section
variable {X:Cx}{o e f:Expr}{apos cpos:Pos}{td ty tx:TE}
theorem b_ (hu:X.A.units+1<cLine) (ho:PE X o td) (he:PE X e ty) (m:M1 X o "get" apos e cpos):PE X (.Call (.Attribute o "get" apos) [e] [] cpos) (qU td ty):=by
 intro pins s σ H Q I h;refine wpAny_Call_method m.base m.few m.line PySem.F.plainAttrs_dict PySem.F.slot_dict_get PySem.F.type_dict_get (bA (ho pins s σ H _ I h) fun u s1 ⟨x,H1,I1,rx,a,ex,d,q1⟩=>?_);subst ex;obtain rfl:u=Value.ref a:=rx;obtain⟨t1,t2,_⟩:=qd I1 d;refine⟨t1,t2,?_⟩;rw[m.trees];refine Calls.callWith_builtin rfl (Calls.evalArgs_plain (Calls.spliced_cons (bA (he pins s1 σ H1 _ I1 q1) fun iv s2 ⟨y,H2,I2,ry,ov,g,q2⟩=>Calls.spliced_nil ?_)));exact BA hu I2 g ry fun w' s3 I3 rw'=>⟨_,H2,I3,rw',q2⟩
theorem ot (ho:PE X o td) (he:PE X e ty) (m:M1 X o "pop" apos e cpos):PE X (.Call (.Attribute o "pop" apos) [e] [] cpos) (qu td ty):=by
 intro pins s σ H Q I h;refine wpAny_Call_method m.base m.few m.line PySem.F.plainAttrs_dict PySem.F.slot_dict_pop PySem.F.type_dict_pop (bA (ho pins s σ H _ I h) fun u s1 ⟨x,H1,I1,rx,a,ex,d,q1⟩=>?_);subst ex;obtain rfl:u=Value.ref a:=rx;obtain⟨t1,t2,_⟩:=qd I1 d;refine⟨t1,t2,?_⟩;rw[m.trees];refine Calls.callWith_builtin rfl (Calls.evalArgs_plain (Calls.spliced_cons (bA (he pins s1 σ H1 _ I1 q1) fun iv s2 ⟨y,H2,I2,ry,kvs,k,v,ea,ey,l,q2⟩=>Calls.spliced_nil ?_)));subst ey;exact zh I2 ea ry l (.inl rfl) fun w' s3 I3 rw'=>⟨v,_,I3,rw',q2⟩
theorem vj (ho:PE X o td) (he:PE X e ty) (hf:PE X f tx) (m:M2 X o "pop" apos e f cpos):PE X (.Call (.Attribute o "pop" apos) [e,f] [] cpos) (vO td ty tx):=by
 intro pins s σ H Q I h;refine wpAny_Call_method m.base m.few m.line PySem.F.plainAttrs_dict PySem.F.slot_dict_pop PySem.F.type_dict_pop (bA (ho pins s σ H _ I h) fun u s1 ⟨x,H1,I1,rx,a,ex,d,q1⟩=>?_);subst ex;obtain rfl:u=Value.ref a:=rx;obtain⟨t1,t2,_⟩:=qd I1 d;refine⟨t1,t2,?_⟩;rw[m.trees];refine Calls.callWith_builtin rfl (Calls.evalArgs_plain (Calls.spliced_cons (bA (he pins s1 σ H1 _ I1 q1) fun iv s2 ⟨y,H2,I2,ry,q2⟩ =>
  Calls.spliced_cons (bA (hf pins s2 σ H2 _ I2 q2) fun fv s3 ⟨z,H3,I3,rz,kvs,k,ea,ey,q3,q4⟩=>Calls.spliced_nil ?_))))
 subst ey
 cases l:dr kvs k with
 | some v=>exact zh I3 ea ry l (.inr ⟨fv,rfl⟩) fun w' s4 I4 rw'=>⟨v,_,I4,rw',q3 v l⟩
 | none=>exact A4 I3 ea ry l fun s4 I4=>⟨z,H3,I4,rz,q4 l⟩
end
section
variable {X:Cx}{pins:List (Addr×Obj)}{σ:St}{H:Hp}{s:Shared}{a:Addr}{kvs:List (Key×V)}{A:Around}{E:Value->Shared->Prop}
theorem v_ {Q:Value->Shared->Prop} (I:Inv X pins σ H s) (e:Rd H a (.dK kvs)) (h:∀ p s',H p=none->Inv X pins σ (upd H p (.dK kvs)) s'->Q (.ref p) s'):wpAny (model X.prog X.w) A (call (.type "dict") [.ref a]) Q E s:=by
 obtain⟨z,hd,vs,rel,dd⟩:=gh I.hok e;refine kt_call_dict hd dd (by rw[<- rel.length];exact z) fun h' dd' hs=>?_;refine h _ _ (I.hok.fresh (Nat.le_refl _)) (I.laid (a:=s.heap.objs.size) (o:=.dK kvs) (t':=s.toks) (fun b q hq=>?_) (Nat.le_refl _) (lT z (beq_eq_false_iff_ne.mpr (Ne.symm (Nat.ne_of_lt I.big))) rel dd'));exact (hs.2 b (Nat.ne_of_lt (Heap.lt_size hq))).trans (Heap.get?_push_of_some _ hq)
end
section
variable {X:Cx}{pins:List (Addr×Obj)}{σ:St}{H:Hp}{s:Shared}{a:Addr}{y:V}{u:Value}{A:Around}{E:Value->Shared->Prop}
end
end L2
namespace HT
open PySem PyProof.Rows
section
open PySem.SeqAt
open PySem.AutoSeq1 (wpAny_loadPart')
open PySem.MeetsSeq PySem.MeetsSeq2 PySem.MeetsSeq3
end
section
variable {prog:Program}{w:World}{A:Around}{E:Value->Shared->Prop}{s:Shared}
noncomputable def cG (n d:Nat):Option Int->Nat
 | none=>d
 | some v=>if v<0 then (v+(n:Int)).toNat else min v.toNat n
theorem vV (n d:Nat):cG n d none=d:=rfl
theorem yM (n d k:Nat):cG n d (some (k:Int))=min k n:=by
 show (if (k:Int)<0 then ((k:Int)+(n:Int)).toNat else min (k:Int).toNat n)=min k n;rw[if_neg (by omega),Int.toNat_natCast]
theorem AO (n d:Nat) (hd:d<=n) (o:Option Int):cG n d o<=n:=by
 cases o with
 | none=>exact hd
 | some v =>
  show (if v<0 then (v+(n:Int)).toNat else min v.toNat n)<=n
  by_cases hv:v<0
  ·rw[if_pos hv];omega
  ·rw[if_neg hv];exact Nat.min_le_right _ _
theorem rH (v:Int) (n d:Nat):(if v<0 then max (v+(n:Int)) 0 else min v (n:Int))=((cG n d (some v):Nat):Int):=by
 show (if v<0 then max (v+(n:Int)) 0 else min v (n:Int))=(((if v<0 then (v+(n:Int)).toNat else min v.toNat n):Nat):Int)
 by_cases hv:v<0
 ·simp only[if_pos hv];omega
 ·simp only[if_neg hv];omega
theorem qN (lo hi:Option Int) (n:Nat):Builtin.Slice.sliceAdjust lo hi 1 (n:Int)=(((cG n 0 lo:Nat):Int),((cG n n hi:Nat):Int)):=by
 have h1:¬ ((1:Int)<0):=by omega
 unfold Builtin.Slice.sliceAdjust;simp only[h1,if_false];refine Prod.ext ?_ ?_
 ·cases lo with
  | none=>rfl
  | some v=>exact rH v n 0
 ·cases hi with
  | none=>rfl
  | some v=>exact rH v n n
theorem qI (i j:Nat):Builtin.Slice.slicePlaces (i:Int) (j:Int) 1=j - i:=by
 unfold Builtin.Slice.slicePlaces;have h1:(1:Int) > 0:=by omega
 simp only[h1,if_true,Int.ediv_one]
 split <;> omega
theorem jV {v:Value}{o:Option Int}{Q:Option Int->Shared->Prop} (p:IsPart v o) (h:Q o s):wpAny (model prog w) A (Builtin.Slice.slicePartIndex v) Q E s:=by
 cases p with
 | none=>exact slicePart_none h
 | int i t=>exact slicePart_int h
theorem iq {sl:Addr}{vl vu:Value}{lo hi:Option Int}{n:Nat}{Q:Int×Int×Nat->Shared->Prop} (hs:s.heap.IsSliceOf sl vl vu .none) (pl:IsPart vl lo) (pu:IsPart vu hi)
  (h:Q (((cG n 0 lo:Nat):Int),1,cG n n hi - cG n 0 lo) s):wpAny (model prog w) A (Builtin.Slice.sliceApplied (.ref sl) (pure (n:Int))) Q E s:=by
 obtain⟨os,hos,hcs,hds⟩:=id hs;unfold Builtin.Slice.sliceApplied Builtin.Slice.sliceFields;refine wpAny_bind (wpAny_bind (wpAny_field hos hds (x:=vl) rfl (wpAny_bind (wpAny_field hos hds (x:=vu) rfl (wpAny_bind (wpAny_field hos hds (x:=.none) rfl (wpAny_pure ?_)))))));refine wpAny_bind (slicePart_none ?_);show wpAny _ _ (if ((1:Int) == 0)=true then _ else _) _ _ s;rw[if_neg (by decide)];refine wpAny_bind (jV pl (wpAny_bind (jV pu (wpAny_bind (wpAny_pure ?_)))));show wpAny _ _ (match Builtin.Slice.sliceAdjust lo hi 1 (n:Int) with|(lo,hi)=>pure (lo,(1:Int),Builtin.Slice.slicePlaces lo hi 1)) _ _ s;rw[qN lo hi n];show wpAny _ _ (pure (((cG n 0 lo:Nat):Int),(1:Int),Builtin.Slice.slicePlaces ((cG n 0 lo:Nat):Int) ((cG n n hi:Nat):Int) 1)) _ _ s;rw[qI];exact wpAny_pure h
theorem wW (xs:Array Value) (i k:Nat):((List.range k).filterMap fun (m:Nat)=>xs[((i:Int)+(m:Int) * 1).toNat]?).toArray=((xs.toList.drop i).take k).toArray:=by
 have e:(fun (m:Nat)=>xs[((i:Int)+(m:Int) * 1).toNat]?)=fun m=>xs[i+m]?:=by
  funext m
  have:((i:Int)+(m:Int) * 1).toNat=i+m:=by omega
  rw[this]
 rw[e];have:=pick_run xs i k;rw[List.filterMap_map] at this;have e2:((fun x=>xs[x]?) ∘ fun x=>i+x)=fun m=>xs[i+m]?:=rfl;rw[e2] at this;rw[this]
theorem gU {t sl:Addr}{items:Array Value}{vl vu:Value}{lo hi:Option Int}{Q:Value->Shared->Prop} (ht:IsTup s.heap t items) (hs:s.heap.IsSliceOf sl vl vu .none) (pl:IsPart vl lo) (pu:IsPart vu hi)
  (hw:¬ (cG items.size 0 lo=0/\cG items.size items.size hi=items.size))
  (h:Q (.ref s.heap.objs.size) { s with heap:=s.heap.push { cls:=.type "tuple",data:=.seq ((items.toList.drop (cG items.size 0 lo)).take (cG items.size items.size hi - cG items.size 0 lo)).toArray } })
  (hsz:items.size<=sizeLine):wpAny (model prog w) A (getItem (.ref t) (.ref sl)) Q E s:=by
 have htake:sizeOk (.seq ((items.toList.drop (cG items.size 0 lo)).take (cG items.size items.size hi - cG items.size 0 lo)).toArray):=by
  show ((items.toList.drop (cG items.size 0 lo)).take (cG items.size items.size hi - cG items.size 0 lo)).toArray.size<=sizeLine;rw[List.size_toArray,List.length_take,List.length_drop,Array.length_toList];omega
 have hj:cG items.size items.size hi<=items.size:=AO _ _ (Nat.le_refl _) hi;obtain⟨os,hos,hcs,hds⟩:=id hs;have hTs:s.TypeIs (.ref sl) "slice":=⟨os,hos,hcs⟩;unfold getItem
 try with_reducible refine wpAny_holding ?_
 first|refine wpAny_bind (wpAny_pure ?_)|skip
 refine wpAny_bind (wpAny_sequenceKey ht.typeIs (by decide) ?_);refine wpAny_bind (wpAny_callSpecial?_slot (name:=Str.ofString "__getitem__") ht.typeIs PyProof.Rows.slot_tuple_getitem
  (wpAny_call_entry PyProof.Rows.slot_tuple_getitem ht.typeIs entry_tuple_getitem ?_ (args_tuple_getitem _ _)))
 show wpAny _ _ (Builtin.Tuple.tupleItemsOf (.ref t) >>= _) _ _ s;refine wpAny_bind (tupleItemsOf_ ht ?_);refine wpAny_bind (wpAny_typeOf hTs ?_);rw[if_pos (by decide)];refine wpAny_bind (iq hs pl pu ?_);have hno:¬ ((((cG items.size 0 lo:Nat):Int) == 0 && (1:Int) == 1 && (cG items.size items.size hi - cG items.size 0 lo) == items.size)=true):=by
  intro q;rw[Bool.and_eq_true,Bool.and_eq_true] at q;have q1:((cG items.size 0 lo:Nat):Int)=0:=eq_of_beq q.1.1;have q2:cG items.size items.size hi - cG items.size 0 lo=items.size:=eq_of_beq q.2;exact hw ⟨by omega,by omega⟩
 show wpAny _ _ (if (((cG items.size 0 lo:Nat):Int) == 0 && (1:Int) == 1 && (cG items.size items.size hi - cG items.size 0 lo) == items.size)=true then _ else _) _ _ s;rw[if_neg hno,wW]
 first
  | exact wpAny_bind (m:=Builtin.Tuple.tupleExact _) (wpAny_newObj_type (wpAny_pure ⟨_,rfl,wpAny_pure h⟩) htake)
  | exact wpAny_bind (m:=Builtin.Tuple.tupleExact _) (wpAny_newObj_type (wpAny_bind (wpAny_pure (wpAny_pure ⟨_,rfl,wpAny_pure h⟩))) htake)
  | exact wpAny_bind (wpAny_bind (m:=Builtin.Tuple.tupleExact _) (wpAny_newObj_type (wpAny_pure (wpAny_pure ⟨_,rfl,wpAny_pure h⟩)) htake))
  | exact wpAny_bind (wpAny_bind (m:=Builtin.Tuple.tupleExact _) (wpAny_newObj_type (wpAny_pure ⟨_,rfl,wpAny_pure h⟩) htake))
end
end HT
namespace L2
open PySem PySem.Spec PyProof.Rows
noncomputable abbrev TO:=St->Hp->(Option Int->Hp->Prop)->Prop
noncomputable def PO (X:Cx) (e:Option Expr) (t:TO):Prop :=
 ∀ (pins:List (Addr×Obj)) (s:Shared) (σ:St) (H:Hp) (Q:Option Int->Hp->Prop),Inv X pins σ H s->t σ H Q ->
  wpAny (model X.prog X.w) X.A (evalPart e X.env) (fun u s'=>∃ o H',Inv X pins σ H' s'/\IsPart u o/\Q o H') X.xe s
noncomputable def mi:TO:=fun _ H Q=>Q none H
noncomputable def vy (t:TE):TO:=fun σ H Q=>t σ H fun x H1=>∃ i,x=.int i/\Q (some i) H1
section
variable {X:Cx}{e:Expr}{te:TE}{lo hi:Option Expr}{tl th:TO}{pos p2:Pos}
theorem fj:PO X none mi:=by
 intro pins s σ H Q I h;rw[evalPart_none];exact wpAny_pure ⟨none,H,I,.none,h⟩
theorem fh (h:PE X e te):PO X (some e) (vy te):=by
 intro pins s σ H Q I hw;rw[evalPart_some];refine bA (h pins s σ H _ I hw) fun u s1 ⟨x,H1,I1,r1,q1⟩=>?_;obtain⟨i,rfl,q⟩:=q1;obtain⟨t,rfl⟩:=r1;exact⟨some i,H1,I1,.int i t,q⟩
noncomputable def Co (X:Cx) (r:V->Option Int->Option Int->Hp->VK->Prop):Prop :=
 ∀ (pins:List (Addr×Obj)) (s:Shared) (σ:St) (H:Hp) (x:V) (v vl vu:Value) (lo hi:Option Int) (sl:Addr) (Q:VK),Inv X pins σ H s->RelV x v->s.heap.IsSliceOf sl vl vu .none->IsPart vl lo->IsPart vu hi->r x lo hi H Q ->
  ∃ T id,typeLookup (.type T) "__getitem__"=pure (some (.builtin id))/\s.TypeIs v T/\wpAny (model X.prog X.w) X.A (getItem v (.ref sl)) (EP X pins σ Q) X.xe s
noncomputable def GO (r:V->Option Int->Option Int->Hp->VK->Prop) (te:TE) (tl th:TO):TE:=fun σ H Q=>te σ H fun x H1=>tl σ H1 fun l H2=>th σ H2 fun u H3=>r x l u H3 Q
theorem dM {r:V->Option Int->Option Int->Hp->VK->Prop} (hr:Co X r) (he:PE X e te) (hl:PO X lo tl) (hu:PO X hi th):PE X (.Subscript e (.Slice lo hi none p2) pos) (GO r te tl th):=by
 intro pins s σ H Q I h;refine Subscript_ (bA (he pins s σ H _ I h) fun v s1 ⟨x,H1,I1,r1,q1⟩=>?_);refine wpAny_Slice (bA (hl pins s1 σ H1 _ I1 q1) fun vl s2 ⟨l,H2,I2,pl,q2⟩=>bA (hu pins s2 σ H2 _ I2 q2) fun vu s3 ⟨u,H3,I3,pu,q3⟩=>?_);rw[evalPart_none];refine wpAny_pure ?_;have I4:Inv X pins σ H3 { s3 with heap:=s3.heap.push { cls:=.type "slice",data:=.fields #[vl,vu,.none] } }:=I3.kept (t':=s3.toks) fun b ob q=>Heap.get?_push_of_some _ q;obtain⟨T,id,hT,ht,hg⟩:=hr pins { s3 with heap:=s3.heap.push { cls:=.type "slice",data:=.fields #[vl,vu,.none] } } σ H3 x v vl vu l u s3.heap.objs.size Q I4 r1 (Heap.IsSliceOf.new ..) pl pu q3;show wpAny (model X.prog X.w) X.A (subscriptTail e (.Slice lo hi none p2) v (.ref s3.heap.objs.size)) (EP X pins σ Q) X.xe { s3 with heap:=s3.heap.push { cls:=.type "slice",data:=.fields #[vl,vu,.none] } };exact tail_any (ops:=[.ref s3.heap.objs.size,v]) ht hT hg (by with_unfolding_all rfl)
noncomputable def iT (xs:List V) (lo hi:Option Int):List V:=(xs.drop (HT.cG xs.length 0 lo)).take (HT.cG xs.length xs.length hi - HT.cG xs.length 0 lo)
theorem iE (xs:List V) (lo hi:Option Int):(iT xs lo hi).length<=xs.length:=by
 unfold iT;rw[List.length_take,List.length_drop];omega
noncomputable def B5 (K:PySem.W.Frag):V->Option Int->Option Int->Hp->VK->Prop:=fun x lo hi H Q=>∃ a xs,x=.ref a/\cE K H a xs /\
 ¬ (HT.cG xs.length 0 lo=0/\HT.cG xs.length xs.length hi=xs.length)/\∀ p,H p=none->Q (.ref p) (upd H p (.tup (iT xs lo hi)))
theorem Ah:Co X (B5 X.K):=by
 intro pins s σ H x v vl vu lo hi sl Q I rx hs pl pu h;obtain⟨a,xs,rfl,hx,hw,q⟩:=h
 cases rx;obtain⟨its,r,ht,hz⟩:=I.tuple hx;have hlen:its.toArray.size=xs.length:=by rw[List.size_toArray];exact r.length.symm
 refine⟨"tuple",_,PyProof.Rows.slot_tuple_getitem.lookup,ht.typeIs,?_⟩;refine HT.gU ht hs pl pu (by rw[hlen];exact hw) ?_ (by rw[hlen];exact hz);rw[hlen];refine⟨.ref s.heap.objs.size,_,I.laid (t':=s.toks) (o:=.tup (iT xs lo hi)) (fun b ob q=>Heap.get?_push_of_some _ q) (Nat.le_refl _) ?_,rfl,q _ (I.hok.fresh (Nat.le_refl _))⟩;exact⟨Nat.le_trans (iE xs lo hi) hz,_,(r.drop (HT.cG xs.length 0 lo)).take (HT.cG xs.length xs.length hi - HT.cG xs.length 0 lo),IsTup.new _ _⟩
end
end L2
namespace L2
open PySem PySem.Spec PyProof.Rows
noncomputable def yR (n:Nat) (i:Int):Option Nat:=if 0<=i then (if i<n then some i.toNat else none) else if -(n:Int)<=i then some (i+n).toNat else none
noncomputable def kU {α:Type} (xs:List α) (i:Int):Option α:=(yR xs.length i).bind fun j=>xs[j]?
theorem yq {n:Nat}{i:Int}{j:Nat} (h:yR n i=some j):seqIndex? i n=some j/\j<n/\-(n:Int)<=i/\i<n:=by
 unfold yR at h
 by_cases h0:0<=i
 ·rw[if_pos h0] at h
  by_cases h1:i<n
  ·rw[if_pos h1] at h
   have e:i.toNat=j:=Option.some.inj h;exact⟨by rw[seqIndex_of h0 h1,e],by omega,by omega,h1⟩
  ·rw[if_neg h1] at h;cases h
 ·rw[if_neg h0] at h
  by_cases h1:-(n:Int)<=i
  ·rw[if_pos h1] at h
   have e:(i+n).toNat=j:=Option.some.inj h;exact⟨by rw[seqIndex_neg (by omega) h1,e],by omega,h1,by omega⟩
  ·rw[if_neg h1] at h;cases h
theorem lX {α:Type}{xs:List α}{i:Int}{v:α} (h:kU xs i=some v):∃ j,seqIndex? i xs.length=some j/\xs[j]?=some v/\j<xs.length/\-(xs.length:Int)<=i/\i<xs.length:=by
 unfold kU at h
 cases e:yR xs.length i with
 | none=>rw[e] at h;cases h
 | some j =>
  rw[e] at h;obtain⟨h1,h2,h3,h4⟩:=yq e;exact⟨j,h1,h,h2,h3,h4⟩
theorem bS {α:Type}{xs:List α}{j:Nat}{v:α} (h:xs[j]?=some v):kU xs (j:Int)=some v:=by
 have hj:j<xs.length:=(List.getElem?_eq_some_iff.mp h).1;have e:yR xs.length (j:Int)=some j:=by
  unfold yR;rw[if_pos (by omega),if_pos (by omega)];simp
 unfold kU;rw[e];exact h
theorem jv {α:Type} (xs:List α) (v:α):kU (xs++[v]) (-1)=some v:=by
 have hl:(xs++[v]).length=xs.length+1:=by simp
 have e:yR (xs++[v]).length (-1)=some xs.length:=by
  unfold yR;rw[hl,if_neg (by decide),if_pos (by omega)];congr 1;omega
 unfold kU;rw[e];show (xs++[v])[xs.length]?=some v;simp
noncomputable def yz (b:Expr):Prop:=∀ o i,subscripted b false o i=operate [o,i] (getItem o i)
noncomputable def Cu (X:Cx) (r:R2):Prop :=
 ∀ (value slice:Expr) (pins:List (Addr×Obj)) (s:Shared) (σ:St) (H:Hp) (x y:V) (v u:Value) (Q:VK),Inv X pins σ H s->RelV x v->RelV y u->r x y H Q ->
  subscripted slice false v u=operate [v,u] (getItem v u)->wpAny (model X.prog X.w) X.A (subscriptTail value slice v u) (EP X pins σ Q) X.xe s
noncomputable def Ax (X:Cx) (id:String) (r:V->List V->Hp->VK->Prop):Prop :=
 ∀ (pins:List (Addr×Obj)) (s:Shared) (σ:St) (H:Hp) (x:V) (xs:List V) (v:Value) (us:List Value) (Q:VK),Inv X pins σ H s->RelV x v->Vals xs us->r x xs H Q ->
  wpAny (model X.prog X.w) X.A (call (.builtin id) (v::us)) (EP X pins σ Q) X.xe s
section
variable {X:Cx}{a b:Expr}{ta tb:TE}{pos:Pos}
theorem aE {r:R2} (hr:Cu X r) (ha:PE X a ta) (hb:PE X b tb) (hs:yz b):PE X (.Subscript a b pos) (Cp r ta tb):=by
 intro pins s σ H Q I h;exact Subscript_ (zO ha hb I h fun v u s2 x y H2 I2 rx ry q=>hr a b pins s2 σ H2 x y v u Q I2 rx ry q (hs _ _))
noncomputable def Au (K:PySem.W.Frag):R2:=fun x y H Q=>∃ p xs i v,x=.ref p/\y=.int i/\aP K H p xs/\kU xs i=some v/\Q v H
noncomputable def A2 (K:PySem.W.Frag):R2:=fun x y H Q=>∃ p xs i v,x=.ref p/\y=.int i/\cE K H p xs/\kU xs i=some v/\Q v H
noncomputable def DC:R2:=fun x y H Q=>∃ z i c,x=.str z/\y=.int i/\z.length<=sizeLine/\kU z.cps.toList i=some c/\Q (.str ⟨#[c]⟩) H
theorem xP:Cu X (Au X.K):=by
 intro value slice pins s σ H x y v u Q I rx ry h hs;obtain⟨p,xs,i,z,rfl,rfl,hq,he,q⟩:=h
 cases rx;obtain⟨t,rfl⟩:=ry;obtain⟨its,r,pl,hz⟩:=I.list hq;obtain⟨j,h1,h2,h3,h4,h5⟩:=lX he;obtain⟨w,ew,rw'⟩:=r.get h2;have hl:=r.length;have hn:=nu;have fin:EP X pins σ Q w s:=⟨z,H,I,rw',q⟩
 by_cases h0:0<=i
 ·have hj:i.toNat=j:=by
   rw[seqIndex_of h0 h5] at h1;exact Option.some.inj h1
  exact item_listR pl.isList h0 (by omega) (by rw[hj];simpa using ew) fin hs
 ·have hj:(i+(its.toArray.size:Int)).toNat=j:=by
   rw[seqIndex_neg (by omega) h4] at h1;rw[List.size_toArray,<- hl];exact Option.some.inj h1
  exact subscriptTail_builtinR (x:=w) pl.isList.typeIs slot_list_getitem.lookup
   (wpAny_getItem_list_neg (Q:=fun r s'=>r=w/\EP X pins σ Q r s') pl.isList (by omega) (by rw[List.size_toArray] <;> omega) (by omega) (by rw[hj];simpa using ew) ⟨rfl,fin⟩) hs
theorem AY:Cu X (A2 X.K):=by
 intro value slice pins s σ H x y v u Q I rx ry h hs;obtain⟨p,xs,i,z,rfl,rfl,hq,he,q⟩:=h
 cases rx;obtain⟨t,rfl⟩:=ry;obtain⟨its,r,pl,hz⟩:=I.tuple hq;obtain⟨j,h1,h2,h3,h4,h5⟩:=lX he;obtain⟨w,ew,rw'⟩:=r.get h2;have hl:=r.length;have hn:=nu;have fin:EP X pins σ Q w s:=⟨z,H,I,rw',q⟩;exact subscriptTail_builtinR (x:=w) pl.typeIs slot_tuple_getitem.lookup
  (getItem_tuple (j:=j) (Q:=fun r s'=>r=w/\EP X pins σ Q r s') pl (by omega) (by omega) (by rw[List.size_toArray,<- hl];exact h1) (by simpa using ew) ⟨rfl,fin⟩) hs
theorem qC:Cu X DC:=by
 intro value slice pins s σ H x y v u Q I rx ry h hs;obtain⟨z,i,c,rfl,rfl,hz,he,q⟩:=h;obtain⟨t,rfl⟩:=rx;obtain⟨t',rfl⟩:=ry;obtain⟨j,h1,h2,h3,h4,h5⟩:=lX he;have hl:z.cps.toList.length=z.length:=by simp[Str.length]
 rw[hl] at h1 h4 h5;have hn:=nu;exact tail_any (typeIs_str s z t) slot_str_getitem.lookup (getItem_str (c:=c) (by
  have e1:decide (i < -(2 ^ 63:Int))=false:=decide_eq_false (by omega);have e2:decide (i ≥ 2 ^ 63)=false:=decide_eq_false (by omega);rw[e1,e2,Bool.or_false]) (by rw[h1];simpa using h2) ⟨.str ⟨#[c]⟩,H,I.tok _,⟨_,rfl⟩,q⟩) hs
theorem nF (lo hi:Option Int) (n:Nat):(sliceBounds lo hi none n).1=((HT.cG n 0 lo:Nat):Int)/\(sliceBounds lo hi none n).2.1=((HT.cG n n hi:Nat):Int)/\(sliceBounds lo hi none n).2.2=1:=by
 refine⟨?_,?_,rfl⟩
 ·cases lo with
  | none=>simp[sliceBounds,HT.cG]
  | some i =>
   simp only[sliceBounds,HT.cG,Option.getD_none,show (1:Int) > 0 by decide,if_true]
   by_cases h:i<0
   ·simp only[h,if_true] <;> omega
   ·simp only[h,if_false] <;> omega
 ·cases hi with
  | none=>simp[sliceBounds,HT.cG]
  | some i =>
   simp only[sliceBounds,HT.cG,Option.getD_none,show (1:Int) > 0 by decide,if_true]
   by_cases h:i<0
   ·simp only[h,if_true] <;> omega
   ·simp only[h,if_false] <;> omega
theorem kB (its:List Value) (lo hi:Option Int):slicePick its.toArray lo hi none=((its.drop (HT.cG its.length 0 lo)).take (HT.cG its.length its.length hi - HT.cG its.length 0 lo)).toArray:=by
 obtain⟨h1,h2,h3⟩:=nF lo hi its.toArray.size;unfold slicePick;rw[h1,h2,h3];simp only[sliceRange_one,pick_run,List.size_toArray] <;> rfl
noncomputable def zR (K:PySem.W.Frag):V->Option Int->Option Int->Hp->VK->Prop:=fun x lo hi H Q=>∃ a xs,x=.ref a/\aP K H a xs/\∀ p,H p=none->Q (.ref p) (upd H p (.lst (iT xs lo hi)))
theorem yI:Co X (zR X.K):=by
 intro pins s σ H x v vl vu lo hi sl Q I rx hs pl pu h;obtain⟨a,xs,rfl,hx,q⟩:=h
 cases rx;obtain⟨its,r,ht,hz⟩:=I.list hx;have hlen:=r.length;refine⟨"list",_,slot_list_getitem.lookup,ht.isList.typeIs,?_⟩;refine wpAny_getItem_list_slice ht.isList hs pl pu .none (by simp) ?_ (by rw[List.size_toArray] <;> omega);rw[kB,<- hlen];refine⟨.ref s.heap.objs.size,_,I.laid (t':=s.toks) (o:=.lst (iT xs lo hi)) (fun b ob q=>Heap.get?_push_of_some _ q) (Nat.le_refl _) ?_,rfl,q _ (I.hok.fresh (Nat.le_refl _))⟩;exact⟨Nat.le_trans (iE xs lo hi) hz,_,0,(r.drop (HT.cG xs.length 0 lo)).take (HT.cG xs.length xs.length hi - HT.cG xs.length 0 lo),Heap.get?_push_size _ rfl⟩
noncomputable def gq:V->Bool
 | .non=>true
 | .bl _=>true
 | .int _=>true
 | .str _=>true
 | _=>false
noncomputable def yY:V->V->Bool
 | .non,.non=>true
 | .bl a,.bl b=>a == b
 | .bl a,.int b=>(if a then 1 else 0) == b
 | .int a,.bl b=>a == (if b then 1 else 0)
 | .int a,.int b=>a == b
 | .str a,.str b=>a == b
 | _,_=>false
theorem Bd {A:Around}{s:Shared}{y x:V}{u v:Value} (ry:RelV y u) (rx:RelV x v) (fy:gq y=true) (fx:gq x=true):SeqAt.EqAt A s u v (yY y x):=by
 cases y with
 | non =>
  cases ry
  cases x with
  | non=>cases rx;exact SeqAt.EqAt.same _
  | bl b=>cases rx;exact SeqAt.EqAt.none_bool b
  | int b=>obtain⟨t,rfl⟩:=rx;exact SeqAt.EqAt.none_int b t
  | str b=>obtain⟨t,rfl⟩:=rx;exact SeqAt.EqAt.none_str b t
  | _=>exact absurd (show false=true from fx) Bool.false_ne_true
 | bl a =>
  cases ry
  cases x with
  | non=>cases rx;exact SeqAt.EqAt.bool_none a
  | bl b=>cases rx;exact SeqAt.EqAt.bool_bool a b
  | int b=>obtain⟨t,rfl⟩:=rx;exact SeqAt.EqAt.bool_int a b t
  | str b=>obtain⟨t,rfl⟩:=rx;exact SeqAt.EqAt.bool_str a b t
  | _=>exact absurd (show false=true from fx) Bool.false_ne_true
 | int a =>
  obtain⟨t',rfl⟩:=ry
  cases x with
  | non=>cases rx;exact SeqAt.EqAt.int_none a t'
  | bl b=>cases rx;exact SeqAt.EqAt.int_bool a t' b
  | int b=>obtain⟨t,rfl⟩:=rx;exact SeqAt.EqAt.int_int a t' b t
  | str b=>obtain⟨t,rfl⟩:=rx;exact SeqAt.EqAt.int_str a t' b t
  | _=>exact absurd (show false=true from fx) Bool.false_ne_true
 | str a =>
  obtain⟨t',rfl⟩:=ry
  cases x with
  | non=>cases rx;exact SeqAt.EqAt.str_none a t'
  | bl b=>cases rx;exact SeqAt.EqAt.str_bool a t' b
  | int b=>obtain⟨t,rfl⟩:=rx;exact SeqAt.EqAt.str_int a t' b t
  | str b=>obtain⟨t,rfl⟩:=rx;exact SeqAt.EqAt.str_str a t' b t
  | _=>exact absurd (show false=true from fx) Bool.false_ne_true
 | _=>exact absurd (show false=true from fy) Bool.false_ne_true
noncomputable def xj (x:V) (u:Value):Bool:=match u with
 | .none=>yY .non x
 | .bool b=>yY (.bl b) x
 | .int i _=>yY (.int i) x
 | .str z _=>yY (.str z) x
 | _=>false
theorem uP {x y:V}{u:Value} (r:RelV y u) (f:gq y=true):xj x u=yY y x:=by
 cases y with
 | non=>cases r;rfl
 | bl b=>cases r;rfl
 | int i=>obtain⟨t,rfl⟩:=r;rfl
 | str z=>obtain⟨t,rfl⟩:=r;rfl
 | _=>exact absurd (show false=true from f) Bool.false_ne_true
theorem mT {x:V}:∀ {xs:List V}{us:List Value},Vals xs us->xs.all gq=true->us.any (xj x)=xs.any fun y=>yY y x
 | _,_,.nil,_=>rfl
 | y::xs,u::us,.cons r t,f=>by
  rw[List.all_cons,Bool.and_eq_true] at f;rw[List.any_cons,List.any_cons,uP r f.1,mT t f.2]
theorem jB {A:Around}{s:Shared}{x:V}{v:Value} (rx:RelV x v) (fx:gq x=true):∀ {xs:List V}{us:List Value},Vals xs us->xs.all gq=true->∀ u∈us,SeqAt.EqAt A s u v (xj x u)
 | _,_,.nil,_=>fun u hu=>by cases hu
 | y::xs,u::us,.cons r t,f=>fun u' hu=>by
  rw[List.all_cons,Bool.and_eq_true] at f;rcases List.mem_cons.mp hu with rfl|hu
  ·rw[uP r f.1];exact Bd r rx f.1 fx
  ·exact jB rx fx t f.2 u' hu
noncomputable def EV (x:V) (xs:List V):Bool:=xs.any fun y=>yY y x
noncomputable def F6 (K:PySem.W.Frag) (neg:Bool):R2:=fun x y H Q=>∃ p xs,y=.ref p/\(aP K H p xs\/cE K H p xs)/\gq x=true/\xs.all gq=true/\Q (.bl (if neg then !EV x xs else EV x xs)) H
theorem sI:gu X (compareOp .In) (F6 X.K false):=by
 intro pins s σ H x y v u Q I rx ry h;obtain⟨p,xs,rfl,hq,fx,fs,q⟩:=h
 cases ry;rcases hq with hq|hq
 ·obtain⟨its,r,pl,hz⟩:=I.list hq
  refine SeqAt.in_listAt (xj x) pl.isList (fun w hw=>jB rx fx r fs w (by simpa using hw)) ⟨.bl _,H,I,rfl,?_⟩;rw[show its.toArray.any (xj x)=its.any (xj x) by simp,mT r fs];exact q
 ·obtain⟨its,r,pl,hz⟩:=I.tuple hq
  refine SeqAt.in_tupleAt (xj x) pl (fun w hw=>jB rx fx r fs w (by simpa using hw)) ⟨.bl _,H,I,rfl,?_⟩;rw[show its.toArray.any (xj x)=its.any (xj x) by simp,mT r fs];exact q
theorem mO:gu X (compareOp .NotIn) (fun x y H Q=>∃ i j,x=.str i/\y=.str j/\Q (.bl (!(!(Builtin.Str.occurrences j i 0 j.length 1).isEmpty))) H):=by
 intro pins s σ H x y v u Q I rx ry h;obtain⟨i,j,rfl,rfl,q⟩:=h;obtain⟨t,rfl⟩:=rx;obtain⟨t',rfl⟩:=ry;exact notIn_str ⟨.bl _,H,I,rfl,q⟩
theorem mn:cv X (.type "list") (fun xs H Q=>∃ p ys,xs=[.ref p]/\(aP X.K H p ys\/cE X.K H p ys)/\∀ l,H l=none->Q (.ref l) (upd H l (.lst ys))):=by
 intro pins s σ H xs us Q I r h;obtain⟨p,ys,rfl,hq,q⟩:=h;obtain⟨u,rfl,rx⟩:=vals1 r
 cases rx;have fin:∀ (its:List Value),Vals ys its->ys.length<=sizeLine->∀ (h':Heap) (c':Nat),(∀ b o',s.heap.get? b=some o'->h'.get? b=some o') ->
   h'.get? s.heap.objs.size=some { cls:=.type "list",dict:=none,data:=.seq its.toArray c',slots:=#[] }->EP X pins σ Q (.ref s.heap.objs.size) { s with heap:=h' }:=fun its r' hz h' c' kp e =>
  ⟨.ref s.heap.objs.size,_,I.laid (t':=s.toks) kp (Nat.le_refl _) (show bG X.prog X.w _ h' _ (.lst ys) from ⟨hz,its,c',r',e⟩),rfl,q _ (I.hok.fresh (Nat.le_refl _))⟩
 rcases hq with hq|hq
 ·obtain⟨its,r',pl,hz⟩:=I.list hq
  have hlen:=r'.length;obtain⟨o,ho,hc,n,hd⟩:=pl.isList;exact call_list_seq p (.inl rfl) ho hc hd (fun h' c' kp e=>fin its r' hz h' c' kp e) (by simp only[List.size_toArray] <;> omega)
 ·obtain⟨its,r',pl,hz⟩:=I.tuple hq
  have hlen:=r'.length;obtain⟨o,ho,hc,n,hd⟩:=pl;exact call_list_seq p (.inr rfl) ho hc hd (fun h' c' kp e=>fin its r' hz h' c' kp e) (by simp only[List.size_toArray] <;> omega)
noncomputable def F0 (K:PySem.W.Frag) (T:String) (x:V) (H:Hp):Prop:=match x with
 | .str _=>T="str"
 | .int _=>T="int"
 | .ref p=>(T="list"/\∃ xs,aP K H p xs)\/(T="tuple"/\∃ o,K.lookup p=some o/\o.cls=.type "tuple"/\o.dict=none) \/
   (T="dict"/\((∃ kvs,H p=some (.dK kvs))\/∃ kvs,H p=some (.dT kvs)))\/(T="set"/\∃ S n,H p=some (.set S n))
 | _=>False
theorem wc {pins:List (Addr×Obj)}{σ:St}{H:Hp}{s:Shared}{T:String}{x:V}{v:Value} (I:Inv X pins σ H s) (r:RelV x v) (ty:F0 X.K T x H) :
  s.TypeIs v T/\∀ a,v=.ref a->∃ ob,s.heap.get? a=some ob/\ob.dict=none:=by
 cases x with
 | str z =>
  obtain⟨t,rfl⟩:=r
  cases (show T="str" from ty);exact⟨typeIs_str s z t,fun _ e=>nomatch e⟩
 | int i =>
  obtain⟨t,rfl⟩:=r
  cases (show T="int" from ty);exact⟨typeIs_int s i t,fun _ e=>nomatch e⟩
 | ref p =>
  cases r;rcases ty with ⟨rfl,xs,hq⟩|⟨rfl,o,hk,hc,hd⟩|⟨rfl,hk⟩|⟨rfl,S,n,hk⟩
  ·obtain⟨its,_,pl,_⟩:=I.list hq
   refine⟨pl.isList.typeIs,fun a e=>?_⟩
   cases e;obtain⟨o,n,e,c,hd,_⟩:=pl;exact⟨o,e,hd⟩
  ·refine⟨⟨o,I.eK p o hk,hc⟩,fun a e=>?_⟩
   cases e;exact⟨o,I.eK _ o hk,hd⟩
  ·have z:∃ o,s.heap.get? p=some o/\o.ExactDict:=by
    rcases hk with ⟨kvs,hk⟩|⟨kvs,hk⟩
    ·obtain⟨_,_,_,_,o,_,_,e,ex,_⟩:=I.hok p _ hk
     exact⟨o,e,ex⟩
    ·obtain⟨_,_,_,_,o,_,_,e,ex,_⟩:=I.hok p _ hk
     exact⟨o,e,ex⟩
   obtain⟨o,e,ex⟩:=z;refine⟨⟨o,e,ex.1⟩,fun a e2=>?_⟩
   cases e2;exact⟨o,e,ex.2.1⟩
  ·obtain⟨o,_,_,_,e,ex,_⟩:=I.hok p _ hk
   refine⟨⟨o,e,ex.1⟩,fun a e2=>?_⟩
   cases e2;exact⟨o,e,ex.2.1⟩
 | _=>exact False.elim ty
noncomputable def Ag (K:PySem.W.Frag) (T:String) (r:V->List V->Hp->VK->Prop) (to:TE):TE:=fun σ H Q=>to σ H fun x H1=>F0 K T x H1/\r x [] H1 Q
noncomputable def Ex (K:PySem.W.Frag) (T:String) (r:V->List V->Hp->VK->Prop) (to:TE) (t:TA):TE:=fun σ H Q=>to σ H fun x H1=>F0 K T x H1/\t σ H1 fun xs H2=>r x xs H2 Q
variable {o e:Expr}{es:List Expr}{to:TE}{t:TA}{name:Str}{apos cpos:Pos}{T id:String}{r:V->List V->Hp->VK->Prop}
theorem A8 (pa:PlainAttrs T) (slot:Slot T name id) (hty:typeOf (.builtin id)=pure (.type "method_descriptor")) (hm:Ax X id r) (ho:PE X o to)
  (hbase:attributeBase o name X.env (eval o X.env)=eval o X.env:=by rfl) (hline:(apos.endLine == cpos.line)=true:=by rfl):PE X (.Call (.Attribute o name apos) [] [] cpos) (Ag X.K T r to):=by
 intro pins s σ H Q I h;refine wpAny_Call_method0_late hbase hline (bA (ho pins s σ H _ I h) fun v s1 ⟨x,H1,I1,r1,ty,q1⟩=>?_);obtain⟨h1,h2⟩:=wc I1 r1 ty;exact⟨T,id,pa,slot,hty,h1,h2,Calls.callWith_builtin rfl (PySem.evalArgs_none (hm pins s1 σ H1 x [] v [] Q I1 r1 .nil q1))⟩
theorem DR (pa:PlainAttrs T) (slot:Slot T name id) (hty:typeOf (.builtin id)=pure (.type "method_descriptor")) (hm:Ax X id r) (ho:PE X o to) (ha:PA X (e::es) t)
  (hbase:attributeBase o name X.env (eval o X.env)=eval o X.env:=by rfl)
  (hfew:((backTo cpos (starEach (e::es) X.env)).all (fun x=>!x.1) && (backToKw cpos (keywordEach [] X.env)).all (fun x=>x.1.isSome)
   && decide ((e::es).length+([]:List Keyword).length+(if ([]:List Keyword).isEmpty then 0 else 1)<30))=true:=by rfl)
  (hline:(apos.endLine == cpos.line)=true:=by rfl) (hs:starEach (e::es) X.env=(false,eval e X.env)::starEach es X.env:=by rfl) (hplain:(backTo cpos (starEach es X.env)).any (·.1)=false:=by rfl) :
  PE X (.Call (.Attribute o name apos) (e::es) [] cpos) (Ex X.K T r to t):=by
 intro pins s σ H Q I h;refine wpAny_Call_method_late hbase hfew hline rfl (bA (ho pins s σ H _ I h) fun v s1 ⟨x,H1,I1,r1,ty,q1⟩=>?_);obtain⟨h1,h2⟩:=wc I1 r1 ty;refine⟨T,id,pa,slot,hty,h1,h2,?_⟩;have hA:=ha cpos pins s1 σ H1 _ I1 q1;rw[hs] at hA ⊢;refine Calls.callWith_builtin (by show (false || (backTo cpos (starEach es X.env)).any (·.1))=false;rw[hplain] <;> rfl) (Calls.evalArgs_plain ?_);exact bA hA fun us s2 ⟨vs,H2,I2,r2,q2⟩=>hm pins s2 σ H2 x vs v us Q I2 r1 r2 q2
end
end L2
namespace L2
open PySem PySem.Spec PyProof.Rows
noncomputable def E9 (X:Cx) (id:String) (r:V->List V->Hp->VK->Prop):Prop :=
 ∀ (pins:List (Addr×Obj)) (s:Shared) (σ:St) (H:Hp) (x:V) (xs:List V) (v:Value) (us:List Value) (Q:VK),Inv X pins σ H s->RelV x v->Vals xs us->r x xs H Q ->
  wpAny (model X.prog X.w) X.A (call (.builtin id) (v::us)) (EP X pins σ Q) X.xe s
theorem Vals.one:∀ {x:V}{us:List Value},Vals [x] us->∃ u,us=[u]/\RelV x u
 | _,_,.cons r .nil=>⟨_,rfl,r⟩
theorem Vals.zero:∀ {us:List Value},Vals [] us->us=[]
 | _,.nil=>rfl
theorem Vals.dropLast {xs:List V}{us:List Value} (h:Vals xs us):Vals xs.dropLast us.dropLast:=by
 induction h with
 | nil=>exact .nil
 | cons r t ih =>
  cases t with
  | nil=>exact .nil
  | cons q t'=>exact .cons r ih
theorem qv {α:Type} (l:List α):l.eraseIdx (l.length - 1)=l.dropLast:=by
 induction l with
 | nil=>rfl
 | cons a r ih =>
  cases r with
  | nil=>rfl
  | cons b r =>
   have e:(a::b::r).length - 1=((b::r).length - 1)+1:=by
    have h1:(a::b::r).length=r.length+2:=rfl;have h2:(b::r).length=r.length+1:=rfl;omega
   rw[e,List.eraseIdx_cons_succ,ih]
   all_goals rfl
section
variable {X:Cx}{pins:List (Addr×Obj)}{σ:St}{H:Hp}{s:Shared}{l b:Addr}{xs ys zs:List V}
theorem Inv.bu {its its':List Value}{n:Nat}{f:Array Value->Array Value}{t':Nat} (I:Inv X pins σ H s) (hH:H l=some (.lst xs))
  (e:s.heap.get? l=some { cls:=.type "list",data:=.seq its.toArray n }) (hf:f its.toArray=its'.toArray) (hv:Vals ys its') (hz:ys.length<=sizeLine) :
  Inv X pins σ (upd H l (.lst ys)) { s with heap:=s.heap.update l (Obj.mapSeq f),toks:=t' }:=by
 have q:=PySem.IsL.update e f;rw[hf] at q;refine I.write (x:=l) (e:=l) (by rw[hH];exact trivial) (.inl rfl) (fun b' u hb hu=>(Heap.get?_update_other s.heap (Obj.mapSeq f) (Ne.symm hb)).trans hu) ⟨_,q⟩ ?_;exact⟨hz,its',_,hv,q⟩
theorem Inv.F9 {its:List Value}{t':Nat} (I:Inv X pins σ H s) (hv:Vals ys its) (hz:ys.length<=sizeLine) :
  Inv X pins σ (upd H s.heap.objs.size (.lst ys)) { s with heap:=s.heap.push { cls:=.type "list",data:=.seq its.toArray },toks:=t' } :=
 I.laid (fun _ _ q=>Heap.get?_push_of_some _ q) (Nat.le_refl _) ⟨hz,its,0,hv,Heap.get?_push_size _ rfl⟩
theorem Inv.fresh (I:Inv X pins σ H s):H s.heap.objs.size=none:=I.hok.fresh (Nat.le_refl _)
theorem Inv.sR (I:Inv X pins σ H s) (hH:H l=some (.lst xs)):xs.length<=sizeLine/\∃ (its:List Value) (n:Nat),Vals xs its/\xs.length=its.length/\s.heap.get? l=some { cls:=.type "list",data:=.seq its.toArray n }:=by
 obtain⟨z,its,n,r,e⟩:=I.hok l _ hH;exact⟨z,its,n,r,r.length,e⟩
theorem vm {n:Nat} (h:n<=sizeLine):Builtin.List.listTooLong n=false:=by
 unfold Builtin.List.listTooLong;exact decide_eq_false (by omega)
end
section
variable {X:Cx}
noncomputable def mY:V->List V->Hp->VK->Prop:=fun x vs H Q=>∃ l xs y,x=.ref l/\vs=[y]/\H l=some (.lst xs)/\xs.length<sizeLine/\Q .non (upd H l (.lst (xs++[y])))
theorem bo:E9 X "list.append" mY:=by
 intro pins s σ H x vs v us Q I rx rv h;obtain⟨l,xs,y,rfl,rfl,hH,hz,q⟩:=h
 cases rx;obtain⟨u,rfl,ru⟩:=rv.one;obtain⟨z,its,n,r,hl,e⟩:=I.sR hH;refine call_meets F.slot_list_append ⟨_,e,rfl⟩ F.entry_list_append (F.args_list_append_2 _ _) (PySem.list_append l its.toArray n u (by rw[List.size_toArray];omega)) ⟨e,?_⟩;refine⟨.non,_,I.bu (its':=its++[u]) hH e (by simp) (r.append (.cons ru .nil)) ?_,rfl,q⟩;rw[List.length_append,List.length_singleton];omega
noncomputable def qX:V->List V->Hp->VK->Prop:=fun x vs H Q=>∃ l b xs zs,x=.ref l/\vs=[.ref b]/\H l=some (.lst xs)/\H b=some (.lst zs)/\xs.length+zs.length<=sizeLine/\Q .non (upd H l (.lst (xs++zs)))
theorem iu:E9 X "list.extend" qX:=by
 intro pins s σ H x vs v us Q I rx rv h;obtain⟨l,b,xs,zs,rfl,rfl,hH,hB,hz,q⟩:=h
 cases rx;obtain⟨u,rfl,ru⟩:=rv.one
 cases ru;obtain⟨z,its,n,r,hl,e⟩:=I.sR hH;obtain⟨z2,its2,n2,r2,hl2,e2⟩:=I.sR hB;have hsz:its.toArray.size+its2.toArray.size<=sizeLine:=by rw[List.size_toArray,List.size_toArray];omega
 have hlong:¬ (!its.toArray.isEmpty && Builtin.List.listTooLong (its.toArray.size+its2.toArray.size))=true:=by
  rw[vm hsz,Bool.and_false];exact Bool.false_ne_true
 refine call_meets F.slot_list_extend ⟨_,e,rfl⟩ F.entry_list_extend (F.args_list_extend_2 _ _)
  (AutoSeq1.list_extend_list_list_0 l its.toArray n b its2.toArray n2 hlong (by rw[List.size_toArray];omega) (by omega)) ⟨e,e2,?_⟩
 refine⟨.non,_,I.bu (its':=its++its2) hH e (by simp) (r.append r2) ?_,rfl,q⟩;rw[List.length_append];omega
noncomputable def Ef:V->List V->Hp->VK->Prop:=fun x vs H Q=>∃ l xs y,x=.ref l/\vs=[]/\H l=some (.lst xs)/\xs[xs.length - 1]?=some y/\Q y (upd H l (.lst xs.dropLast))
theorem pM:E9 X "list.pop" Ef:=by
 intro pins s σ H x vs v us Q I rx rv h;obtain⟨l,xs,y,rfl,rfl,hH,hy,q⟩:=h
 cases rx;have hus:=rv.zero;subst hus;obtain⟨z,its,n,r,hl,e⟩:=I.sR hH;obtain⟨u,hu,ru⟩:=r.get hy;have hy':its.toArray[its.toArray.size - 1]?=some u:=by
  show its.toArray[its.length - 1]?=some u;rw[<- Array.getElem?_toList,<- hl];exact hu
 refine call_meets F.slot_list_pop ⟨_,e,rfl⟩ F.entry_list_pop (F.args_list_pop_1 _) (MeetsSeq.list_pop_last l its.toArray n u hy' (by rw[List.size_toArray];omega)) ⟨e,?_⟩;refine⟨y,_,I.bu (its':=its.dropLast) hH e ?_ r.dropLast ?_,ru,q⟩
 ·show its.toArray.eraseIdxIfInBounds (its.toArray.size - 1)=its.dropLast.toArray
  rw[List.size_toArray,List.eraseIdxIfInBounds_toArray,qv]
 ·rw[List.length_dropLast]
  omega
noncomputable def CU:R2:=fun x y H Q=>∃ l b xs zs,x=.ref l/\y=.ref b/\H l=some (.lst xs)/\H b=some (.lst zs)/\xs.length+zs.length<=sizeLine/\∀ p,H p=none->Q (.ref p) (upd H p (.lst (xs++zs)))
theorem zL:gu X (binaryOp .Add) CU:=by
 intro pins s σ H x y v u Q I rx ry h;obtain⟨l,b,xs,zs,rfl,rfl,hH,hB,hz,q⟩:=h
 cases rx
 cases ry;obtain⟨z,its,n,r,hl,e⟩:=I.sR hH;obtain⟨z2,its2,n2,r2,hl2,e2⟩:=I.sR hB;refine PySem.P.add_list e e2 ?_ (by rw[List.size_toArray,List.size_toArray];omega);have ea:its.toArray++its2.toArray=(its++its2).toArray:=by simp
 rw[ea];exact⟨.ref _,_,I.F9 (t':=s.toks) (r.append r2) (by rw[List.length_append];omega),rfl,q _ I.fresh⟩
end
section
variable {prog:Program}{w:World}{A:Around}{E:Value->Shared->Prop}{s:Shared}
set_option maxRecDepth 100000 in
end
section
variable {X:Cx}
end
end L2
namespace Att
open PySem PySem.W PySem.Calls PyProof.Rows
theorem iQ {P:Params}{h:Heap}:∀ (ns:List Int) (vs:List Value),WellAll P h vs (ns.map WData.int)->IntsAre vs ns:=by
 intro ns
 induction ns with
 | nil =>
  intro vs w;rw[List.map_nil] at w
  cases w;exact .nil
 | cons n ns ih =>
  intro vs w;rw[List.map_cons] at w
  cases w with
  | cons a b =>
   cases a;exact .cons _ _ (ih _ b)
theorem ud {l:OpenLaw}{n:Nat} (hn:l.most=some n) {P:Params}{h:Heap}{args:List WData}{vals:List Value}
  (hpre:l.row.toRowW.claim.pre args=true) (hwl:WellAll P h vals args) :
  ∃ a vs ns,vals=[Value.ref a]/\args=[WData.list (ns.map WData.int)]/\h.get? a=some { cls:=.type "list",data:=.seq vs.toArray }/\IntsAre vs ns/\ns.length<=n:=by
 have hsh:WShape.hasAll [] args [.list .int]=true:=(pre_splitW hpre).1;have hc:l.pre.holds [] { args:=args }=true:=(pre_splitW hpre).2;obtain⟨d,r,rfl,h1,h2⟩:=hasAllW_cons hsh;obtain rfl:=hasAllW_nil h2;obtain⟨xs,rfl,h3⟩:=hasW_list h1;obtain⟨ns,rfl⟩:=items_int h3;have hlen:ns.length<=n:=by
  unfold OpenLaw.pre at hc;have h4:(WTm.not (.lt (.lit (.int (n:Int))) (.len (.arg 0)))).holds [] { args:=[.list (ns.map .int)] }=true:=by
   have h4:=(holds_andW hc).1;rw[hn] at h4;exact h4
  have h5:=condW_of h4 (w_not (w_lt w_lit (w_len_list (w_arg rfl))));rw[List.length_map] at h5;refine Nat.le_of_not_lt fun q=>?_;have q':(n:Int)<((ns.length:Nat):Int):=by omega
  first
   | (rw[decide_eq_true q'] at h5;exact absurd h5 (by decide))
   | (simp at h5;omega)
 cases hwl with
 | cons w1 w2 =>
  cases w2
  cases w1 with
  | list ho hall=>exact⟨_,_,ns,rfl,rfl,ho,iQ ns _ hall,hlen⟩
theorem tO (l:OpenLaw) (args:List WData):l.row.toRowW.claim.post args (.bool true) args=true :=
 postW_of (r:=l.row.toRowW) (X:=(true == true))
  (show WShape.has [] (.bool true) .bool=true by first|rfl|decide|simp[WShape.has,WShape.arms,WShape.armsAll])
  (show (WTm.eq .res (.lit (.bool true))).value [] { args:=args,res:=some (.bool true),after:=args }=some (.bool (true == true)) from w_eq_bool (w_res rfl) w_lit) rfl
theorem pz {l:OpenLaw}{n:Nat}{q:Program}{loose:List Str}{XP:(Str->Option Value)->Heap->Prop}{YP:World->Heap->Prop}{d:DefRec}
  (hn:l.most=some n) (hdf:d.params.defaults=[])
  (call:∀ (w:World) (s₀ s₁:Shared) (mg mb:Str->Option Value) (fa:Addr) (o:Obj) (pm cd doc:Value) (a:Addr) (vs:List Value) (ns:List Int),
   Ground q loose [] XP w s₀ mg mb s₁.heap->YP w s₁.heap ->
   s₁.heap.get? fa=some o->o.data=.func (docDef d.name d.params d.body d.scope pm cd doc)->s₁.heap.CodeRec cd d.name->mg d.name=some (.ref fa) ->
   s₁.heap.get? a=some { cls:=.type "list",data:=.seq vs.toArray }->IntsAre vs ns->ns.length<=n->s₁.gens=#[] ->
   codeAny (model l.prog w) callerA (.call (.ref fa) ⟨[.ref a],[]⟩) (fun r s'=>r=.ok (.ret (.bool true))/\OldK s₁.heap s'.heap/\s'.os=s₁.os/\AllBare s'.gens) s₁) :
  WalkO q loose XP YP l.row.toRowW d [] (fun f vs=>PySem.call f vs):=by
 intro w s₀ s₁ mg mb G Y fa o pm cd doc dV kV ho hd hcd hD hmg hg args vals as hpre hlay hrd hwl hlo;obtain rfl:dV=.none:=Dflts.none hD hdf;obtain rfl:kV=.none:=Dflts.noKw hD;obtain⟨a,vs,ns,rfl,rfl,hobj,hints,hlen⟩:=ud hn hpre hwl;refine enter_call (codeAny_mono (call w s₀ s₁ mg mb fa o pm cd doc a vs ns G Y ho (fd_plain hd) hcd hmg hobj hints hlen hg) fun r s' hq=>?_);obtain⟨rfl,h2,h3,h4⟩:=hq;exact⟨.inl ⟨.bool true,.bool true,[],rfl,fun _=>rfl,.bool true,tO l _,fun _=>⟨List.Pairwise.nil,fun _ hm=>(nomatch hm)⟩⟩,h2,h3,h4⟩
section
variable {prog:Program}{w:World}{A:Around}{E:Value->Shared->Prop}{s:Shared}{K:Frag}
end
end Att
namespace L2
open PySem PySem.Spec PyProof.Rows
theorem kP:∀ {vs:List Value}{ns:List Int},IntsAre vs ns->Vals (ns.map V.int) vs
 | _,_,.nil=>.nil
 | _,_,.cons n t h=>.cons ⟨t,rfl⟩ (kP h)
noncomputable def AE (H:Hp):Prop:=∀ b,H b=none\/∃ o xs,H b=some (.frz o (.lst xs))
theorem vD {P:Program}{w:World}{K:PySem.W.Frag}{mg mb:Str->Option Value}{CX:kQ}{k:Nat}{fa a:Addr}{fd:FuncData}{x:Str}{sp:Sp}{s₁:Shared}{vs:List Value}{ns:List Int}
  (KX:K.In s₁.heap) (hns:s₁.heap.Ns mainGlobals mg) (hb:s₁.heap.Ns builtinsNs mb) (hbb:∀ x:Str,x≠"__name__"->mb x=bootBuiltins x) (hlim:s₁.heap.NoLimit) (hg:s₁.gens=#[])
  (ha:s₁.heap.get? a=some { cls:=.type "list",data:=.seq vs.toArray }) (hi:IntsAre vs ns) (hl:ns.length<=sizeLine) (hr:cc k callerA)
  (F:∀ base:Heap,K.In base->base.Ns mainGlobals mg->aR P w K mg base CX k fa fd [x] sp) (hbind:∀ (s:Shared) (u:Value),BindsTo s fd ⟨[u],[]⟩ [(x,u)])
  (hsp:∀ H:Hp,AE H->aP K H a (ns.map V.int)->sp [.ref a] H (fun v _=>v=.bl true) fun _ _ _=>False)
  (hCX:∀ H e s',CX [] H s₁ (fun _ _ _=>False) e s'->False) :
  codeAny (model P w) callerA (.call (.ref fa) ⟨[.ref a],[]⟩) (fun r s'=>r=.ok (.ret (.bool true))/\OldK s₁.heap s'.heap/\s'.os=s₁.os/\AllBare s'.gens) s₁:=by
 have rv:=kP hi;have lenV:=hi.length;have core:∀ H:Hp,AE H->aP K H a (ns.map V.int)->fk P w H s₁.heap->(∀ b,H b≠none->b=a)->(H a≠none->K.lookup a=none) ->
   codeAny (model P w) callerA (.call (.ref fa) ⟨[.ref a],[]⟩) (fun r s'=>r=.ok (.ret (.bool true))/\OldK s₁.heap s'.heap/\s'.os=s₁.os/\AllBare s'.gens) s₁:=by
  intro H hO hS hok hA hK;have base_of:∀ {b:Addr}{o:Obj},s₁.heap.get? b=some o->H b=none->(mX s₁.heap H).get? b=some o:=fun e n=>u_ e n;have noA:∀ {b:Addr}{o:Obj}{es:Array DictEntry}{ep:Nat},s₁.heap.get? b=some o->o.data=.dict es ep->H b=none:=fun {b o es ep} e d=>by
   cases q:H b with
   | none=>rfl
   | some u =>
    have e':b=a:=hA b (by rw[q];simp);subst e';rw[ha] at e;cases e;have d':Data.seq vs.toArray _=Data.dict es ep:=d
    cases d'
  have nsK:∀ {b:Addr}{m:Str->Option Value},s₁.heap.Ns b m->(mX s₁.heap H).Ns b m:=fun {b m} ⟨o,es,ep,e,d,r⟩=>⟨o,es,ep,base_of e (noA e d),d,r⟩;have hKb:K.In (mX s₁.heap H):=fun b o e=>base_of (KX b o e) (by
   cases q:H b with
   | none=>rfl
   | some u =>
    have e':b=a:=hA b (by rw[q];simp);subst e';rw[hK (by rw[q];simp)] at e;cases e)
  have hM:Mod K mg (mX s₁.heap H):=⟨hKb,nsK hns,⟨mb,nsK hb,hbb⟩,let ⟨mc,h1,h2⟩:=hlim;⟨mc,nsK h1,h2⟩⟩;have e0:qf P w K mg (mX s₁.heap H) callerA [] s₁ H:=⟨rfl,hM,fun b o e=>xX e,Nat.le_of_eq (tP _ _),trivial,fun b hb=>absurd (show b∈([]:List Addr) from hb) (by simp),hok,.of_eq hg⟩;refine codeAny_mono ((F _ hKb (nsK hns)).run callerA [] s₁ H ⟨[.ref a],[]⟩ [.ref a] [.ref a] _ _ hr e0 (hbind s₁ (.ref a)) (.cons rfl .nil) (hsp H hO hS)) fun r s' h=>?_
  cases r with
  | error e=>exact (hCX H e s' h).elim
  | ok fl =>
   cases fl with
   | next=>exact False.elim h
   | brk=>exact False.elim h
   | cont=>exact False.elim h
   | ret u =>
    obtain⟨v,H',os,bare,un,hok',r',q⟩:=h;have q':v=.bl true:=q;subst q';obtain rfl:u=Value.bool true:=r';refine⟨rfl,OldK.of_keep fun b o e=>?_,os,bare⟩
    cases q:H b with
    | none=>exact un.keep b o e q (by intro z;exact absurd (show b∈([]:List Addr) from z) (by simp)) (by simp)
    | some u =>
     rcases hO b with z|⟨ob,xs,z⟩
     ·rw[q] at z;cases z
     ·have z2:=un.frzs b ob _ z
      obtain⟨e1,_⟩:=hok b _ z;obtain⟨e2,_⟩:=hok' b _ z2;rw[e] at e1;cases e1;exact e2
 cases hk:K.lookup a with
 | some o =>
  have e:=KX a o hk;rw[ha] at e
  cases e;refine core (fun _=>none) (fun _=>.inl rfl) (.inr ⟨_,vs.toArray,_,hk,rfl,rfl,rfl,by rw[List.size_toArray,lenV];exact hl,by simpa using rv⟩) (fun b u z=>by have z':(none:Option HO)=some u:=z;cases z') (fun b z=>absurd rfl z) fun z=>absurd rfl z
 | none =>
  refine core (fun b=>if b=a then some (.frz { cls:=.type "list",data:=.seq vs.toArray } (.lst (ns.map V.int))) else none) (fun b=>?_) (.inl (.inr ⟨{ cls:=.type "list",data:=.seq vs.toArray },if_pos rfl⟩)) (fun b u z=>?_) (fun b z=>?_) fun _=>hk
  ·by_cases hb:b=a
   ·exact .inr ⟨_,_,if_pos hb⟩
   ·exact .inl (if_neg hb)
  ·by_cases hb:b=a
   ·have z':=(if_pos hb).symm.trans z
    cases z';subst hb;exact⟨ha,by rw[List.length_map];exact hl,vs,_,rv,ha⟩
   ·have z':=(if_neg hb).symm.trans z
    cases z'
  ·by_cases hb:b=a
   ·exact hb
   ·exact absurd (if_neg hb) z
end L2
namespace L2
open PySem PySem.Spec PyProof.Rows
theorem yJ {l:PySem.W.OpenLaw}{n k:Nat}{q:Program}{loose:List Str}{XP:(Str->Option Value)->Heap->Prop}{YP:World->Heap->Prop}{d:DefRec}{K:Params->PySem.W.Frag}{CX:World->kQ}{sp:World->Sp}{x:Str}
  (hn:l.most=some n) (hn2:n<=sizeLine) (hdf:d.params.defaults=[]) (hr:cc k callerA)
  (hY:∀ (w:World) (h:Heap),YP w h->(K w.params).In h)
  (F:∀ (w:World) (mg:Str->Option Value) (fa:Addr) (h:Heap),(K w.params).In h->h.Ns mainGlobals mg->mg d.name=some (.ref fa) ->
   ∃ fd:FuncData,(∀ (s:Shared) (u:Value),BindsTo s fd ⟨[u],[]⟩ [(x,u)]) /\
    ∀ base:Heap,(K w.params).In base->base.Ns mainGlobals mg->aR l.prog w (K w.params) mg base (CX w) k fa fd [x] (sp w))
  (hsp:∀ (w:World) (H:Hp) (a:Addr) (ns:List Int),ns.length<=n->AE H->aP (K w.params) H a (ns.map V.int)->sp w [.ref a] H (fun v _=>v=.bl true) fun _ _ _=>False)
  (hCX:∀ (w:World) (H:Hp) (s:Shared) (e:Value) (s':Shared),CX w [] H s (fun _ _ _=>False) e s'->False) :
  PySem.W.WalkO q loose XP YP l.row.toRowW d [] (fun f vs=>PySem.call f vs):=by
 refine Att.pz hn hdf fun w s₀ s₁ mg mb fa o pm cd doc a vs ns G Y ho hd hcd hmg hobj hints hlen hg=>?_;have KX:=hY w _ Y;obtain⟨fd,hb,hF⟩:=F w mg fa _ KX G.T.g hmg;exact vD KX G.T.g G.T.b G.T.builtins G.T.nolimit hg hobj hints (Nat.le_trans hlen hn2) hr hF hb (fun H hO hS=>hsp w H a ns hlen hO hS) fun H e s'=>hCX w H s₁ e s'
end L2
namespace L2
open PySem PySem.Spec PyProof.Rows
noncomputable def inClass (s:Stmt) (j:Nat):Stmt:=match s with
 | .ClassDef _ _ _ body _ _ _ _ _ _ _=>body.getD j (.Pass ⟨0,0,0,0⟩)
 | _=>.Pass ⟨0,0,0,0⟩
noncomputable def dA (s:Stmt):Arguments:=match s with
 | .FunctionDef _ a _ _ _ _ _ _ _ _=>a
 | _=>{ posonlyargs:=[],args:=[],vararg:=none,kwonlyargs:=[],kw_defaults:=[],kwarg:=none,defaults:=[] }
noncomputable def cQ (s:Stmt):List Stmt:=match s with
 | .FunctionDef _ _ b _ _ _ _ _ _ _=>b
 | _=>[]
noncomputable def ao (s:Stmt):Scope:=match s with
 | .FunctionDef _ _ _ _ _ _ sc _ _ _=>sc
 | _=>{ kind:=.function,names:=[],isGenerator:=false,isCoroutine:=false }
noncomputable abbrev aT:kQ:=fun _ _ _ _ _ _=>False
noncomputable abbrev E0:XK:=fun _ _ _=>False
theorem eu {X:Cx}:Passes aT X E0:=fun _ _ _ _ _ _ _ h=>h.elim
structure cJ (K:PySem.W.Frag) (x qual:Str) (st:Stmt) (f:Addr) (fd:FuncData):Prop where
 ex:∃ (oc:Value) (od:Option Addr) (kV doc pm:Value) (an:Option Addr) (cdv ct:Value) (osl:Array (Option Value)),
  fd=PySem.W.fnOf x qual (dA st) (cQ st) (ao st) .none kV doc pm an cdv ct/\K.lookup f=some ⟨oc,od,.func fd,osl⟩/\PySem.W.codeIn K cdv qual=true
 kp:PySem.W.keepIn K (.ref f)=true
section
variable {P:Program}{w:World}{K:PySem.W.Frag}{mg:Str->Option Value}{base:Heap}
theorem cJ.ok {x qual:Str}{st:Stmt}{f:Addr}{fd:FuncData}{N ps:List Str}{k:Nat}{sp:Sp} (F:cJ K x qual st f fd) (S:az N ps (ao st)) (len:∀ vs H Q E,sp vs H Q E->vs.length=ps.length)
  (hbody:∀ (cdv:Value) (A:Around) (outer:List Env) (s:Shared) (H:Hp) (vs:List V) (Q:VK) (E:XK),cc k (A.deeper (envOfC qual (ao st) s.heap.objs.size f cdv))->sp vs H Q E ->
   ∃ t,mf (iN aT P w K mg base N qual (ao st) f cdv A outer s H E).EX (cQ st) t/\t { nx:=fun _ H'=>Q .non H',rt:=Q } (start N vs) H):aR P w K mg base aT (k+1) f fd ps sp:=by
 obtain⟨oc,od,kV,doc,pm,an,cdv,ct,osl,rfl,lk,hcd⟩:=F.ex;refine yZ lk hcd S len fun A outer s H vs Q E hr hsp=>?_;obtain⟨t,h,q⟩:=hbody cdv A outer s H vs Q E hr hsp;exact⟨t,h.EX,q⟩
theorem pX {x qual:Str}{st:Stmt}{f:Addr}{oc:Value}{od an:Option Addr}{osl:Array (Option Value)}{kV doc pm cdv ct:Value} (l:K.lookup f=some ⟨oc,od,.func (PySem.W.fnOf x qual (dA st) (cQ st) (ao st) .none kV doc pm an cdv ct),osl⟩)
  (c:PySem.W.codeIn K cdv qual=true) (k:PySem.W.keepIn K (.ref f)=true):cJ K x qual st f (PySem.W.fnOf x qual (dA st) (cQ st) (ao st) .none kV doc pm an cdv ct):=⟨⟨oc,od,kV,doc,pm,an,cdv,ct,osl,rfl,l,c⟩,k⟩
end
theorem d_ {A:Around}{k:Nat} (hr:cc k A):A.units+1<cLine:=Nat.lt_of_le_of_lt (Nat.add_le_add_left (by decide:1<=64) _) hr.units
section
variable {X:Cx}
theorem pv (i:Nat) {x:Str}{pos:Pos} (hN:X.N[i]?=some x:=by rfl) (hv:Dh X.env.scope x:=by first|exact Or.inl rfl|exact Or.inr (Or.inl rfl)|exact Or.inr (Or.inr rfl)) (hd:(x == ("__debug__":Str))=false:=by decide)
  (hcd:(x == ("__classdict__":Str))=false:=by decide):PE X (.Name x pos) (kx i):=zq hN hv hd hcd
theorem kN:cv X (.builtin "len") (fun xs H Q=>∃ a kvs,xs=[V.ref a]/\H a=some (.dK kvs)/\Q (.int kvs.length) H):=by
 intro pins s σ H xs us Q I r h;obtain⟨a,kvs,rfl,ha,q⟩:=h;obtain⟨u,rfl,ru⟩:=vals1 r
 cases ru;exact CJ I (.inl ha) fun t s' I'=>⟨.int kvs.length,H,I',⟨t,rfl⟩,q⟩
end
theorem FH {A B:Prop} (h:B):if false=true then A else B:=by
 rw[if_neg Bool.false_ne_true];exact h
theorem Fj {A B:Prop} (h:A):if true=true then A else B:=by
 rw[if_pos rfl];exact h
noncomputable def aV (H H':Hp):Prop:=∀ b o,H b=some o->H' b=some o
theorem aV.refl (H:Hp):aV H H:=fun _ _ h=>h
theorem aV.trans {H H1 H2:Hp} (a:aV H H1) (b:aV H1 H2):aV H H2:=fun c o h=>b c o (a c o h)
theorem aV.free {H H':Hp} (e:aV H H') {l:Addr} (h:H' l=Option.none):H l=Option.none:=by
 cases q:H l with
 | none=>rfl
 | some o =>
  rw[e l o q] at h
  cases h
section
variable {κ:Type} [DecidableEq κ]
theorem nC:∀ {l:List κ}{k:κ},l.Nodup->¬ k∈l->(l++[k]).Nodup
 | [],k,_,_=>by simp
 | a::r,k,h,hk=>by
  obtain⟨h1,h2⟩:=List.nodup_cons.mp h;show (a::(r++[k])).Nodup;refine List.nodup_cons.mpr ⟨fun m=>?_,nC h2 fun m=>hk (List.mem_cons.mpr (Or.inr m))⟩;rcases List.mem_append.mp m with q|q
  ·exact h1 q
  ·exact hk (List.mem_cons.mpr (Or.inl (List.mem_singleton.mp q).symm))
end
end L2
end
section
namespace L2
open PySem PySem.Spec PyProof.Rows
noncomputable def pick (ix:List (Option Nat)) (σ:St):St:=ix.map fun o =>
 match o with
 | some j=>(match σ[j]? with
  | some (some v)=>some v
  | _=>none)
 | none=>none
noncomputable def Wk (σ σ':St):Prop:=σ'.length=σ.length/\∀ (i:Nat) v,σ[i]?=some (some v)->σ'[i]?=some (some v)
theorem Wk.set {σ:St}{i:Nat}{v:V} (h:σ[i]?=some none):Wk σ (σ.set i (some v)):=by
 refine⟨by simp,fun j u e=>?_⟩;have ne:i≠j:=by rintro rfl;rw[h] at e;cases e
 rw[List.getElem?_set_ne ne];exact e
noncomputable abbrev lu (X:Cx) (scope:Scope) (cl:List (Str×Addr)) (C:Addr) (N':List Str) (fp:List Addr) (s:Shared) (H:Hp):Cx :=
 { X with N:=N',s₀:=s,H₀:=H,env:=compEnvC scope cl C X.env,outer:=X.stack,stack:=X.stack,ex:=fp,fn:=fun _=>false,pn:=[],xe:=fun _ _=>False }
noncomputable def Cs (X:Cx) (ifs:List Expr) (t:TT):Prop :=
 ∀ (pins:List (Addr×Obj)) (s:Shared) (σ:St) (H:Hp) (Q:Bool->Hp->Prop),Inv X pins σ H s->t σ H Q ->
  wpAny (model X.prog X.w) X.A (forIn ifs true fun c r=>if r=true then do
   let ok <- isTrue c X.env (eval c X.env)
   pure (ForInStep.yield ok) else pure (ForInStep.yield r)) (TP X pins σ Q) X.xe s
noncomputable def BX:TT:=fun _ H Q=>Q true H
theorem dZ {X:Cx}:Cs X [] BX:=fun _ _ _ H _ I h=>wpAny_tests_nil ⟨H,I,h⟩
theorem eY {X:Cx}{c:Expr}{t:TT} (h:PT X c t):Cs X [c] t:=fun pins s σ H Q I hq=>wpAny_tests_one (h pins s σ H Q I hq)
theorem nP {prog:Program}{w:World}{A:Around}{R:Result->Shared->Prop}{elt target iter:Expr}{ifs:List Expr}{scope:Scope}{pos:Pos}{it acc:Value}{env:Env} (Z:Nat->Shared->Prop)
  (turn:∀ n s,Z n s->wpAny (model prog w) A (pyNext it) (fun r s1=>match r with
   | none=>R (.ok .next) s1
   | some v=>wpAny (model prog w) A (letOwnedTupleGo target it v) (fun _ s2=>wpAny (model prog w) A (assign target env v) (fun _ s3 =>
     wpAny (model prog w) A (forIn ifs true fun c r=>if r=true then do
      let ok <- isTrue c env (eval c env)
      pure (ForInStep.yield ok) else pure (ForInStep.yield r)) (fun ok s4 =>
       if ok=true then wpAny (model prog w) A (eval elt env) (fun x s5=>wpAny (model prog w) A (call (.builtin "list.append") [acc,x]) (fun _ s6=>∃ m,m<n/\Z m s6) (fun _ _=>False) s5) (fun _ _=>False) s4
       else ∃ m,m<n/\Z m s4) (fun _ _=>False) s3) (fun _ _=>False) s2) (fun _ _=>False) s1) (fun _ _=>False) s)
  (n:Nat) {s:Shared} (h:Z n s):codeAny (model prog w) A (.compLoop (.ListComp elt [⟨target,iter,ifs,0⟩] scope pos) 0 it acc env) R s:=by
 refine codeAny_loop rfl Z (fun n s hZ=>?_) n h;show wpAny _ A ((compTurn (.ListComp elt [⟨target,iter,ifs,0⟩] scope pos) 0 it acc env).onRaise (fun x=>do
  noteFrame x env
  theTreesLotGoes x)) _ _ s
 refine wpAny_noted ?_;rw[compTurn_list];have no:∀ {α:Type}{m:Sem α}{Q:α->Shared->Prop}{E':Value->Shared->Prop}{s:Shared},wpAny (model prog w) A m Q (fun _ _=>False) s->wpAny (model prog w) A m Q E' s :=
  fun h=>wpAny_mono h (fun _ _ q=>q) fun _ _ z=>False.elim z
 refine wpAny_bind (wpAny_standAt (wpAny_bind (no (bA (turn n s hZ) fun r s1 h1=>?_))))
 cases r with
 | none=>exact wpAny_pure h1
 | some v =>
  refine wpAny_bind (no (bA h1 fun _ s2 h2=>wpAny_bind (no (bA h2 fun _ s3 h3=>wpAny_bind (no (bA h3 fun ok s4 h4=>?_))))))
  cases ok with
  | false=>exact wpAny_pure ⟨rfl,h4⟩
  | true=>exact wpAny_bind (wpAny_bind (no (bA h4 fun x s5 h5=>wpAny_bind (no (bA h5 fun _ s6 h6=>wpAny_pure (wpAny_pure ⟨rfl,h6⟩))))))
theorem fk.EM {P:Program}{w:World}{H:Hp}{h:Heap}{a:Addr}{o:HO} (x:fk P w H h) (hn:H a=none) (new:bG P w (upd H a o) h a o):fk P w (upd H a o) h:=fun b u e=>by
 by_cases hb:b=a
 ·subst hb;rw[aa] at e;cases e;exact new
 ·rw[ah hb] at e
  exact (x b u e).pT (fun c v _ q=>q) (fun c q=>by rw[ah (ag q hn)];exact q) fun c xs q=>by rw[ah (ag q hn)];exact q
structure Ad (X:Cx) (scope:Scope) (cl:List (Str×Addr)):Prop where
 is:closureFor scope X.env=pure cl
 sub:∀ x c,cl.lookup x=some c->X.env.cells.lookup x=some c
 has:∀ x,scope.names.lookup x=some .free->∃ c,cl.lookup x=some c
structure fE (X:Cx) (scope:Scope) (N':List Str) (ix:List (Option Nat)):Prop where
 kind:scope.kind=.function
 nocell:∀ y∈scope.names,y.2≠.cell
 names:∀ y∈scope.names,y.2=.local->scope.names.lookup y.1=some .local
 len:ix.length=N'.length
 at_:∀ (i j:Nat),ix[i]?=some (some j)->∃ x,N'[i]?=some x/\X.N[j]?=some x/\scope.names.lookup x=some .free
 free_:∀ y∈scope.names,y.2=.free->X.env.scope.names.lookup y.1=some .cell\/X.env.scope.names.lookup y.1=some .free
theorem fE.free {X:Cx}{scope:Scope}{N':List Str}{ix:List (Option Nat)} (S:fE X scope N' ix):∀ x,scope.names.lookup x=some .free->X.env.scope.names.lookup x=some .cell\/X.env.scope.names.lookup x=some .free :=
 fun x h=>S.free_ (x,.free) (PySem.mem_of_lookup h) rfl
theorem nB {env:Env}{f:Str×NameKind->List (Str×Addr)->Sem (ForInStep (List (Str×Addr)))} (h1:∀ n c cs,env.cells.lookup n=some c->f (n,.free) cs=pure (.yield ((n,c)::cs))) (h2:∀ n k cs,k≠.free->f (n,k) cs=pure (.yield cs)) :
  ∀ (l:List (Str×NameKind)) (cs:List (Str×Addr)),(∀ y∈l,y.2=.free->∃ c,env.cells.lookup y.1=some c) ->
  ∃ cl:List (Str×Addr),forIn l cs f=pure (cl++cs)/\(∀ p∈cl,env.cells.lookup p.1=some p.2)/\(∀ y∈l,y.2=.free->∃ c,(y.1,c)∈cl)
 | [],cs,_=>⟨[],rfl,by simp,by simp⟩
 | (n,k)::r,cs,h=>by
  by_cases hk:k=.free
  ·subst hk
   obtain⟨c,hc⟩:=h (n,.free) List.mem_cons_self rfl;obtain⟨cl,e1,e2,e3⟩:=nB h1 h2 r ((n,c)::cs) fun y hy=>h y (List.mem_cons_of_mem _ hy);refine⟨cl++[(n,c)],?_,?_,?_⟩
   ·rw[List.forIn_cons,h1 n c cs hc,pure_bind]
    show forIn r ((n,c)::cs) f=_;rw[e1,List.append_assoc]
    rfl
   ·intro p hp
    rcases List.mem_append.mp hp with z|z
    ·exact e2 p z
    ·have e:p=(n,c):=by simpa using z
     subst e;exact hc
   ·intro y hy hf
    rcases List.mem_cons.mp hy with z|z
    ·subst z;exact⟨c,by simp⟩
    ·obtain⟨c',q⟩:=e3 y z hf
     exact⟨c',List.mem_append_left _ q⟩
  ·obtain⟨cl,e1,e2,e3⟩:=nB h1 h2 r cs fun y hy=>h y (List.mem_cons_of_mem _ hy)
   refine⟨cl,?_,e2,?_⟩
   ·rw[List.forIn_cons,h2 n k cs hk,pure_bind]
    exact e1
   ·intro y hy hf
    rcases List.mem_cons.mp hy with z|z
    ·subst z;exact absurd hf hk
    ·exact e3 y z hf
theorem tX {cl:List (Str×Addr)}{x:Str}{c:Addr} (h:(x,c)∈cl):∃ c',cl.lookup x=some c':=by
 induction cl with
 | nil=>cases h
 | cons p r ih =>
  obtain⟨n,c0⟩:=p
  cases hx:x == n with
  | true=>exact⟨c0,by simp only[List.lookup_cons,hx]⟩
  | false =>
   rcases List.mem_cons.mp h with z|z
   ·cases z;rw[beq_self_eq_true] at hx;cases hx
   ·obtain⟨c',q⟩:=ih z
    exact⟨c',by simp only[List.lookup_cons,hx,q]⟩
theorem rS {X:Cx}{scope:Scope}{N':List Str}{ix:List (Option Nat)} (ok:X.Ok) (S:fE X scope N' ix):∃ cl,Ad X scope cl:=by
 have go:=nB (env:=X.env) (f:=fun x r=>match x with
  | (name,kind)=>if (kind == NameKind.free)=true then do
    let a <- cellOf X.env name
    pure (ForInStep.yield ((name,a)::r)) else pure (ForInStep.yield r)) (fun n c cs hc=>by
   show (cellOf X.env n >>= fun a=>pure (ForInStep.yield ((n,a)::cs)))=_;unfold cellOf;rw[hc]
   rfl) (fun n k cs hk=>by
   have:(k == NameKind.free)=false:=by simpa using hk
   simp only[this,Bool.false_eq_true,if_false]) scope.names [] fun y hy hf=>ok.has y.1 ((S.free_ y hy hf).elim .inl .inr)
 obtain⟨cl,e1,e2,e3⟩:=go;refine⟨cl,?_,fun x c h=>e2 (x,c) (PySem.mem_of_lookup h),fun x h=>?_⟩
 ·unfold closureFor
  rw[List.append_nil] at e1;show (_ >>= _)=_;refine Eq.trans (congrArg (· >>= _) e1) ?_
  rfl
 ·obtain⟨c,q⟩:=e3 (x,.free) (PySem.mem_of_lookup h) rfl
  exact tX q
theorem dP {env:Env}:∀ {names:List (Str×NameKind)}{x:Str}{k:NameKind},
  (names.map fun (n,k)=>if (k == NameKind.free && env.scope.kind == .function && env.kindOf n == some .cell) then (n,NameKind.cell) else (n,k)).lookup x=some k ->
  names.lookup x=some k\/(names.lookup x=some .free/\k=.cell)
 | [],_,_,h=>by simp at h
 | (n,k0)::r,x,k,h=>by
  have ih:=@dP env r x k;have h:List.lookup x ((if (k0 == NameKind.free && env.scope.kind == .function && env.kindOf n == some .cell)=true then (n,NameKind.cell) else (n,k0))::_)=some k:=h
  cases hx:x == n with
  | true =>
   by_cases hc:(k0 == NameKind.free && env.scope.kind == .function && env.kindOf n == some .cell)=true
   ·rw[if_pos hc] at h
    simp only[List.lookup_cons,hx] at h ⊢;have e:k0=.free:=by
     rw[Bool.and_eq_true,Bool.and_eq_true] at hc;exact eq_of_beq hc.1.1
    right
    cases h;exact⟨by rw[e],rfl⟩
   ·rw[if_neg hc] at h
    simp only[List.lookup_cons,hx] at h ⊢;exact .inl h
  | false =>
   by_cases hc:(k0 == NameKind.free && env.scope.kind == .function && env.kindOf n == some .cell)=true
   ·rw[if_pos hc] at h
    simp only[List.lookup_cons,hx] at h ⊢;exact ih h
   ·rw[if_neg hc] at h
    simp only[List.lookup_cons,hx] at h ⊢;exact ih h
theorem dw {env:Env}:∀ {names:List (Str×NameKind)}{x:Str},names.lookup x=some .free ->
  (names.map fun (n,k)=>if (k == NameKind.free && env.scope.kind == .function && env.kindOf n == some .cell) then (n,NameKind.cell) else (n,k)).lookup x=some .free \/
  (names.map fun (n,k)=>if (k == NameKind.free && env.scope.kind == .function && env.kindOf n == some .cell) then (n,NameKind.cell) else (n,k)).lookup x=some .cell
 | [],_,h=>by simp at h
 | (n,k0)::r,x,h=>by
  have ih:=@dw env r x;show List.lookup x ((if (k0 == NameKind.free && env.scope.kind == .function && env.kindOf n == some .cell)=true then (n,NameKind.cell) else (n,k0))::_)=_\/List.lookup x ((if (k0 == NameKind.free && env.scope.kind == .function && env.kindOf n == some .cell)=true then (n,NameKind.cell) else (n,k0))::_)=_
  cases hx:x == n with
  | true =>
   simp only[List.lookup_cons,hx] at h
   cases h
   by_cases hc:(NameKind.free == NameKind.free && env.scope.kind == .function && env.kindOf n == some .cell)=true
   ·rw[if_pos hc];right;simp only[List.lookup_cons,hx]
   ·rw[if_neg hc];left;simp only[List.lookup_cons,hx]
  | false =>
   simp only[List.lookup_cons,hx] at h
   by_cases hc:(k0 == NameKind.free && env.scope.kind == .function && env.kindOf n == some .cell)=true
   ·rw[if_pos hc];simp only[List.lookup_cons,hx];exact ih h
   ·rw[if_neg hc];simp only[List.lookup_cons,hx];exact ih h
theorem wG {ix:List (Option Nat)}{σ:St}{i:Nat}{v:V} (h:(pick ix σ)[i]?=some (some v)):∃ j,ix[i]?=some (some j)/\σ[j]?=some (some v):=by
 unfold pick at h;rw[List.getElem?_map] at h
 cases e:ix[i]? with
 | none=>rw[e] at h;cases h
 | some o =>
  rw[e] at h
  cases o with
  | none=>cases h
  | some j =>
   refine⟨j,rfl,?_⟩;have h':(match σ[j]? with
    | some (some v)=>some v
    | _=>none)=some v:=Option.some.inj h
   split at h'
   ·rename_i u q
    cases h';exact q
   ·cases h'
section
variable {X:Cx}{pins:List (Addr×Obj)}{σ:St}{scope:Scope}{cl:List (Str×Addr)}{N':List Str}{ix:List (Option Nat)}
theorem Inv.comp {fp:List Addr}{H:Hp}{s s4:Shared}{C:Addr}{m:Str->Option Value} (I:Inv X pins σ H s) (K:Ad X scope cl) (S:fE X scope N' ix) (hc:s.heap.objs.size<=C)
  (hf:∀ b∈fp,kC X pins H b) (hfp:∀ b∈fp,b<s.heap.objs.size) (ho:s4.os=s.os) (hb:AllBare s4.gens) (k:∀ b o,s.heap.get? b=some o->s4.heap.get? b=some o) (hn:s4.heap.Ns C m) :
  Inv (lu X scope cl C N' fp s H) [] (pick ix σ) H s4:=by
 have ltc:∀ x c,X.env.cells.lookup x=some c->c<s.heap.objs.size:=fun x c e=>by
  obtain⟨v,z⟩:=I.cell x c e;exact z.lt
 refine⟨⟨I.ok.mod,S.kind,I.ok.glob,I.ok.blt,hc,fun x y c h1 h2=>I.ok.inj x y c (K.sub x c h1) (K.sub y c h2),fun x hx=>?_,(fun x c z=>nomatch z),I.ok.hd,I.ok.frames,.inl rfl,fun b hb=>?_,
   I.bs,Nat.le_trans I.ok.bsz I.sz,fun b o e hb=>?_,fun b hb hs=>?_,I.stack,I.jc⟩,
  ho,hb,Un.kept k,⟨m,hn,fun i x v e1 e2 e3=>?_⟩,fun x c e=>?_,I.hok.fresh hc,fun x c e=>I.freeC x c (K.sub x c e),fun p hp=>absurd (show p∈([]:List (Addr×Obj)) from hp) (by simp),I.hok.kept k,?_⟩
 ·refine K.has x ?_
  rcases hx with hx|hx
  ·rcases dP (env:=X.env) hx with z|z
   ·exact absurd rfl (S.nocell _ (PySem.mem_of_lookup z))
   ·exact z.1
  ·rcases dP (env:=X.env) hx with z|z
   ·exact z
   ·exact nomatch z.2
 ·refine⟨Nat.ne_of_lt (Nat.lt_of_lt_of_le (hfp b hb) hc),fun x c e=>?_⟩
  exact (hf b hb).2.2.2.2.1 x c (K.sub x c e)
 ·rcases (hf b hb).2.2.2.1 with z|z
  ·exact I.ok.noex b o e z
  ·exact absurd (Nat.lt_of_lt_of_le (Heap.lt_size (I.ok.bs b o e).1) z) (Nat.lt_irrefl _)
 ·rcases List.mem_cons.mp (I.lY b hs) with z|z
  ·exact (hf b hb).2.1 z
  ·exact (hf b hb).2.2.1 z
 ·obtain⟨j,q1,q2⟩:=wG e2
  obtain⟨y,n1,n2,n3⟩:=S.at_ i j q1;have e1:N'[i]?=some x:=e1;rw[e1] at n1
  cases n1;obtain⟨m0,_,hl⟩:=I.loc;have vis:Dh X.env.scope x:=(S.free x n3).elim (fun z=>.inr (.inl z)) fun z=>.inr (.inr z);obtain⟨u,r,l⟩:=hl j x v n2 q2 vis;refine⟨u,r,.inr ⟨?_,?_⟩⟩
  ·exact (dw (env:=X.env) n3).elim .inr .inl
  ·obtain⟨c,ec⟩:=K.has x n3
   refine⟨c,ec,?_⟩;rcases l with ⟨kl,_⟩|⟨_,c',e',z⟩
   ·have kl:X.env.scope.names.lookup x=some .local:=kl
    rcases S.free x n3 with z|z
    ·rw[kl] at z;cases z
    ·rw[kl] at z;cases z
   ·rw[K.sub x c ec] at e'
    cases e';exact z.keeps k
 ·obtain⟨v,z⟩:=I.cell x c (K.sub x c e)
  exact⟨v,z.keeps k⟩
 ·show (pick ix σ).length=N'.length
  unfold pick;rw[List.length_map];exact S.len
theorem lA {elt iter tg:Expr}{ifs:List Expr}{pos:Pos}{s:Shared}{H:Hp}{it:Addr}{fp:List Addr}{tn:Nat->Heap->Prop}{J:It}{g:TG}{tc:TT}{te:TE}{RR:Value->Addr->Result->Shared->Prop}{E:Value->Shared->Prop}
  (hc:X.calm=true) (K:Ad X scope cl) (S:fE X scope N' ix)
  (hg:∀ C fp s H,PG (lu X scope cl C N' fp s H) tg g) (ht:∀ C fp s H,Cs (lu X scope cl C N' fp s H) ifs tc) (he:∀ C fp s H,PE (lu X scope cl C N' fp s H) elt te)
  (I:Inv X pins σ H s) (T:Turn X.prog X.w X.K tg J fp it tn) (st:tn 0 s.heap) (hf:∀ b∈fp,kC X pins H b)
  (W:Nat->Nat->List V->Hp->Prop) (F:List V->Hp->Prop) (m0:Nat) (w0:W 0 m0 [] H)
  (turn:∀ i m ys H2,W i m ys H2->(J.stop i H2/\F ys H2)\/(J.go i H2/\ys.length<sizeLine/\∀ x H3,J.yld i H2 x H3->g x (pick ix σ) H3 fun σ4 H4=>Wk (pick ix σ) σ4 /\
   tc σ4 H4 fun b H5=>if b=true then te σ4 H5 fun y H6=>∃ m',m'<m/\W (i+1) m' (ys++[y]) H6 else ∃ m',m'<m/\W (i+1) m' ys H5))
  (hRR:∀ ys H' D C s' mC,F ys H'->H' D=none->(ys.length<=sizeLine->Inv X pins σ (upd H' D (.lst ys)) s')->s'.heap.Ns C mC->upd H' D (.lst ys) C=none->C≠X.env.locals->X.s₀.heap.objs.size<=C ->
   (∀ x c,X.env.cells.lookup x=some c->c≠C)->(∀ p∈X.pn++pins,p.1≠C)->RR (.ref D) C (.ok .next) s') :
  wpAny (model X.prog X.w) X.A (newList []) (fun acc s3=>wpAny (model X.prog X.w) X.A (newFunctionEnv scope X.env.globals cl [] X.env.qual none .none (some X.env)) (fun cenv s4 =>
   codeAny (model X.prog X.w) X.A (.compStart (.ListComp elt [⟨tg,iter,ifs,0⟩] scope pos) 0 (.ref it) acc { cenv with scope:=relabel scope X.env }) (RR acc cenv.locals) s4) E s3) E s:=by
 refine wpAny_newObj_type (wpAny_newFunctionEnv S.nocell (by intro y hy;simp at hy) (fun h1 hn1 sb1=>?_) S.kind);dsimp only at hn1 sb1 ⊢;generalize hG:s.heap.push { cls:=.type "list",dict:=none,data:=.seq ([]:List Value).toArray }=G at hn1 sb1 ⊢;have hC:G.objs.size=s.heap.objs.size+1:=by rw[<- hG,Heap.size_push]
 have hD:s.heap.objs.size≠G.objs.size:=by omega
 have lC:∀ b:Nat,b<s.heap.objs.size->b≠G.objs.size:=fun b h=>by omega
 have lD:∀ b:Nat,b<s.heap.objs.size->b≠s.heap.objs.size:=fun b h=>by omega
 have hfp:∀ b∈fp,b<s.heap.objs.size:=fun b hb=>by
  obtain⟨o,e,_⟩:=T.obj 0 _ st b hb;exact Heap.lt_size e
 have old:∀ b o,s.heap.get? b=some o->h1.get? b=some o:=fun b o e=>sb1.extBut b o (lC b (Heap.lt_size e)) (Heap.get?_push_of_some _ (hG ▸ Heap.get?_push_of_some _ e));have acc0:h1.PlainList s.heap.objs.size ([]:List Value).toArray:=⟨_,sb1.extBut _ _ hD (Heap.get?_push_of_some _ (hG ▸ Heap.get?_push_size _ rfl))⟩;have fresh:∀ a,s.heap.objs.size<=a->H a=none:=fun a ha=>I.hok.fresh ha;have cD:∀ x c,cl.lookup x=some c->c<s.heap.objs.size:=fun x c e=>by
  obtain⟨v,z⟩:=I.cell x c (K.sub x c e);exact z.lt
 have loop:∀ s3:Shared,s3={ s with heap:=h1,toks:=s.toks+([]:List (Str×Value)).length } ->
   codeAny (model X.prog X.w) X.A (.compLoop (.ListComp elt [⟨tg,iter,ifs,0⟩] scope pos) 0 (.ref it) (.ref s.heap.objs.size) (compEnvC scope cl G.objs.size X.env)) (RR (.ref s.heap.objs.size) G.objs.size) s3:=by
  rintro s3 rfl;have I4:Inv (lu X scope cl G.objs.size N' fp s H) [] (pick ix σ) H { s with heap:=h1,toks:=s.toks+([]:List (Str×Value)).length }:=I.comp K S (by omega) hf hfp rfl I.bare old hn1;refine nP (env:=compEnvC scope cl G.objs.size X.env) (fun n s'=>∃ i ys its H',Inv (lu X scope cl G.objs.size N' fp s H) [] (pick ix σ) H' s'/\tn i s'.heap/\(∀ b∈fp,H' b=none)/\H' s.heap.objs.size=none /\
   s'.heap.PlainList s.heap.objs.size its.toArray/\Vals ys its/\W i n ys H') ?_ m0 ⟨0,[],[],H,I4,T.keep 0 _ _ st fun b hb o e=>old b o e,fun b hb=>(hf b hb).1,fresh _ (Nat.le_refl _),acc0,.nil,w0⟩
  rintro n s3 ⟨i,ys,its,H3,I3,st3,fr3,frD,ac3,Cr,w3⟩;have fD:kC (lu X scope cl G.objs.size N' fp s H) [] H3 s.heap.objs.size :=
   ⟨frD,hD,fun z=>by
    obtain⟨_,o,e,_⟩:=I.stack.mem z;exact absurd (Heap.lt_size e) (Nat.lt_irrefl _),.inr (Nat.le_refl _),fun x c e=>Nat.ne_of_lt (cD x c e),fun p hp=>absurd (show p∈([]:List (Addr×Obj)) from hp) (by simp)⟩
  have I3':=I3.pinned (fp:=[s.heap.objs.size]) (fun b hb=>by
   have e:b=s.heap.objs.size:=by simpa using hb
   subst e;exact fD) (fun b hb=>by
   have e:b=s.heap.objs.size:=by simpa using hb
   subst e;obtain⟨n',e'⟩:=ac3;exact⟨_,e',fun v z=>by cases (show Data.seq _ _=Data.cell v from z)⟩)
  have pD:∀ p∈[]++dG [s.heap.objs.size] s3.heap,p.1=s.heap.objs.size:=fun p hp=>by
   have z:p∈dG [s.heap.objs.size] s3.heap:=by simpa using hp
   simpa using (kO z).1
  have stat:∀ {H':Hp},(∀ b∈fp,H' b=none)->∀ b∈fp,kC (lu X scope cl G.objs.size N' fp s H) ([]++dG [s.heap.objs.size] s3.heap) H' b:=fun hn b hb =>
   ⟨hn b hb,lC b (hfp b hb),fun z=>by
    rcases List.mem_cons.mp (I.lY b z) with q|q
    ·exact (hf b hb).2.1 q
    ·exact (hf b hb).2.2.1 q,.inl hb,fun x c e=>(hf b hb).2.2.2.2.1 x c (K.sub x c e),fun p hp=>by
     rw[pD p hp];exact Ne.symm (lD b (hfp b hb))⟩
  rcases turn i n ys H3 w3 with ⟨stop,fin⟩|⟨go,hsz,step⟩
  ·refine bA (T.done (lu X scope cl G.objs.size N' fp s H) rfl rfl rfl hc i _ s3 _ H3 (fun _ _=>False) I3' (stat fr3) st3 stop) fun r s4 ⟨hr,I5⟩=>?_
   subst hr;show RR _ _ (.ok .next) s4;have ac4:s4.heap.PlainList s.heap.objs.size its.toArray:=by
    obtain⟨n',e'⟩:=ac3;exact⟨n',(I5.pin (s.heap.objs.size,_) (List.mem_append_right _ (List.mem_append_right _ (dc (by simp) e')))).1⟩
   obtain⟨mC,hnC,_⟩:=I5.loc;have yn:upd H3 s.heap.objs.size (.lst ys) G.objs.size=none:=by rw[ah (Ne.symm hD)];exact I5.free
   refine hRR ys H3 _ _ s4 mC fin frD (fun hz=>?_) hnC yn ?_ ?_ ?_ ?_
   ·refine I.yV (ch:=fp) I5.os ⟨fun b o e q hb hx=>I5.base.keep b o e q hb hx,fun b o e q hb hx=>I5.base.slot b o e q hb hx,fun b o e q hx=>?_,fun b o e hx=>I5.base.there b o e hx,fun b xs e=>?_,fun b o u e=>?_,fun b ps e=>?_⟩ ?_ I5.bare fun b hb=>?_
    ·rw[ah (Nat.ne_of_lt (Heap.lt_size e))];exact I5.base.free b o e q hx
    ·have z:=I5.base.tups b xs e
     rw[ah (ag z frD)];exact z
    ·have z:=I5.base.frzs b o u e
     rw[ah (ag z frD)];exact z
    ·obtain⟨more,z⟩:=I5.base.tbls b ps e
     exact⟨more,by rw[ah (ag z frD)];exact z⟩
    ·obtain⟨n',e'⟩:=ac4
     exact I5.hok.EM frD ⟨hz,its,n',Cr,e'⟩
    ·exact⟨(hf b hb).2.2.2.1,(hf b hb).2.1,(hf b hb).2.2.2.2.1,(hf b hb).2.2.2.2.2⟩
   ·exact Ne.symm (lC _ I.lt)
   ·exact Nat.le_trans I.sz (by omega)
   ·intro x c e
    obtain⟨v,q⟩:=I.cell x c e;exact lC _ q.lt
   ·intro p hp
    exact lC _ (Heap.lt_size (I.pin p hp).1)
  ·refine bA (T.item (lu X scope cl G.objs.size N' fp s H) rfl rfl rfl hc i _ s3 _ H3 (fun _ _=>False) I3' (stat fr3) st3 go) fun r s4 ⟨u,hr,h4⟩=>?_
   subst hr;refine bA h4 fun _ s5 ⟨x,H5,I5,r5,y5,st5,fr5⟩=>?_;have I5':=I5.pinned (stat fr5) (T.obj _ _ st5);refine bA (hg _ _ _ _ _ s5 _ H5 x u _ I5' r5 (step x H5 y5)) fun _ s6 ⟨σ6,H6,I6,wk6,q6⟩=>?_;refine bA (ht _ _ _ _ _ s6 σ6 H6 _ I6 q6) fun ok s7 ⟨H7,I7,q7⟩=>?_;obtain⟨n',e'⟩:=ac3;have pin:∀ {σ' H' s'},Inv (lu X scope cl G.objs.size N' fp s H) (([]++dG [s.heap.objs.size] s3.heap)++dG fp s5.heap) σ' H' s'->s'.heap.PlainList s.heap.objs.size its.toArray/\H' s.heap.objs.size=none/\(∀ b∈fp,H' b=none)/\tn (i+1) s'.heap:=fun {σ' H' s'} I'=>by
    have z:=I'.pin (s.heap.objs.size,_) (List.mem_append_right _ (List.mem_append_left _ (List.mem_append_right _ (dc (by simp) e'))));refine⟨⟨n',z.1⟩,z.2.1,fun b hb=>?_,T.keep _ _ _ st5 fun b hb o e=>(I'.pin (b,o) (List.mem_append_right _ (List.mem_append_right _ (dc hb e)))).1⟩;obtain⟨o,e,_⟩:=T.obj _ _ st5 b hb;exact (I'.pin (b,o) (List.mem_append_right _ (List.mem_append_right _ (dc hb e)))).2.1
   have free:∀ {σ' H' s'},Inv (lu X scope cl G.objs.size N' fp s H) (([]++dG [s.heap.objs.size] s3.heap)++dG fp s5.heap) σ' H' s'->Inv (lu X scope cl G.objs.size N' fp s H) [] σ' H' s':=fun I'=>I'.mE fun p hp=>absurd hp (by simp)
   cases ok with
   | false =>
    rw[if_neg Bool.false_ne_true] at q7 ⊢;obtain⟨m',hm,w7⟩:=q7;obtain⟨a7,d7,f7,t7⟩:=pin I7;exact⟨m',hm,i+1,ys,its,H7,(free I7).weak wk6.1.symm wk6.2,t7,f7,d7,a7,Cr,w7⟩
   | true =>
    rw[if_pos rfl] at q7 ⊢;refine bA (he _ _ _ _ _ s7 σ6 H7 _ I7 q7) fun y s8 ⟨yv,H8,I8,r8,m',hm,w8⟩=>?_;obtain⟨a8,d8,f8,t8⟩:=pin I8;have hl:=Cr.length;refine wpAny_list_append_plain (hsz:=by rw[List.size_toArray];omega) a8 fun h' pl sb=>?_;have J8:Inv (lu X scope cl G.objs.size N' fp s H) [] (pick ix σ) H8 { s8 with heap:=h',toks:=s8.toks } :=
     ((free I8).weak wk6.1.symm wk6.2).turned (fun b o hb e=>(sb.2 b hb).trans e) d8 hD (.inr (Nat.le_refl _)) (fun x c e=>Nat.ne_of_lt (cD x c e)) fun p hp=>absurd (show p∈([]:List (Addr×Obj)) from hp) (by simp)
    refine⟨m',hm,i+1,ys++[yv],its++[y],H8,J8,T.keep _ _ _ t8 fun b hb o e=>(sb.2 b (lD b (hfp b hb))).trans e,f8,d8,?_,Cr.append (.cons r8 .nil),w8⟩;rw[<- List.push_toArray];exact pl
 exact codeAny_compStart_list (loop _ rfl) (T.self _ _ _ _ _ (T.keep 0 _ _ st fun b hb o e=>old b o e) (loop _ rfl))
end
end L2
end
section
namespace L2
open PySem PySem.Spec PyProof.Rows
section
variable {X:Cx}{scope:Scope}{N':List Str}{ix:List (Option Nat)}{elt iter tg:Expr}{ifs:List Expr}{pos:Pos}{wi:TI}{g:TG}{tc:TT}{te:TE}
noncomputable def vC (ix:List (Option Nat)) (wi:TI) (g:TG) (tc:TT) (te:TE) (σ:St) (H:Hp) (F:List V->Hp->Prop):Prop:=wi σ H fun J H1=>∃ W:Nat->Nat->List V->Hp->Prop,(∃ m,W 0 m [] H1)/\∀ i m ys H2,W i m ys H2 ->
 (J.stop i H2/\ys.length<=sizeLine/\F ys H2) \/
 (J.go i H2/\ys.length<sizeLine/\∀ x H3,J.yld i H2 x H3->g x (pick ix σ) H3 fun σ4 H4=>Wk (pick ix σ) σ4 /\
   tc σ4 H4 fun b H5=>if b=true then te σ4 H5 fun y H6=>∃ m',m'<m/\W (i+1) m' (ys++[y]) H6 else ∃ m',m'<m/\W (i+1) m' ys H5)
noncomputable def qy (ix:List (Option Nat)) (wi:TI) (g:TG) (tc:TT) (te:TE):TE:=fun σ H Q=>vC ix wi g tc te σ H fun ys H2=>∀ d,H2 d=none->Q (.ref d) (upd H2 d (.lst ys))
theorem cI (hc:X.calm=true) (S:fE X scope N' ix) (hi:PI X tg iter wi)
  (hg:∀ cl C fp s H,PG (lu X scope cl C N' fp s H) tg g) (ht:∀ cl C fp s H,Cs (lu X scope cl C N' fp s H) ifs tc) (he:∀ cl C fp s H,PE (lu X scope cl C N' fp s H) elt te)
  (hs:∀ x,foldedSetIterable iter X.env x=pure x:=by intro _;rfl):PE X (.ListComp elt [⟨tg,iter,ifs,0⟩] scope pos) (qy ix wi g tc te):=by
 intro pins s σ H Q I h;obtain⟨cl,K⟩:=rS I.ok S;rw[eval_ListComp];refine wpAny_comprehension_free (use:=none) rfl hs K.is S.kind S.names (bA (hi pins s σ H _ I h) fun v s1 h1=>bA h1 fun itv s2 h2=>?_);obtain⟨it,fp,tn,J,H2,e,I2,T,st2,f2,W,⟨m0,w0⟩,turn⟩:=h2;subst e;refine lA (RR:=fun acc C=>compPost (model X.prog X.w) X.A X.xe none (EP X pins σ Q) acc C) hc K S (hg cl) (ht cl) (he cl) I2 T st2 f2 W _ m0 w0 turn ?_;intro ys H' D C s' mC ⟨hz,q⟩ hD hI hn hCn hC1 hC2 hC3 hC4;refine⟨mC,hn,fun h' hs'=>⟨.ref D,_,?_,rfl,q D hD⟩⟩;exact (hI hz).turned (h':=h') (t':=s'.toks) (fun b o hb e=>(hs'.2 b hb).trans e) hCn hC1 (.inr hC2) hC3 hC4
noncomputable def uu (i:Nat) (ix:List (Option Nat)) (wi:TI) (g:TG) (tc:TT) (te:TE):TS:=fun D σ H=>vC ix wi g tc te σ H fun ys H2=>∀ d,H2 d=none->D.nx (σ.set i (some (.ref d))) (upd H2 d (.lst ys))
theorem mv {i:Nat}{y:Str}{py spos:Pos} (hN:X.N.Nodup) (hi':X.N[i]?=some y) (hy:X.env.scope.names.lookup y=some .local) (hc:X.calm=true) (S:fE X scope N' ix) (hi:PI X tg iter wi)
  (hg:∀ cl C fp s H,PG (lu X scope cl C N' fp s H) tg g) (ht:∀ cl C fp s H,Cs (lu X scope cl C N' fp s H) ifs tc) (he:∀ cl C fp s H,PE (lu X scope cl C N' fp s H) elt te)
  (hsw:swapsWith (.ListComp elt [⟨tg,iter,ifs,0⟩] scope pos) (some (.Name y py)) spos.line X.env=pure true:=by rfl)
  (hs:∀ x,foldedSetIterable iter X.env x=pure x:=by intro _;rfl):PS X (.Assign [.Name y py] (.ListComp elt [⟨tg,iter,ifs,0⟩] scope pos) spos) (uu i ix wi g tc te):=by
 intro pins s σ H D I h;obtain⟨cl,K⟩:=rS I.ok S;rw[exec_Assign_Name_used _ _ _ _ hsw];refine wpAny_bind (wpAny_standAt (wpAny_bind ?_));show wpAny _ X.A (do
  let _ <- comprehension (.ListComp elt [⟨tg,iter,ifs,0⟩] scope pos) scope X.env _ (newList []) false (eval iter X.env) (some (assign (.Name y py) X.env))) _ _ s
 refine wpAny_bind (bA (wpAny_comprehension_free (use:=some (assign (.Name y py) X.env)) (Q:=fun _ s'=>SP X pins D .next s') rfl hs K.is S.kind S.names
  (bA (hi pins s σ H _ I h) fun v s1 h1=>bA h1 fun itv s2 h2=>?_)) fun _ s' hq=>wpAny_pure (wpAny_pure hq))
 obtain⟨it,fp,tn,J,H2,e,I2,T,st2,f2,W,⟨m0,w0⟩,turn⟩:=h2;subst e;refine lA (RR:=fun acc C=>compPost (model X.prog X.w) X.A X.xe (some (assign (.Name y py) X.env)) (fun _ s'=>SP X pins D .next s') acc C) hc K S (hg cl) (ht cl) (he cl) I2 T st2 f2 W _ m0 w0 turn ?_;intro ys H' D' C s' mC ⟨hz,q⟩ hD hI hn hCn hC1 hC2 hC3 hC4;show wpAny _ X.A (assign (.Name y py) X.env (.ref D')) _ _ _;refine wpAny_assign_Name (kZ (hI hz) hN hi' (.inl hy) (show RelV (.ref D') (.ref D') from rfl) (fun s3 I3 ⟨a,sb,ha⟩=>?_) (.inr hy));have ne:C≠a:=by
  rcases ha with z|z
  ·rw[z];exact hC1
  ·exact fun w=>hC3 _ _ z w.symm
 refine⟨mC,hn.sameBut sb ne,fun h' hs'=>⟨_,_,?_,q D' hD⟩⟩;exact I3.turned (h':=h') (t':=s3.toks) (fun b o hb e=>(hs'.2 b hb).trans e) hCn hC1 (.inr hC2) hC3 hC4
end
end L2
end
section
namespace L2
open PySem PySem.Spec PyProof.Rows
noncomputable def sgn (c:Nat):V:=.str ⟨#[c]⟩
noncomputable def C_ (x:Str):It:=⟨fun i _=>i<x.cps.size,fun i H v H'=>H'=H/\∃ c,x.cps[i]?=some c/\v=sgn c,fun i _=>x.cps.size<=i⟩
theorem pb {P:Program}{w:World}{K:PySem.W.Frag}{tg:Expr}{T:String}{it:Addr}{x:Str}{t:Tok}
  (hT:["enumerate","zip","dict_itemiterator","dict_reverseitemiterator","odict_iterator","itertools.zip_longest","itertools.pairwise"].contains T=false)
  (item:∀ {A:Around}{E:Value->Shared->Prop}{s:Shared}{i c:Nat}{Q:Option Value->Shared->Prop},s.heap.IsStrIter it T x t i->x.cps[i]?=some c ->
   (∀ h',h'.IsStrIter it T x t (i+1)->Heap.SameBut it s.heap h'->Q (some (.str ⟨#[c]⟩ s.toks)) { s with heap:=h',toks:=s.toks+1 })->wpAny (model P w) A (pyNext (.ref it)) Q E s)
  (done:∀ {A:Around}{E:Value->Shared->Prop}{s:Shared}{i:Nat}{Q:Option Value->Shared->Prop},A.handled=none->s.heap.IsStrIter it T x t i->x.cps[i]?=none ->
   (∀ h',Heap.ExtBut it s.heap h'->Q none { s with heap:=h' })->wpAny (model P w) A (pyNext (.ref it)) Q E s)
  (self:∀ {A:Around}{E:Value->Shared->Prop}{s:Shared}{i:Nat}{Q:Value->Shared->Prop},s.heap.IsStrIter it T x t i->Q (.ref it) s->wpAny (model P w) A (pyIter (.ref it)) Q E s) :
  Turn P w K tg (C_ x) [it] it (fun i h=>h.IsStrIter it T x t i) where
 mem:=by simp
 obj:=fun i h st b hb=>by
  have e:b=it:=by simpa using hb
  subst e;obtain⟨o,e,c,d⟩:=st;exact⟨o,e,fun v z=>by rw[d] at z;cases z⟩
 keep:=fun i h h' st k=>by
  obtain⟨o,e,r⟩:=st;exact⟨o,k it (by simp) o e,r⟩
 item:=by
  intro X hP hw hK hc i pins s σ H E I hf st hg;subst hP hw hK;obtain⟨f0,f1,f2,f3,f4,f5⟩:=hf it (by simp);have hg:i<x.cps.size:=hg;refine item st (c:=x.cps[i]) (by simp[hg]) fun h' st' sb=>?_;have I1:Inv X pins σ H { s with heap:=h',toks:=s.toks+1 }:=I.turned (fun b o hb e=>(sb.2 b hb).trans e) f0 f1 f3 f4 f5;obtain⟨o,e,c,d⟩:=id st';exact⟨_,rfl,lJ (s:={ s with heap:=h',toks:=s.toks+1 }) e c d hT ⟨sgn x.cps[i],H,I1,⟨_,rfl⟩,⟨rfl,_,by simp[hg],rfl⟩,st',fun b hb=>(hf b hb).1⟩⟩
 done:=by
  intro X hP hw hK hc i pins s σ H E I hf st hg;subst hP hw hK;obtain⟨f0,f1,f2,f3,f4,f5⟩:=hf it (by simp);have hg:x.cps.size<=i:=hg;exact done (I.ok.hd hc) st (by simp[hg]) fun h' eb=>⟨rfl,I.turned (t':=s.toks) (fun b o hb e=>eb b o hb e) f0 f1 f3 f4 f5⟩
 self:=fun _ _ _ _ _ st h=>self st h
section
variable {X:Cx}{tg:Expr}
noncomputable def Ba (tl:TE):TI:=fun σ H R=>tl σ H fun v H1=>∃ x,v=.str x/\R (C_ x) H1
theorem qE {l:Expr}{tl:TE} (hl:PE X l tl):PI X tg l (Ba tl):=by
 intro pins s σ H R I h;refine bA (hl pins s σ H _ I h) fun v s1 ⟨y,H1,I1,r1,q1⟩=>?_;obtain⟨x,e,q⟩:=q1;subst e;obtain⟨t,rfl⟩:=r1;have fin:∀ (o:Obj) (T:String),(∀ it,s1.heap.objs.size=it->Turn X.prog X.w X.K tg (C_ x) [it] it (fun i h=>h.IsStrIter it T x t i))->(s1.heap.push o).IsStrIter s1.heap.objs.size T x t 0->FA X pins σ tg R (.ref s1.heap.objs.size) { s1 with heap:=s1.heap.push o }:=fun o T tu st=>by
  refine⟨s1.heap.objs.size,[s1.heap.objs.size],_,_,H1,rfl,I1.kept (t':=s1.toks) fun b o e=>Heap.get?_push_of_some _ e,tu _ rfl,st,fun b hb=>?_,q⟩;have e:b=s1.heap.objs.size:=by simpa using hb
  subst e;exact I1.qR (Nat.le_refl _) (I1.hok.fresh (Nat.le_refl _))
 cases ha:x.cps.all (·<128)
 ·exact wpAny_pyIter_wide ha (fin _ "str_iterator" (fun it _=>pb (by decide) (fun st e h=>wpAny_pyNext_wide_item st e h) (fun hh st e h=>wpAny_pyNext_wide_end hh st e h) (fun st h=>wpAny_pyIter_striter_wide st h)) ⟨_,Heap.get?_push_size _ rfl,rfl,rfl⟩)
 ·exact wpAny_pyIter_ascii ha (fin _ "str_ascii_iterator" (fun it _=>pb (by decide) (fun st e h=>wpAny_pyNext_ascii_item st e h) (fun hh st e h=>wpAny_pyNext_ascii_end hh st e h) (fun st h=>wpAny_pyIter_striter_ascii st h)) ⟨_,Heap.get?_push_size _ rfl,rfl,rfl⟩)
noncomputable def Gh (lo c:Int) (n:Nat):It:=⟨fun i _=>i<n,fun i H x H'=>H'=H/\x=.int (lo+i * c),fun i _=>n<=i⟩
theorem ua {P:Program}{w:World}{K:PySem.W.Frag}{tg:Expr} (it:Addr) (lo c:Int) (n:Nat):Turn P w K tg (Gh lo c n) [it] it (fun i h=>IsRangeIter h it (lo+(i:Nat) * c) ((n:Int) - (i:Nat)) c) where
 mem:=by simp
 obj:=fun i h st b hb=>by
  have e:b=it:=by simpa using hb
  subst e;exact⟨_,st,fun v z=>by
   have z':Data.fields _=Data.cell v:=z
   cases z'⟩
 keep:=fun i h h' st k=>k it (by simp) _ st
 item:=by
  intro X hP hw hK hc i pins s σ H E I hf st hg;subst hP hw hK;obtain⟨f0,f1,f2,f3,f4,f5⟩:=hf it (by simp);have W:=Walks.range (prog:=X.prog) (w:=X.w) (I.ok.hd hc) it lo c n;refine W.item i s _ _ hg st fun v h' tk hv st' kk=>?_;obtain⟨t,rfl⟩:=hv;have I1:Inv X pins σ H { s with heap:=h',toks:=tk }:=I.turned (fun b o hb e=>kk b o (by simpa using hb) e) f0 f1 f3 f4 f5;exact⟨_,rfl,lJ (s:={ s with heap:=h',toks:=tk }) (n:="range_iterator") st' rfl rfl (by decide) ⟨.int (lo+i * c),H,I1,⟨t,rfl⟩,⟨rfl,rfl⟩,st',fun b hb=>(hf b hb).1⟩⟩
 done:=by
  intro X hP hw hK hc i pins s σ H E I hf st hg;subst hP hw hK;obtain⟨f0,f1,f2,f3,f4,f5⟩:=hf it (by simp);exact wpAny_pyNext_range_end (I.ok.hd hc) st (by have:n<=i:=hg;omega) fun h' eb=>⟨rfl,I.turned (t':=s.toks) (fun b o hb e=>eb b o hb e) f0 f1 f3 f4 f5⟩
 self:=fun _ _ _ _ _ st h=>wpAny_pyIter_rangeiter st h
noncomputable def zc (ta:TA):TI:=fun σ H R=>ta σ H fun vs H1=>∃ i j:Int,vs=[.int i,.int j,.int (-1)]/\(-(2 ^ 60)<=i/\i<2 ^ 60/\-(2 ^ 60)<=j/\j<2 ^ 60)/\R (Gh i (-1) (i - j).toNat) H1
theorem sW {a b c:Expr}{ta:TA}{p pos:Pos} (hg:Gl X "range") (hm:X.mg "range"=none) (ha:PA X [a,b,c] ta)
  (hs:starEach [a,b,c] X.env=(false,eval a X.env)::starEach [b,c] X.env:=by rfl) (hs2:(backTo pos (starEach [b,c] X.env)).any (·.1)=false:=by rfl) :
  PI X tg (.Call (.Name "range" p) [a,b,c] [] pos) (zc ta):=by
 intro pins s σ H R I h;refine Call_ (hX I hg hm boot_range (PyProof.Rows.callWith_type1 (bA (ha pos pins s σ H _ I h) fun us s1 ⟨vs,H1,I1,r1,q1⟩=>?_) hs hs2));obtain⟨i,j,e,⟨q1,q2,q3,q4⟩,q⟩:=q1;subst e
 cases r1 with
 | cons r rr =>
  cases rr with
  | cons r' rr =>
   cases rr with
   | cons r'' rr =>
    cases rr;obtain⟨t,rfl⟩:=r;obtain⟨t',rfl⟩:=r';obtain⟨t'',rfl⟩:=r'';refine call_range_3 (by decide) ?_ (Or.inl (PyProof.noPylong_small (by omega)));refine wpAny_pyIter_range (IsRange.new ..) (PySem.W.small_down (by omega) (by omega) (by omega) (by omega)) ?_;have I2:Inv X pins σ H1 { s1 with heap:=s1.heap.push { cls:=.type "range",data:=.fields #[.int i t,.int j t',.int (-1) t''] },toks:=s1.toks }:=I1.kept fun b o e=>Heap.get?_push_of_some _ e;refine⟨_,[_],_,_,H1,rfl,I2.kept (t':=s1.toks) fun b o e=>Heap.get?_push_of_some _ e,ua _ i (-1) (i - j).toNat,?_,fun b hb=>?_,q⟩
    ·have e2:(((i - j).toNat:Nat):Int) - ((0:Nat):Int)=Builtin.Range.rangeSize i j (-1):=by rw[PySem.W.rangeSize_downNat];omega
     show IsRangeIter _ _ (i+((0:Nat):Int) * (-1)) ((((i - j).toNat:Nat):Int) - ((0:Nat):Int)) (-1);rw[e2];have e1:i+((0:Nat):Int) * (-1)=i:=by omega
     rw[e1];exact Heap.get?_push_size _ rfl
    ·have e:b=(s1.heap.push { cls:=.type "range",data:=.fields #[.int i t,.int j t',.int (-1) t''] }).objs.size:=by simpa using hb
     subst e;exact I2.qR (Nat.le_refl _) (I2.hok.fresh (Nat.le_refl _))
end
end L2
end
section
namespace L2
open PySem PySem.Spec PyProof.Rows
theorem ij {P:Program}{w:World}:∀ {kvs:List (Key×V)}{vs:List (Key×Value)}{us:List Value},KV kvs vs->us.length=vs.length->(∀ (j:Nat) v,us[j]?=some v->∃ k x,vs[j]?=some (k,x)/\(bf P w).is k v=true) ->
  Vals (kvs.map fun kv=>kV kv.1) us
 | [],_,us,.nil,hl,_=>by
  cases us with
  | nil=>exact .nil
  | cons _ _=>simp at hl
 | p::kvs,_,us,.cons (b:=b) h t,hl,hv=>by
  cases us with
  | nil=>simp at hl
  | cons u us =>
   obtain⟨k,x,e1,e2⟩:=hv 0 u rfl;have e1:b=(k,x):=by simpa using e1
   refine .cons ?_ (ij (P:=P) (w:=w) t (by simpa using hl) fun j v e=>by
    obtain⟨k,x,e1,e2⟩:=hv (j+1) v (by simpa using e);exact⟨k,x,by simpa using e1,e2⟩)
   have ek:p.1=k:=by rw[h.1,e1]
   show RelV (kV p.1) u;rw[ek];rcases bM (show jX k u=true from e2) with ⟨i,t,rfl,rfl⟩|⟨y,t,rfl,rfl⟩
   ·exact⟨t,rfl⟩
   ·exact⟨t,rfl⟩
theorem gJ:∀ {ss:List Str}{us:List Value},Vals (ss.map V.str) us->StrsAre us ss
 | [],_,r=>by rw[List.map_nil] at r;cases r;exact .nil
 | y::ss,_,r=>by
  rw[List.map_cons] at r
  cases r with
  | cons h t =>
   obtain⟨tk,rfl⟩:=h;exact .cons y tk (gJ t)
theorem eT:∀ {ss:List Str}{us:List Value},StrsAre us ss->Vals (ss.map V.str) us
 | _,_,.nil=>.nil
 | _,_,.cons y t h=>.cons ⟨t,rfl⟩ (eT h)
theorem lH:∀ {ss:List Str}{p:Str},risingS p ss=true->(p::ss).Pairwise fun a b=>¬ b.cps.toList<a.cps.toList
 | [],p,_=>by simp
 | x::r,p,h=>by
  have h:(!ltCps x.cps.toList p.cps.toList && risingS x r)=true:=h;rw[Bool.and_eq_true,ltCps_eq] at h;obtain⟨h1,h2⟩:=h;have ih:=lH h2;have hp:¬ x.cps.toList<p.cps.toList:=by simpa using h1
  refine List.Pairwise.cons (fun y hy=>?_) ih;rcases List.mem_cons.mp hy with e|e
  ·subst e;exact hp
  ·have hx:=List.rel_of_pairwise_cons ih e
   intro z;rw[List.not_lt] at hp hx;exact List.not_lt.mpr (List.le_trans hp hx) z
theorem dk {ss:List Str} (h:sortedS ss=true):ss.Pairwise fun a b=>¬ b.cps.toList<a.cps.toList:=by
 cases ss with
 | nil=>exact .nil
 | cons x r=>exact lH h
section
variable {X:Cx}
theorem lO:gu X (compareOp .LtE) (fun x y H Q=>∃ i j,x=.str i/\y=.str j/\Q (.bl (!decide (j.cps.toList<i.cps.toList))) H):=by
 intro pins s σ H x y v u Q I rx ry h;obtain⟨i,j,rfl,rfl,q⟩:=h;obtain⟨t,rfl⟩:=rx;obtain⟨t',rfl⟩:=ry;exact PySem.P.le_str (aU I q rfl)
noncomputable def lW:V->List V->Hp->VK->Prop:=fun x vs H Q=>∃ i j,x=.str i/\vs=[.str j]/\Q (.bl (Txt.startswith i j)) H
theorem ky:E9 X "str.startswith" lW:=by
 intro pins s σ H x vs v us Q I rx rv h;obtain⟨i,j,rfl,rfl,q⟩:=h;obtain⟨t,rfl⟩:=rx;obtain⟨u,rfl,t',rfl⟩:=rv.one;exact SC.startswith (aU I q rfl)
noncomputable def AA:V->Option Int->Option Int->Hp->VK->Prop:=fun x lo hi H Q=>∃ z,x=.str z/\(StrLaws.sliceText z lo hi).length<=sizeLine/\Q (.str (StrLaws.sliceText z lo hi)) H
theorem qg:Co X AA:=by
 intro pins s σ H x v vl vu lo hi sl Q I rx hs pl pu h;obtain⟨z,rfl,hz,q⟩:=h;obtain⟨t,rfl⟩:=rx;refine⟨"str",_,slot_str_getitem.lookup,typeIs_str s z t,?_⟩;obtain⟨l,el,e1⟩:∃ l:Option (Int×Tok),vl=partValue l/\l.map (·.1)=lo:=by
  cases pl with
  | none=>exact⟨none,rfl,rfl⟩
  | int i t=>exact⟨some (i,t),rfl,rfl⟩
 obtain⟨r,er,e2⟩:∃ r:Option (Int×Tok),vu=partValue r/\r.map (·.1)=hi:=by
  cases pu with
  | none=>exact⟨none,rfl,rfl⟩
  | int i t=>exact⟨some (i,t),rfl,rfl⟩
 subst el er e1 e2;refine wpAny_getItem_str_slice (l:=l) (u:=r) (st:=none) hs rfl ?_;show Made.post (if ((1:Int) == 1 && (Builtin.Str.strSliceIndices (l.map (·.1)) (r.map (·.1)) 1 z.length).length == z.length)=true then Made.val (.str z t) else Made.str ⟨((Builtin.Str.strSliceIndices (l.map (·.1)) (r.map (·.1)) 1 z.length).filterMap (z.cps[·]?)).toArray⟩) _ _;unfold StrLaws.sliceText at q hz
 by_cases hb:((1:Int) == 1 && (Builtin.Str.strSliceIndices (l.map (·.1)) (r.map (·.1)) 1 z.length).length == z.length)=true
 ·rw[if_pos hb] at q ⊢
  exact⟨.str z,H,I,⟨t,rfl⟩,q⟩
 ·rw[if_neg hb] at q hz ⊢
  exact⟨hz,.str _,H,I.tok _,⟨_,rfl⟩,q⟩
noncomputable def sY (K:PySem.W.Frag) (neg:Bool):R2:=fun x y H Q=>∃ p p' xs,x=.ref p/\y=.ref p'/\aP K H p xs/\aP K H p' []/\Q (.bl (if neg then !decide (xs=[]) else decide (xs=[]))) H
theorem vk (hu:X.A.units<cLine):gu X (compareOp .Eq) (sY X.K false):=by
 intro pins s σ H x y v u Q I rx ry h;obtain⟨p,p',xs,rfl,rfl,h1,h2,q⟩:=h
 cases rx
 cases ry;obtain⟨its,r,pl,hz⟩:=I.list h1;obtain⟨its',r',pl',hz'⟩:=I.list h2
 cases r';have hl:=r.length
 by_cases e:xs=[]
 ·subst e
  cases r;refine SeqAt.eq_listAt (e:=fun _=>true) pl.isList pl'.isList rfl hu (fun j h1=>by simp at h1) ?_;exact⟨.bl true,H,I,rfl,by simpa using q⟩
 ·refine SeqAt.eq_list_lengthsAt pl.isList pl'.isList ?_ hu ⟨.bl false,H,I,rfl,by simpa [e] using q⟩
  cases r with
  | nil=>exact absurd rfl e
  | cons _ _=>simp
theorem dI (hc:X.calm=true):cv X (.type "list") (fun xs H Q=>∃ a kvs,xs=[.ref a]/\Rd H a (.dK kvs)/\∀ p,H p=none->Q (.ref p) (upd H p (.lst (kvs.map fun kv=>kV kv.1)))):=by
 intro pins s σ H xs us Q I r h;obtain⟨a,kvs,rfl,ha,q⟩:=h;obtain⟨u,rfl,ru⟩:=vals1 r
 cases ru;obtain⟨z,hd,vs,rel,dd⟩:=gh I.hok ha;obtain⟨ep,hat⟩:=dd.dictAt;refine PySem.W.kdl_call (PySem.W.kdl_dict (knd:=bf X.prog X.w) (kvs:=vs) (ep:=ep) hd) (I.ok.hd hc) hat (by rw[<- rel.length];exact z) fun h' tk acc c hk hD hacc=>?_;refine⟨.ref s.heap.objs.size,_,I.laid (o:=.lst (kvs.map fun kv=>kV kv.1)) hk (Nat.le_refl _) ⟨by rw[List.length_map];exact z,acc.toList,c,?_,by rw[hD]⟩,rfl,q _ (I.hok.fresh (Nat.le_refl _))⟩;obtain⟨n1,n2⟩:=hacc;refine ij (P:=X.prog) (w:=X.w) rel (by rw[Array.length_toList];exact n1) fun j v e=>?_;obtain⟨k,x,e1,e2⟩:=n2 j v (by rw[<- Array.getElem?_toList];exact e);exact⟨k,x,e1,e2⟩
end
end L2
end
section
namespace L2
open PySem PySem.Spec PyProof.Rows
noncomputable def nL (sc:Scope) (N':List Str) (ix:List (Option Nat)) (N:List Str) (osc:Scope):Bool :=
 decide (sc.kind=.function) && (sc.names.all fun y=>decide (y.2≠.cell)) && (sc.names.all fun y=>decide (y.2=.local->sc.names.lookup y.1=some .local)) && decide (ix.length=N'.length) &&
 ((List.range ix.length).all fun i=>match ix[i]? with
  | some (some j)=>(match N'[i]? with
   | some x=>decide (N[j]?=some x) && decide (sc.names.lookup x=some .free)
   | none=>false)
  | _=>true) &&
 (sc.names.all fun y=>decide (y.2=.free->osc.names.lookup y.1=some .cell\/osc.names.lookup y.1=some .free))
theorem nL.is {X:Cx}{sc:Scope}{N':List Str}{ix:List (Option Nat)}{N:List Str}{osc:Scope} (h:nL sc N' ix N osc=true) (hN:X.N=N:=by rfl) (ho:X.env.scope=osc:=by rfl):fE X sc N' ix:=by
 unfold nL at h;simp only[Bool.and_eq_true,decide_eq_true_eq,List.all_eq_true,List.mem_range] at h;obtain⟨⟨⟨⟨⟨h1,h2⟩,h3⟩,h4⟩,h5⟩,h6⟩:=h;refine⟨h1,h2,h3,h4,fun i j e=>?_,fun y hy e=>?_⟩
 ·have hi:i<ix.length:=(List.getElem?_eq_some_iff.mp e).1
  have q:=h5 i hi;rw[e] at q
  cases en:N'[i]? with
  | none=>rw[en] at q;simp at q
  | some x =>
   rw[en] at q;simp only[Bool.and_eq_true,decide_eq_true_eq] at q;exact⟨x,rfl,by rw[hN];exact q.1,q.2⟩
 ·rw[ho]
  exact h6 y hy e
noncomputable def gj (J:It) (σ':St) (g:TG) (tc:TT) (te:TE) (H1:Hp) (F:List V->Hp->Prop):Prop:=∃ W:Nat->Nat->List V->Hp->Prop,(∃ m,W 0 m [] H1)/\∀ i m ys H2,W i m ys H2 ->
 (J.stop i H2/\ys.length<=sizeLine/\F ys H2) \/
 (J.go i H2/\ys.length<sizeLine/\∀ x H3,J.yld i H2 x H3->g x σ' H3 fun σ4 H4=>Wk σ' σ4 /\
   tc σ4 H4 fun b H5=>if b=true then te σ4 H5 fun y H6=>∃ m',m'<m/\W (i+1) m' (ys++[y]) H6 else ∃ m',m'<m/\W (i+1) m' ys H5)
theorem kj {ix:List (Option Nat)}{wi:TI}{g:TG}{tc:TT}{te:TE}{σ:St}{H:Hp}{F:List V->Hp->Prop}:vC ix wi g tc te σ H F=wi σ H fun J H1=>gj J (pick ix σ) g tc te H1 F:=rfl
theorem fX {J:It}{σ':St}{g:TG}{tc:TT}{te:TE}{H:Hp}{F:List V->Hp->Prop} (n:Nat) (r:Nat->Option V) (hn:n<=sizeLine) (go:∀ i,i<n->J.go i H) (stop:J.stop n H) (yl:∀ i x H',i<n->J.yld i H x H'->H'=H)
  (step:∀ i x,i<n->J.yld i H x H->∀ (R:VK) (R':Hp->Prop),(∀ y,r i=some y->R y H)->(r i=none->R' H)->g x σ' H fun σ4 H4=>Wk σ' σ4/\tc σ4 H4 fun b H5=>if b=true then te σ4 H5 R else R' H5)
  (fin:F ((List.range n).filterMap r) H):gj J σ' g tc te H F:=by
 have hlen:∀ i,((List.range i).filterMap r).length<=i:=fun i=>by
  have:=List.length_filterMap_le r (List.range i);rw[List.length_range] at this;exact this
 refine⟨fun i m ys H'=>i<=n/\m=n - i/\H'=H/\ys=(List.range i).filterMap r,⟨n,Nat.zero_le _,by simp,rfl,rfl⟩,?_⟩;rintro i m ys H' ⟨hi,rfl,rfl,rfl⟩;have hl:=hlen i
 by_cases hlt:i<n
 ·refine .inr ⟨go i hlt,by omega,fun x H3 hy=>?_⟩
  have e:=yl i x H3 hlt hy;subst e;refine step i x hlt hy _ _ (fun y e=>⟨n - (i+1),by omega,hlt,rfl,rfl,?_⟩) fun e=>⟨n - (i+1),by omega,hlt,rfl,rfl,?_⟩
  ·rw[List.range_succ,List.filterMap_append];simp[e]
  ·rw[List.range_succ,List.filterMap_append];simp[e]
 ·have e:i=n:=by omega
  subst e;exact .inl ⟨stop,by omega,fin⟩
end L2
end
section
namespace L2
open PySem PySem.Spec PyProof.Rows
noncomputable abbrev tx (l:List Nat):Str:=⟨l.toArray⟩
theorem mI {a b:List Nat}:(tx a=tx b)↔a=b:=by
 constructor
 ·intro h
  have:=congrArg (fun x:Str=>x.cps.toList) h
  simpa using this
 ·rintro rfl;rfl
theorem fQ (l:List Nat):(tx l).length=l.length:=by simp[Str.length]
theorem fg (l:List Nat):(tx l).cps.toList=l:=by simp
theorem gY (x:Str):x=tx x.cps.toList:=by
 cases x;simp[tx]
theorem jk {l:List Nat}{i:Nat} (h:i<=l.length):StrLaws.sliceText (tx l) none (some (i:Int))=tx (l.take i):=by
 rw[StrLaws.sliceText_to ⟨by omega,by simp;omega⟩];simp
theorem jD {l:List Nat}{i:Nat} (h:i<=l.length):StrLaws.sliceText (tx l) (some (i:Int)) none=tx (l.drop i):=by
 have e:StrLaws.sliceText (tx l) (some (i:Int)) none=StrLaws.sliceText (tx l) (some (i:Int)) (some ((tx l).length:Int)):=by
  unfold StrLaws.sliceText;rw[StrLaws.sliceIdx_none_hi]
 rw[e,StrLaws.sliceText_nat (a:=i) (b:=(tx l).length) _ (by rw[fQ];exact h) (Nat.le_refl _)];rw[fQ];congr 1;rw[List.take_of_length_le (by simp)]
theorem pQ (a b:List Nat):Txt.startswith (tx a) (tx b)=b.isPrefixOf a:=by
 unfold Txt.startswith Builtin.Str.subAt;rw[fQ,fQ];rw[Bool.eq_iff_iff];simp only[Bool.and_eq_true,decide_eq_true_eq,List.isPrefixOf_iff_prefix,beq_iff_eq];rw[List.prefix_iff_eq_take];constructor
 ·rintro ⟨h1,h2⟩
  have:=congrArg Array.toList h2;simp at this;exact this.symm
 ·intro h
  have hl:b.length<=a.length:=by
   have:=congrArg List.length h;rw[List.length_take] at this;omega
  refine⟨by omega,?_⟩;apply Array.toList_inj.mp;simp;exact h.symm
structure Bl (mg:Str->Option Value):Prop where
 len:mg "len"=none
 rng:mg "range"=none
 srt:mg "sorted"=none
 lst:mg "list"=none
 dct:mg "dict"=none
 isi:mg "isinstance"=none
 str:mg "str"=none
 int:mg "int"=none
 bool:mg "bool"=none
 tup:mg "tuple"=none
 mx:mg "max"=none
 all:mg "all"=none
structure bU (P:Program) (w:World) (K:PySem.W.Frag) (mg:Str->Option Value) (base:Heap) (CX:kQ) (k:Nat) (x:Str) (ps:List Str) (sp:Sp):Prop where
 ex:∃ f fd,aR P w K mg base CX k f fd ps sp/\mg x=some (.ref f)/\PySem.W.keepIn K (.ref f)=true/\Binds K fd ps []
section
variable {X:Cx}{x:Str}{ps:List Str}{sp:Sp}{k:Nat}{e:Expr}{es:List Expr}{t:TA}{p pos:Pos}
theorem Dv (c:bU X.prog X.w X.K X.mg X.base aT k x ps sp) (hr:cc k X.A) (ha:PA X (e::es) t) (hg:Gl X x:=by rfl) (hdb:(x == ("__debug__":Str))=false:=by decide)
  (he:starEach (e::es) X.env=(false,eval e X.env)::starEach es X.env:=by rfl) (hpl:(backTo pos (starEach es X.env)).any (·.1)=false:=by rfl):PE X (.Call (.Name x p) (e::es) [] pos) (iK sp [] E0 t):=by
 obtain⟨f,fd,F,hm,hk,hb⟩:=c.ex;exact rJ F hr hg hm hk hb .nil eu ha hdb he hpl
theorem BI (c:bU X.prog X.w X.K X.mg X.base aT k x ps sp) (hr:cc k X.A) (hg:Gl X x:=by rfl) (hdb:(x == ("__debug__":Str))=false:=by decide):PE X (.Call (.Name x p) [] [] pos) (iK sp [] E0 mF):=by
 obtain⟨f,fd,F,hm,hk,hb⟩:=c.ex;exact vN F hr hg hm hk hb .nil eu hdb
end
noncomputable def Kp (H H':Hp) (l:List Addr):Prop:=∀ b o,H b=some o->b∉l->H' b=some o
theorem Kp.refl (H:Hp) (l:List Addr):Kp H H l:=fun _ _ h _=>h
theorem Kp.trans {H H1 H2:Hp}{l:List Addr} (a:Kp H H1 l) (b:Kp H1 H2 l):Kp H H2 l:=fun c o h n=>b c o (a c o h n) n
theorem Kp.new {H H1:Hp}{l:List Addr}{p:Addr}{o:HO} (a:Kp H H1 l) (hp:H p=none):Kp H (upd H1 p o) l:=fun c u e n=>by
 rw[ah (ag e hp)];exact a c u e n
theorem Kp.set {H H1:Hp}{l:List Addr}{p:Addr}{o:HO} (a:Kp H H1 l) (hp:p∈l):Kp H (upd H1 p o) l:=fun c u e n=>by
 rw[ah fun z=>n (by rw[z];exact hp)];exact a c u e n
theorem Kp.free {H H1:Hp}{l:List Addr}{p:Addr} (a:Kp H H1 l) (hp:H1 p=none) (hl:p∉l):H p=none:=by
 cases e:H p with
 | none=>rfl
 | some o=>rw[a p o e hl] at hp;cases hp
end L2
end
section
namespace L2
open PySem PySem.Spec PyProof.Rows
section
variable {X:Cx}
theorem eW:cv X (.type "dict") (fun xs H Q=>∃ a kvs,xs=[.ref a]/\Rd H a (.dK kvs)/\∀ p,H p=none->Q (.ref p) (upd H p (.dK kvs))):=by
 intro pins s σ H xs us Q I r h;obtain⟨a,kvs,rfl,ha,q⟩:=h;obtain⟨u,rfl,ru⟩:=vals1 r
 cases ru;exact v_ I ha fun p s' hp I'=>⟨.ref p,_,I',rfl,q p hp⟩
theorem B7 (hu:X.A.units<cLine):gu X (compareOp .NotEq) (sY X.K true):=by
 intro pins s σ H x y v u Q I rx ry h;obtain⟨p,p',xs,rfl,rfl,h1,h2,q⟩:=h
 cases rx
 cases ry;obtain⟨its,r,pl,hz⟩:=I.list h1;obtain⟨its',r',pl',hz'⟩:=I.list h2
 cases r'
 by_cases e:xs=[]
 ·subst e
  cases r;exact SeqAt.RcNeAt.lists (e:=fun _=>true) pl.isList pl'.isList rfl hu (fun j h1=>by simp at h1) _ _ _ _ ⟨.bl false,H,I,rfl,by simpa using q⟩
 ·refine SeqAt.RcNeAt.lists_lengths pl.isList pl'.isList ?_ hu _ _ _ _ ⟨.bl true,H,I,rfl,by simpa [e] using q⟩
  cases r with
  | nil=>exact absurd rfl e
  | cons _ _=>simp
theorem sS:cv X (.builtin "isinstance") (fun xs H Q=>∃ x T b t,xs=[x,.ty T]/\cz X.K H x t/\PySem.W.kitOne X.K t (.type T)=some b/\Q (.bl b) H):=by
 intro pins s σ H xs us Q I r h;obtain⟨x,T,b,t,rfl,ty,e,q⟩:=h;obtain⟨u,w',rfl,ru,rw'⟩:=vals2 r;obtain rfl:w'=Value.type T:=rw';exact s_ I ru ty e fun tk=>⟨.bl b,H,I.tok _,rfl,q⟩
theorem sU:cv X (.builtin "isinstance") (fun xs H Q=>∃ x tp T U b t,xs=[x,.ref tp]/\H tp=some (.tup [.ty T,.ty U])/\cz X.K H x t/\PySem.W.kitAny X.K t [.type T,.type U]=some b/\Q (.bl b) H):=by
 intro pins s σ H xs us Q I r h;obtain⟨x,tp,T,U,b,t,rfl,htp,ty,e,q⟩:=h;obtain⟨u,w',rfl,rx,rw'⟩:=vals2 r;obtain rfl:w'=Value.ref tp:=rw';obtain⟨_,its,ri,o,ho,hc,n,hd⟩:=(show bG X.prog X.w H s.heap tp (.tup [.ty T,.ty U]) from I.hok tp _ htp);obtain⟨u1,u2,rfl,r1,r2⟩:=vals2 ri;obtain rfl:u1=Value.type T:=r1;obtain rfl:u2=Value.type U:=r2;obtain⟨cls,dd,data,sl⟩:=o;simp only at hc hd;subst hc hd;have fin:∀ tk,EP X pins σ Q (.bool b) { s with toks:=tk }:=fun tk=>⟨.bl b,H,I.tok _,rfl,q⟩
 cases ty with
 | non=>cases (show u=Value.none from rx);exact PySem.W.kia_tup PySem.W.kitx_none I.eK True.intro ho e (fun z=>nomatch z) fin
 | bl y=>cases (show u=Value.bool y from rx);exact PySem.W.kia_tup PySem.W.kitx_bool I.eK True.intro ho e (fun z=>nomatch z) fin
 | int i=>obtain⟨t,q⟩:=(show ∃ t,u=Value.int i t from rx);cases q;exact PySem.W.kia_tup PySem.W.kitx_int I.eK True.intro ho e (fun z=>nomatch z) fin
 | str y=>obtain⟨t,q⟩:=(show ∃ t,u=Value.str y t from rx);cases q;exact PySem.W.kia_tup PySem.W.kitx_str I.eK True.intro ho e (fun z=>nomatch z) fin
 | flt y=>obtain⟨t,q⟩:=(show ∃ t,u=Value.float y t from rx);cases q;exact PySem.W.kia_tup PySem.W.kitx_float I.eK True.intro ho e (fun z=>nomatch z) fin
 | @lst a xs ea =>
  cases (show u=Value.ref a from rx);obtain⟨_,_,n,_,h1⟩:=(show bG X.prog X.w H s.heap a (.lst xs) from I.hok a _ ea);exact PySem.W.kia_tup PySem.W.kitx_list I.eK ⟨_,h1,rfl⟩ ho e (fun z=>nomatch z) fin
 | @frz a ob xs ea =>
  cases (show u=Value.ref a from rx);obtain⟨_,_,_,n,_,h1⟩:=(show bG X.prog X.w H s.heap a (.frz ob (.lst xs)) from I.hok a _ ea);exact PySem.W.kia_tup PySem.W.kitx_list I.eK ⟨_,h1,rfl⟩ ho e (fun z=>nomatch z) fin
 | @tup a xs ea =>
  cases (show u=Value.ref a from rx);obtain⟨_,_,_,p⟩:=(show bG X.prog X.w H s.heap a (.tup xs) from I.hok a _ ea);obtain⟨o,h1,h2,_⟩:=p;exact PySem.W.kia_tup PySem.W.kitx_tuple I.eK ⟨o,h1,h2⟩ ho e (fun z=>nomatch z) fin
 | @dK a kvs ea =>
  cases (show u=Value.ref a from rx);obtain⟨_,_,vs,_,p⟩:=(show bG X.prog X.w H s.heap a (.dK kvs) from I.hok a _ ea);obtain⟨o,es,ep,h1,h2,_⟩:=p;exact PySem.W.kia_tup PySem.W.kitx_dict I.eK ⟨o,h1,h2.1⟩ ho e (fun z=>nomatch z) fin
 | @dT a kvs ea =>
  cases (show u=Value.ref a from rx);obtain⟨_,_,xs,_,o,es,ep,h1,h2,_⟩:=(show bG X.prog X.w H s.heap a (.dT kvs) from I.hok a _ ea);exact PySem.W.kia_tup PySem.W.kitx_dict I.eK ⟨o,h1,h2.1⟩ ho e (fun z=>nomatch z) fin
 | @ins a C dx fs ea cl ha hn htk hm =>
  cases (show u=Value.ref a from rx);obtain⟨mA,O,_⟩:=gS I.hok ea;obtain⟨od,J,_⟩:=O.look;exact PySem.W.kia_tup (PySem.W.kitx_own (cl.get _) cl.hd ha hn htk hm) I.eK J ho e (fun z=>nomatch z) fin
theorem vY (hc:X.calm=true):cv X (.builtin "all") (fun xs H Q=>∃ (a:Addr) (bs:List Bool),xs=[.ref a]/\aP X.K H a (bs.map V.bl)/\Q (.bl (bs.all id)) H):=by
 intro pins s σ H xs us Q I r h;obtain⟨a,bs,rfl,ha,q⟩:=h;obtain⟨u,rfl,ru⟩:=vals1 r
 cases ru;obtain⟨its,rv,pl,hz⟩:=I.list ha;have hne:a≠s.heap.objs.size:=Nat.ne_of_lt (by obtain⟨o,n,e,_⟩:=pl;exact Heap.lt_size e);have hl:=rv.length;rw[List.length_map] at hl;refine call_all_walk (wpAny_pyIter_list pl.isList ?_);refine⟨s.heap.objs.size,_,_,_,_,_,fun i=>bs.getD i true,rfl,Walks.list (show X.A.in1.handled=none from I.ok.hd hc) _ a hne its.toArray,⟨⟨_,Heap.get?_push_size _ rfl,rfl,rfl⟩,?_⟩,fun i v s' Q' E' hv hq=>?_,fun h' tk hk=>?_⟩
 ·exact (pl.keeps fun b o e=>Heap.get?_push_of_some _ e).isList
 ·have hv:its[i]?=some v:=by simpa using hv
  obtain⟨hi,e⟩:=List.getElem?_eq_some_iff.mp hv;have hb:(bs.map V.bl)[i]?=some (V.bl (bs.getD i true)):=by
   rw[List.getElem?_map];have:i<bs.length:=by omega
   simp[List.getD,this]
  obtain⟨u,e1,ru⟩:=rv.get hb;rw[hv] at e1
  cases e1
  cases (show v=Value.bool _ from ru);exact wpAny_truthy_bool hq
 ·have e:((List.range its.toArray.size).all fun i=>bs.getD i true)=bs.all id:=by
   rw[List.size_toArray,<- hl,Bool.eq_iff_iff,List.all_eq_true,List.all_eq_true];constructor
   ·intro h b hb
    obtain⟨i,hi,rfl⟩:=List.getElem_of_mem hb;have:=h i (List.mem_range.mpr hi)
    simpa [List.getD,hi] using this
   ·intro h i hi
    have hi:=List.mem_range.mp hi;have:=h _ (List.getElem_mem hi)
    simpa [List.getD,hi] using this
  rw[e];refine⟨.bl (bs.all id),H,?_,rfl,q⟩;have I1:Inv X pins σ H { s with heap:=s.heap.push { cls:=.type "list_iterator",data:=.fields #[.ref a,.int 0 0] } }:=I.kept (t':=s.toks) fun b o e=>Heap.get?_push_of_some _ e;have hf:=I.hok.fresh (Nat.le_refl s.heap.objs.size);have F:=I.qR (Nat.le_refl s.heap.objs.size) hf;exact I1.turned (it:=s.heap.objs.size) (fun b o hb e=>hk b o (by simpa using hb) e) F.1 F.2.1 F.2.2.2.1 F.2.2.2.2.1 F.2.2.2.2.2
end
end L2
end
section
namespace L2
open PySem PySem.Spec PyProof.Rows
section
variable {prog:Program}{w:World}{A:Around}{E:Value->Shared->Prop}
theorem jO {it l:Addr}{items:Array Value} (hne:l≠it):∀ (n i:Nat) (s:Shared) (Q:List Value->Shared->Prop),s.heap.IsListIter it l i->s.heap.IsList l items->i+n<=items.size ->
  (∀ h',h'.IsListIter it l (i+n)->Heap.SameBut it s.heap h'->Q ((items.toList.drop i).take n) { s with heap:=h' })->wpAny (model prog w) A (draw (.ref it) n) Q E s
 | 0,i,s,Q,hit,_,_,hQ=>by
  have q:=hQ s.heap hit (Heap.SameBut.refl ..);rw[List.take_zero] at q;exact wpAny_pure q
 | n+1,i,s,Q,hit,hl,hle,hQ=>by
  have hlt:i<items.size:=by omega
  unfold draw;refine wpAny_bind (wpAny_pyNext_list_item hit hl (x:=items[i]) (by simp[hlt]) fun h1 it1 s1=>?_);refine wpAny_bind (wpAny_holding (jO hne n (i+1) _ _ it1 (hl.extBut s1.extBut hne) (by omega) fun h2 it2 s2=>wpAny_pure ?_));have q:=hQ h2 (by rw[show i+(n+1)=i+1+n by omega];exact it2) (s1.trans s2);have e:items.toList.drop i=items[i]::items.toList.drop (i+1):=by simp[List.drop_eq_getElem_cons,hlt]
  rw[e,List.take_succ_cons] at q;exact q
theorem nJ {s:Shared}{l:Addr}{items:Array Value}{Q:List Value->Shared->Prop} (hh:A.handled=none) (hl:s.heap.IsList l items)
  (hQ:∀ h',Heap.ExtBut s.heap.objs.size s.heap h'->Q items.toList { s with heap:=h' }):wpAny (model prog w) A (unpackItems (.ref l) items.size none) Q E s:=by
 have hlt:l≠s.heap.objs.size:=by
  obtain⟨o,ho,_⟩:=hl;exact Nat.ne_of_lt (Heap.lt_size ho)
 unfold unpackItems;refine wpAny_bind ?_;unfold notIterableAtAll;refine wpAny_bind (wpAny_specialOf hl.typeIs PySem.F.slot_list_iter.lookup (wpAny_pure ?_));rw[if_neg Bool.false_ne_true];refine wpAny_bind (wpAny_holding (wpAny_pyIter_list hl ?_));have hl0:(s.heap.push { cls:=.type "list_iterator",data:=.fields #[.ref l,.int 0 0] }).IsList l items:=hl.at fun o e=>Heap.get?_push_of_some _ e;refine wpAny_bind (wpAny_holding (jO hlt items.size 0 _ _ ⟨_,Heap.get?_push_size _ rfl,rfl,rfl⟩ hl0 (by omega) fun h1 it1 s1=>?_));have e:List.take items.size (List.drop 0 items.toList)=items.toList:=by
  rw[List.drop_zero,List.take_of_length_le (by simp)]
 rw[e,if_neg (by simp)];refine wpAny_bind (wpAny_holding (wpAny_pyNext_list_end hh it1 (hl0.extBut s1.extBut hlt) (by simp) fun h2 e2=>?_));rw[Option.isSome_none,if_neg Bool.false_ne_true];exact wpAny_pure (hQ h2 fun b o hb q=>e2 b o hb (s1.extBut b o hb (Heap.get?_push_of_some _ q)))
end
section
variable {X:Cx}{pos:Pos}
noncomputable def zV (K:PySem.W.Frag) (n:Nat) (t:uj):TG:=fun v σ H Q=>∃ a xs,v=.ref a/\aP K H a xs/\xs.length=n/\t xs σ H Q
theorem BN {es:List Expr}{k:Nat}{t:uj}{n:Nat} (hc:X.calm=true) (h:yP X es t)
  (hn:(assignEach es X.env).length=n:=by rfl) (hst:(assignEach es X.env).findIdx? (·.1)=none:=by rfl):PG X (.Tuple es k pos) (zV X.K n t):=by
 intro pins s σ H v u Q I r hw;obtain⟨a,xs,e1,hq,hl,hw⟩:=hw;subst e1
 cases r;obtain⟨its,rv,pl,hz⟩:=I.list hq;have e:(assignEach es X.env).length=its.toArray.size:=by rw[hn,<- hl,rv.length,List.size_toArray]
 rw[assign_Tuple];refine wpAny_bind (wpAny_standAt ?_);unfold unpack;rw[e,hst];refine wpAny_bind (wpAny_holding (nJ (I.ok.hd hc) pl.isList fun h' hx=>?_));have I1:Inv X pins σ H { s with heap:=h' }:=I.kept (t':=s.toks) fun b o e=>hx b o (Nat.ne_of_lt (Heap.lt_size e)) e;exact h pins _ σ H xs _ Q I1 (by simpa using rv) hw
end
end L2
end
section
namespace L2
open PySem PySem.Spec PyProof.Rows
theorem dq {α β:Type} (l:List α) (r:α->Option β):((List.range l.length).filterMap fun i=>(l[i]?).bind r)=l.filterMap r:=by
 have e:(List.range l.length).map (fun i=>l[i]?)=l.map some:=by
  apply List.ext_getElem?;intro i;rw[List.getElem?_map,List.getElem?_map]
  by_cases hi:i<l.length
  ·simp[hi]
  ·simp[hi]
 have e2:(List.range l.length).filterMap (fun i=>(l[i]?).bind r)=((List.range l.length).map (fun i=>l[i]?)).filterMap (fun o=>o.bind r):=by
  rw[List.filterMap_map]
  rfl
 rw[e2,e,List.filterMap_map]
 rfl
section
variable {σ':St}{g:TG}{tc:TT}{te:TE}{H:Hp}{F:List V->Hp->Prop}
theorem kR {l:List Nat} (r:Nat->Option V) (hn:l.length<=sizeLine)
  (step:∀ c,c∈l->∀ (R:VK) (R':Hp->Prop),(∀ y,r c=some y->R y H)->(r c=none->R' H)->g (sgn c) σ' H fun σ4 H4=>Wk σ' σ4/\tc σ4 H4 fun b H5=>if b=true then te σ4 H5 R else R' H5)
  (fin:F (l.filterMap r) H):gj (C_ (tx l)) σ' g tc te H F:=by
 refine fX l.length (fun i=>(l[i]?).bind r) hn (fun i hi=>by show i<(tx l).cps.size;simpa using hi) (by show (tx l).cps.size<=l.length;simp) (fun i x H' _ h=>h.1) (fun i v hi hy R R' h1 h2=>?_) (by rw[dq];exact fin);obtain⟨_,c,hc,rfl⟩:=hy;have hc:l[i]?=some c:=by simpa using hc
 refine step c (List.mem_of_getElem? hc) R R' (fun y e=>h1 y (by simp[hc,e])) fun e=>h2 (by simp[hc,e])
theorem eU {K:PySem.W.Frag}{a:Addr}{xs:List V} (r:V->Option V) (hq:aP K H a xs) (hn:xs.length<=sizeLine)
  (step:∀ x,x∈xs->∀ (R:VK) (R':Hp->Prop),(∀ y,r x=some y->R y H)->(r x=none->R' H)->g x σ' H fun σ4 H4=>Wk σ' σ4/\tc σ4 H4 fun b H5=>if b=true then te σ4 H5 R else R' H5)
  (fin:F (xs.filterMap r) H):gj (EF K a) σ' g tc te H F:=by
 refine fX xs.length (fun i=>(xs[i]?).bind r) hn (fun i hi=>⟨xs,xs[i],hq,by simp[hi]⟩) ⟨xs,hq,Nat.le_refl _⟩ (fun i x H' _ h=>h.1) (fun i v hi hy R R' h1 h2=>?_) (by rw[dq];exact fin);have hc:xs[i]?=some v:=hy.2 xs hq;refine step v (List.mem_of_getElem? hc) R R' (fun y e=>h1 y (by simp[hc,e])) fun e=>h2 (by simp[hc,e])
theorem nO {K:PySem.W.Frag}{a:Addr}{xs:List V} (r:V->Option V) (hq:cE K H a xs) (hn:xs.length<=sizeLine)
  (step:∀ x,x∈xs->∀ (R:VK) (R':Hp->Prop),(∀ y,r x=some y->R y H)->(r x=none->R' H)->g x σ' H fun σ4 H4=>Wk σ' σ4/\tc σ4 H4 fun b H5=>if b=true then te σ4 H5 R else R' H5)
  (fin:F (xs.filterMap r) H):gj (Fd K a) σ' g tc te H F:=by
 refine fX xs.length (fun i=>(xs[i]?).bind r) hn (fun i hi=>⟨xs,xs[i],hq,by simp[hi]⟩) ⟨xs,hq,Nat.le_refl _⟩ (fun i x H' _ h=>h.1) (fun i v hi hy R R' h1 h2=>?_) (by rw[dq];exact fin);have hc:xs[i]?=some v:=hy.2 xs hq;refine step v (List.mem_of_getElem? hc) R R' (fun y e=>h1 y (by simp[hc,e])) fun e=>h2 (by simp[hc,e])
theorem ox {n:Nat} (r:Nat->Option V) (hn:n<=sizeLine)
  (step:∀ i,i<n->∀ (R:VK) (R':Hp->Prop),(∀ y,r i=some y->R y H)->(r i=none->R' H)->g (.int (i:Int)) σ' H fun σ4 H4=>Wk σ' σ4/\tc σ4 H4 fun b H5=>if b=true then te σ4 H5 R else R' H5)
  (fin:F ((List.range n).filterMap r) H):gj (DP 0 n) σ' g tc te H F:=by
 refine fX n r hn (fun i hi=>hi) (Nat.le_refl _) (fun i x H' _ h=>h.1) (fun i v hi hy R R' h1 h2=>?_) fin;obtain⟨_,rfl⟩:=hy;have e:(0:Int)+(i:Int)=(i:Int):=by omega
 rw[e];exact step i hi R R' h1 h2
end
end L2
end
section
namespace L2
open PySem PySem.Spec PyProof.Rows
section
variable {X:Cx} (K:PySem.W.Frag)
theorem aK (hK:X.K=K:=by rfl):Cu X (Au K):=hK ▸ xP
theorem aF (hK:X.K=K:=by rfl):Cu X (A2 K):=hK ▸ AY
theorem nS (hK:X.K=K:=by rfl):Co X (zR K):=hK ▸ yI
theorem eJ (hK:X.K=K:=by rfl):cv X (.type "list") (fun xs H Q=>∃ p ys,xs=[.ref p]/\(aP K H p ys\/cE K H p ys)/\∀ l,H l=none->Q (.ref l) (upd H l (.lst ys))):=hK ▸ mn
theorem se (hK:X.K=K:=by rfl):Co X (B5 K):=hK ▸ Ah
theorem qG (hK:X.K=K:=by rfl):gu X (compareOp .In) (F6 K false):=hK ▸ sI
theorem xQ (hu:X.A.units<cLine) (hK:X.K=K:=by rfl):gu X (compareOp .Eq) (sY K false):=hK ▸ vk hu
theorem rg (hu:X.A.units<cLine) (hK:X.K=K:=by rfl):gu X (compareOp .NotEq) (sY K true):=hK ▸ B7 hu
theorem aX (hK:X.K=K:=by rfl):cv X (.builtin "len") (fun xs H Q=>∃ x n,xs=[x]/\yG K x H n/\Q (.int n) H):=hK ▸ n_
theorem tD (hc:X.calm=true) (hK:X.K=K:=by rfl):cv X (.builtin "all") (fun xs H Q=>∃ (a:Addr) (bs:List Bool),xs=[.ref a]/\aP K H a (bs.map V.bl)/\Q (.bl (bs.all id)) H):=hK ▸ vY hc
theorem br (hK:X.K=K:=by rfl):cv X (.builtin "isinstance") (fun xs H Q=>∃ x T b t,xs=[x,.ty T]/\cz K H x t/\PySem.W.kitOne K t (.type T)=some b/\Q (.bl b) H):=hK ▸ sS
theorem pO (hK:X.K=K:=by rfl):cv X (.builtin "isinstance") (fun xs H Q=>∃ x tp T U b t,xs=[x,.ref tp]/\H tp=some (.tup [.ty T,.ty U])/\cz K H x t/\PySem.W.kitAny K t [.type T,.type U]=some b/\Q (.bl b) H):=hK ▸ sU
variable {tg l:Expr}{tl:TE}
theorem bI (hl:PE X l tl) (hK:X.K=K:=by rfl):PI X tg l (rZ K tl):=hK ▸ xk hl
theorem nq (hl:PE X l tl) (hK:X.K=K:=by rfl):PI X tg l (Ap K tl):=hK ▸ Bw hl
theorem mw {pos:Pos}{es:List Expr}{k:Nat}{t:uj}{n:Nat} (hc:X.calm=true) (h:yP X es t)
  (hn:(assignEach es X.env).length=n:=by rfl) (hst:(assignEach es X.env).findIdx? (·.1)=none:=by rfl) (hK:X.K=K:=by rfl):PG X (.Tuple es k pos) (zu K n t):=hK ▸ Cc hc h hn hst
theorem yr {pos:Pos}{es:List Expr}{k:Nat}{t:uj}{n:Nat} (hc:X.calm=true) (h:yP X es t)
  (hn:(assignEach es X.env).length=n:=by rfl) (hst:(assignEach es X.env).findIdx? (·.1)=none:=by rfl) (hK:X.K=K:=by rfl):PG X (.Tuple es k pos) (zV K n t):=hK ▸ BN hc h hn hst
variable {o e:Expr}{es:List Expr}{to:TE}{t:TA}{name:Str}{apos cpos:Pos}{T id:String}{r:V->List V->Hp->VK->Prop}
theorem ny (pa:PlainAttrs T) (slot:Slot T name id) (hty:typeOf (.builtin id)=pure (.type "method_descriptor")) (hm:Ax X id r) (ho:PE X o to)
  (hbase:attributeBase o name X.env (eval o X.env)=eval o X.env:=by rfl) (hline:(apos.endLine == cpos.line)=true:=by rfl) (hK:X.K=K:=by rfl):PE X (.Call (.Attribute o name apos) [] [] cpos) (Ag K T r to):=hK ▸ A8 pa slot hty hm ho hbase hline
theorem zM (pa:PlainAttrs T) (slot:Slot T name id) (hty:typeOf (.builtin id)=pure (.type "method_descriptor")) (hm:Ax X id r) (ho:PE X o to) (ha:PA X (e::es) t)
  (hbase:attributeBase o name X.env (eval o X.env)=eval o X.env:=by rfl)
  (hfew:((backTo cpos (starEach (e::es) X.env)).all (fun x=>!x.1) && (backToKw cpos (keywordEach [] X.env)).all (fun x=>x.1.isSome)
   && decide ((e::es).length+([]:List Keyword).length+(if ([]:List Keyword).isEmpty then 0 else 1)<30))=true:=by rfl)
  (hline:(apos.endLine == cpos.line)=true:=by rfl) (hs:starEach (e::es) X.env=(false,eval e X.env)::starEach es X.env:=by rfl) (hplain:(backTo cpos (starEach es X.env)).any (·.1)=false:=by rfl) (hK:X.K=K:=by rfl) :
  PE X (.Call (.Attribute o name apos) (e::es) [] cpos) (Ex K T r to t):=hK ▸ DR pa slot hty hm ho ha hbase hfew hline hs hplain
variable {f:Str}{pos:Pos}{ta:TE}
theorem aY (he:PE X e ta) (hb:attributeBase e f X.env (eval e X.env)=eval e X.env) (hK:X.K=K:=by rfl):PE X (.Attribute e f pos) (Cf K ta f):=hK ▸ BL he hb
end
noncomputable def tG (J:It) (g:TG) (tb:TS) (D:Ends) (σ:St) (H1:Hp):Prop:=∃ W:Nat->Nat->St->Hp->Prop,(∃ m,W 0 m σ H1)/\∀ i m σ H,W i m σ H ->
 (J.stop i H/\D.nx σ H)\/(J.go i H/\∃ N:St->Hp->Prop,(∀ σ' H',N σ' H'->∃ m',m'<m/\W (i+1) m' σ' H')/\∀ x H',J.yld i H x H'->g x σ H' fun σ2 H2=>tb { D with nx:=N,ct:=N,bk:=D.nx } σ2 H2)
theorem mM {wi:TI}{g:TG}{tb:TS}{D:Ends}{σ:St}{H:Hp}:D1 wi g tb D σ H=wi σ H fun J H1=>tG J g tb D σ H1:=rfl
section
variable {g:TG}{tb:TS}{D:Ends}{σ:St}{H:Hp}
theorem je {J:It} (n:Nat) (Pv:Nat->St->Hp->Prop) (h0:Pv 0 σ H) (go:∀ i σ H,i<n->Pv i σ H->J.go i H/\∀ x H',J.yld i H x H'->g x σ H' fun σ2 H2=>tb { D with nx:=Pv (i+1),ct:=Pv (i+1),bk:=D.nx } σ2 H2)
  (fin:∀ σ H,Pv n σ H->J.stop n H/\D.nx σ H):tG J g tb D σ H:=by
 refine⟨fun i m σ H=>m=n - i/\i<=n/\Pv i σ H,⟨n,by simp,Nat.zero_le _,h0⟩,?_⟩;rintro i m σ H ⟨rfl,hi,p⟩
 by_cases hlt:i<n
 ·obtain⟨h1,h2⟩:=go i σ H hlt p
  exact .inr ⟨h1,Pv (i+1),fun σ' H' p'=>⟨n - (i+1),by omega,rfl,hlt,p'⟩,h2⟩
 ·have e:i=n:=by omega
  subst e;exact .inl (fin σ H p)
theorem cC {K:PySem.W.Frag}{a:Addr}{xs:List V} (Pv:Nat->St->Hp->Prop) (h0:Pv 0 σ H) (hl:∀ i σ H,Pv i σ H->aP K H a xs)
  (hs:∀ i x σ H,xs[i]?=some x->Pv i σ H->g x σ H fun σ2 H2=>tb { D with nx:=Pv (i+1),ct:=Pv (i+1),bk:=D.nx } σ2 H2) (hd:∀ σ H,Pv xs.length σ H->D.nx σ H):tG (EF K a) g tb D σ H :=
 je xs.length Pv h0 (fun i σ H hi p=>⟨⟨xs,xs[i],hl i σ H p,by simp[hi]⟩,fun x H' y=>by
  obtain⟨e,y⟩:=y;subst e;exact hs i x σ _ (y xs (hl i σ _ p)) p⟩) fun σ H p=>⟨⟨xs,hl _ σ H p,Nat.le_refl _⟩,hd σ H p⟩
theorem uy {l:List Nat} (Pv:Nat->St->Hp->Prop) (h0:Pv 0 σ H)
  (hs:∀ i c σ H,l[i]?=some c->Pv i σ H->g (sgn c) σ H fun σ2 H2=>tb { D with nx:=Pv (i+1),ct:=Pv (i+1),bk:=D.nx } σ2 H2) (hd:∀ σ H,Pv l.length σ H->D.nx σ H):tG (C_ (tx l)) g tb D σ H :=
 je l.length Pv h0 (fun i σ H hi p=>⟨by show i<(tx l).cps.size;simpa using hi,fun x H' y=>by
  obtain⟨e,c,hc,ex⟩:=y;subst e ex;exact hs i c σ _ (by simpa using hc) p⟩) fun σ H p=>⟨by show (tx l).cps.size<=l.length;simp,hd σ H p⟩
theorem vA {n:Nat} (Pv:Nat->St->Hp->Prop) (h0:Pv 0 σ H)
  (hs:∀ i σ H,i<n->Pv i σ H->g (.int (i:Int)) σ H fun σ2 H2=>tb { D with nx:=Pv (i+1),ct:=Pv (i+1),bk:=D.nx } σ2 H2) (hd:∀ σ H,Pv n σ H->D.nx σ H):tG (DP 0 n) g tb D σ H :=
 je n Pv h0 (fun i σ H hi p=>⟨hi,fun x H' y=>by
  obtain⟨e,ex⟩:=y;subst e ex;have e:(0:Int)+(i:Int)=(i:Int):=by omega
  rw[e];exact hs i σ _ hi p⟩) fun σ H p=>⟨Nat.le_refl _,hd σ H p⟩
theorem uc {lo:Int}{n:Nat} (Pv:Nat->St->Hp->Prop) (h0:Pv 0 σ H)
  (hs:∀ i σ H,i<n->Pv i σ H->g (.int (lo - i)) σ H fun σ2 H2=>tb { D with nx:=Pv (i+1),ct:=Pv (i+1),bk:=D.nx } σ2 H2) (hd:∀ σ H,Pv n σ H->D.nx σ H):tG (Gh lo (-1) n) g tb D σ H :=
 je n Pv h0 (fun i σ H hi p=>⟨hi,fun x H' y=>by
  obtain⟨e,ex⟩:=y;subst e ex;have e:lo+(i:Int) * (-1)=lo - (i:Int):=by omega
  rw[e];exact hs i σ _ hi p⟩) fun σ H p=>⟨Nat.le_refl _,hd σ H p⟩
theorem si {c:TT} (Pv:Nat->St->Hp->Prop) (m0:Nat) (h0:Pv m0 σ H)
  (hs:∀ m σ H,Pv m σ H->c σ H fun b H1=>if b=true then tb { D with nx:=fun σ' H'=>∃ m',m'<m/\Pv m' σ' H',ct:=fun σ' H'=>∃ m',m'<m/\Pv m' σ' H',bk:=D.nx } σ H1 else D.nx σ H1)
  (mono:∀ σ H Q Q',(∀ b H1,Q b H1->Q' b H1)->c σ H Q->c σ H Q'):ur c tb D σ H:=by
 refine⟨Pv,⟨m0,h0⟩,fun m σ H p=>mono _ _ _ _ (fun b H1 q=>?_) (hs m σ H p)⟩
 cases b with
 | true=>exact⟨_,fun σ' H' z=>z,q⟩
 | false=>exact q
end
theorem aV.new {H H1:Hp}{p:Addr}{o:HO} (e:aV H H1) (hp:H1 p=none):aV H (upd H1 p o):=fun c u h=>by
 have h1:=e c u h;rw[ah (ag h1 hp)];exact h1
theorem aV.kp {H H1:Hp}{l:List Addr} (e:aV H H1):Kp H H1 l:=fun c o h _=>e c o h
noncomputable def iL (f:List Nat->Bool):V->Option V
 | .str y=>if f y.cps.toList=true then some (.str y) else none
 | _=>none
theorem fY (f:List Nat->Bool) (y:List Nat):iL f (.str (tx y))=if f y=true then some (.str (tx y)) else none:=by
 show (if f (tx y).cps.toList=true then _ else _)=_;rw[fg]
theorem lj (f:List Nat->Bool) (l:List (List Nat)):(l.map fun y=>V.str (tx y)).filterMap (iL f)=(l.filter f).map fun y=>V.str (tx y):=by
 induction l with
 | nil=>rfl
 | cons a r ih =>
  rw[List.map_cons,List.filterMap_cons,fY]
  cases e:f a with
  | true=>simp only[if_true,List.filter_cons,e,List.map_cons,ih]
  | false=>simp only[Bool.false_eq_true,if_false,List.filter_cons,e,ih]
theorem bU.mono {P:Program}{w:World}{K:PySem.W.Frag}{mg:Str->Option Value}{base:Heap}{CX:kQ}{k j:Nat}{x:Str}{ps:List Str}{sp:Sp} (c:bU P w K mg base CX k x ps sp) (h:k<=j):bU P w K mg base CX j x ps sp:=by
 obtain⟨f,fd,F,r⟩:=c.ex;exact⟨f,fd,F.mono h,r⟩
end L2
end
section
namespace L2
open PySem PySem.Spec PyProof.Rows
noncomputable def notStar:Expr->Bool
 | .Starred _ _=>false
 | _=>true
theorem cA {e:Expr}{es:List Expr}{env:Env} (h:notStar e=true):starEach (e::es) env=(false,eval e env)::starEach es env:=by
 cases e <;> first|rfl|cases h
theorem back_eq {e:Expr}{es:List Expr}{env:Env}{pos:Pos} (h:notStar e=true):(backTo pos (starEach (e::es) env)).any (·.1)=(backTo pos (starEach es env)).any (·.1):=by
 rw[cA h];rfl
noncomputable def bD:List Expr->Bool
 | []=>true
 | e::es=>notStar e && bD es
theorem cT {env:Env}{pos:Pos}:∀ {es:List Expr},bD es=true->(backTo pos (starEach es env)).any (·.1)=false
 | [],_=>rfl
 | e::es,h=>by
  have h:(notStar e && bD es)=true:=h;rw[Bool.and_eq_true] at h;rw[back_eq h.1];exact cT h.2
section
variable {X:Cx}{e:Expr}{es:List Expr}{te:TE}{t:TA}{pos p:Pos}{x:Str}{ps:List Str}{sp:Sp}{k:Nat}{id T:String}{r:List V->Hp->VK->Prop}
theorem ai (ha:PE X e te) (hr:PA X es t) (hs:notStar e=true:=by rfl):PA X (e::es) (rL te t):=iW ha hr (cA hs)
theorem bJ (c:bU X.prog X.w X.K X.mg X.base aT k x ps sp) (hr:cc k X.A) (ha:PA X (e::es) t) (hg:Gl X x:=by rfl) (hdb:(x == ("__debug__":Str))=false:=by decide)
  (hs:bD (e::es)=true:=by rfl):PE X (.Call (.Name x p) (e::es) [] pos) (iK sp [] E0 t):=by
 have h:(notStar e && bD es)=true:=hs;rw[Bool.and_eq_true] at h;exact Dv c hr ha hg hdb (cA h.1) (cT h.2)
theorem bg (hc:cv X (.builtin id) r) (hg:Gl X x) (hm:X.mg x=none) (hv:bootBuiltins x=some (.builtin id)) (ha:PA X (e::es) t) (hn:x≠"__name__":=by decide) (hdb:(x == ("__debug__":Str))=false:=by decide)
  (hs:bD (e::es)=true:=by rfl):PE X (.Call (.Name x p) (e::es) [] pos) (Cm r t):=by
 have h:(notStar e && bD es)=true:=hs;rw[Bool.and_eq_true] at h;exact nY hc hg hm hv ha hn hdb (cA h.1) (cT h.2)
theorem eO (hc:cv X (.type T) r) (hg:Gl X x) (hm:X.mg x=none) (hv:bootBuiltins x=some (.type T)) (ha:PA X (e::es) t) (hn:x≠"__name__":=by decide) (hdb:(x == ("__debug__":Str))=false:=by decide)
  (hs:bD (e::es)=true:=by rfl):PE X (.Call (.Name x p) (e::es) [] pos) (Cm r t):=by
 have h:(notStar e && bD es)=true:=hs;rw[Bool.and_eq_true] at h;exact tK hc hg hm hv ha hn hdb (cA h.1) (cT h.2)
variable (K:PySem.W.Frag) {o:Expr}{to:TE}{name:Str}{apos cpos:Pos}{r':V->List V->Hp->VK->Prop}
theorem kM {env:Env}{pos:Pos}:∀ {es:List Expr},bD es=true->(backTo pos (starEach es env)).all (fun x=>!x.1)=true
 | [],_=>rfl
 | e::es,h=>by
  have h:(notStar e && bD es)=true:=h;rw[Bool.and_eq_true] at h;rw[cA h.1];exact kM h.2
theorem eG (pa:PlainAttrs T) (slot:Slot T name id) (hty:typeOf (.builtin id)=pure (.type "method_descriptor")) (hm:Ax X id r') (ho:PE X o to) (ha:PA X (e::es) t)
  (hbase:attributeBase o name X.env (eval o X.env)=eval o X.env:=by rfl) (hlen:decide ((e::es).length+0+0<30)=true:=by rfl)
  (hline:(apos.endLine == cpos.line)=true:=by rfl) (hs:bD (e::es)=true:=by rfl) (hK:X.K=K:=by rfl) :
  PE X (.Call (.Attribute o name apos) (e::es) [] cpos) (Ex K T r' to t):=by
 have h:(notStar e && bD es)=true:=hs;rw[Bool.and_eq_true] at h;refine zM K pa slot hty hm ho ha hbase ?_ hline (cA h.1) (cT h.2) hK;rw[kM hs,Bool.true_and,Bool.and_eq_true];exact⟨rfl,hlen⟩
end
end L2
end
section
namespace L2
open PySem PySem.Spec PyProof.Rows
class Wrp where
 f:St->Hp->Prop
noncomputable def He [w:Wrp] (I:St->Hp->Prop):Prop:=∀ σ H,I σ H->w.f σ H
noncomputable def Di (t:TS):TS:=fun D σ H=>∃ I:St->Hp->Prop,t { D with nx:=I } σ H/\@He ⟨D.nx⟩ I
theorem dW {X:Cx}{st:Stmt}{t:TS} (h:PS X st t):PS X st (Di t):=by
 intro pins s σ H D I0 ⟨I,q,r⟩;refine bA (h pins s σ H { D with nx:=I } I0 q) fun f s1 z=>?_
 cases f with
 | next =>
  obtain⟨σ',H',I',z⟩:=z;exact⟨σ',H',I',r σ' H' z⟩
 | ret v=>exact z
 | brk=>exact z
 | cont=>exact z
end L2
end
section
namespace L2
open PySem PySem.Spec PyProof.Rows
theorem kf {J:It}{σ':St}{g:TG}{tc:TT}{te:TE}{H1:Hp}{F:List V->Hp->Prop} (n:Nat) (Iv:Nat->List V->Hp->Prop) (h0:Iv 0 [] H1) (hn:n<=sizeLine)
  (len:∀ i ys H,i<=n->Iv i ys H->ys.length<=i)
  (go:∀ i ys H,i<n->Iv i ys H->J.go i H/\∀ x H3,J.yld i H x H3->∀ (R:VK) (R':Hp->Prop),(∀ y H',Iv (i+1) (ys++[y]) H'->R y H')->(∀ H',Iv (i+1) ys H'->R' H') ->
   g x σ' H3 fun σ4 H4=>Wk σ' σ4/\tc σ4 H4 fun b H5=>if b=true then te σ4 H5 R else R' H5)
  (fin:∀ ys H,Iv n ys H->J.stop n H/\F ys H):gj J σ' g tc te H1 F:=by
 refine⟨fun i m ys H=>i<=n/\m=n - i/\Iv i ys H,⟨n,Nat.zero_le _,by simp,h0⟩,?_⟩;rintro i m ys H ⟨hi,rfl,iv⟩;have hl:=len i ys H hi iv
 by_cases hlt:i<n
 ·obtain⟨h1,h2⟩:=go i ys H hlt iv
  exact .inr ⟨h1,by omega,fun x H3 hy=>h2 x H3 hy _ _ (fun y H' q=>⟨n - (i+1),by omega,hlt,rfl,q⟩) fun H' q=>⟨n - (i+1),by omega,hlt,rfl,q⟩⟩
 ·have e:i=n:=by omega
  subst e;obtain⟨h1,h2⟩:=fin ys H iv;exact .inl ⟨h1,by omega,h2⟩
theorem jS {K:PySem.W.Frag}{a:Addr}{xs:List V}{σ':St}{g:TG}{tc:TT}{te:TE}{H1:Hp}{F:List V->Hp->Prop} (Iv:Nat->List V->Hp->Prop) (h0:Iv 0 [] H1) (hn:xs.length<=sizeLine)
  (len:∀ i ys H,Iv i ys H->ys.length<=i) (hl:∀ i ys H,Iv i ys H->aP K H a xs)
  (step:∀ i ys H x,xs[i]?=some x->Iv i ys H->∀ (R:VK) (R':Hp->Prop),(∀ y H',Iv (i+1) (ys++[y]) H'->R y H')->(∀ H',Iv (i+1) ys H'->R' H') ->
   g x σ' H fun σ4 H4=>Wk σ' σ4/\tc σ4 H4 fun b H5=>if b=true then te σ4 H5 R else R' H5)
  (fin:∀ ys H,Iv xs.length ys H->F ys H):gj (EF K a) σ' g tc te H1 F:=by
 refine kf xs.length Iv h0 hn (fun i ys H _ q=>len i ys H q) (fun i ys H hi q=>⟨⟨xs,xs[i],hl i ys H q,by simp[hi]⟩,fun x H3 hy R R' r r'=>?_⟩) fun ys H q=>⟨⟨xs,hl _ ys H q,Nat.le_refl _⟩,fin ys H q⟩;obtain⟨e,hy⟩:=hy;subst e;exact step i ys _ x (hy xs (hl i ys _ q)) q R R' r r'
end L2
end
section
namespace L2
open PySem PySem.Spec PyProof.Rows
theorem xg (t:SetTable) (n:Nat):(t.orStandIn n).led=t.led/\(t.plain=false->(t.orStandIn n).plain=false):=by
 unfold SetTable.orStandIn
 split
 ·exact⟨rfl,id⟩
 ·exact⟨rfl,fun _=>rfl⟩
theorem xy (t:SetTable) (es:Array (Int×Value)) (h:Int) (x:Value):(layNew t es h x).2.1.led=t.led/\(t.plain=false->(layNew t es h x).2.1.plain=false):=by
 unfold layNew
 split
 ·exact xg _ _
 ·exact⟨rfl,fun _=>rfl⟩
theorem wI {m f v:Nat}{a b:Bool}{hs:Array Int}{r:SetTable×Array Nat} (h:SetTable.laid m f v a b hs=some r):r.1.led=a/\r.1.plain=b:=by
 unfold SetTable.laid at h
 cases e:SetTable.layClean m hs with
 | none=>rw[e] at h;cases h
 | some o =>
  rw[e] at h;have h:=Option.some.inj h;subst h;exact⟨rfl,rfl⟩
theorem tS (t:SetTable) (es:Array (Int×Value)) (n:Nat):(relayAll t es n).2.1.led=t.led/\(t.plain=false->(relayAll t es n).2.1.plain=false):=by
 unfold relayAll
 split
 ·rename_i t' order h
  have:=wI (r:=(t',order)) h;dsimp only
  split
  ·exact⟨this.1,fun hp=>this.2.trans hp⟩
  ·exact⟨rfl,fun _=>rfl⟩
 ·exact⟨rfl,fun _=>rfl⟩
noncomputable def eE (w:World):Bool:=w.params.followText "set-order"
structure kE (P:Program) (w:World) (h:Heap) (a:Addr) (es:Array (Int×Value)):Prop where
 ex:∃ o ep t,h.get? a=some o/\o.ExactSet/\o.data=.set es ep t/\t.fits es.size=true/\t.led=!eE w/\(es=#[]\/t.plain=false)
 el:ElemsOf (PySem.strKind P w) es.toList
 sz:es.size<scanBound
theorem kr (x:Str) (t:Tok):hashByValue 8 (.str x t)=pure false:=hashByValue_scannable 8 (x:=.str x t) rfl
section
variable {P:Program}{w:World}{A:Around}{E:Value->Shared->Prop}{s:Shared}
theorem sE {g:Bool->Sem Unit} (hg:∀ (b:Bool) (s₁:Shared) (Q':Unit->Shared->Prop),Q' () s₁->wpAny (model P w) A (g b) Q' E s₁) {a:Addr}{o:Obj}{es:Array (Int×Value)}{ep:Nat}{t:SetTable}
  (ho:s.heap.get? a=some o) (hex:o.ExactSet) (hd:o.data=.set es ep t) {es1:Array (Int×Value)}{t2:SetTable} (el:ElemsOf (PySem.strKind P w) es1.toList) (sz:es1.size<scanBound) (hf:t2.fits es1.size=true) (hl:t2.led=!eE w) (hp:t2.plain=false)
  {dummy:Bool}{R:Option Bool->Shared->Prop} (h:∀ h' es2,Heap.SameBut a s.heap h'->kE P w h' a es2->es2.toList.Perm es1.toList->R (some true) { s with heap:=h' }) :
  wpAny (model P w) A (do
    storeSet a es1 t2
    if (!dummy && t2.tooFull)=true then do
      g (relayAll t2 es1 (SetTable.grown es1.size)).2.2
      storeSet a (relayAll t2 es1 (SetTable.grown es1.size)).1 (relayAll t2 es1 (SetTable.grown es1.size)).2.1
      pure (some true)
     else pure (some true)) R E s:=by
 refine wpAny_bind (wpAny_storeSet_of ho hd ?_ (fits_of_scanBound sz));have hn:∀ (h:Heap) (o:Obj) (es:Array (Int×Value)) (ep:Nat) (t:SetTable) (es':Array (Int×Value)) (t':SetTable),h.get? a=some o->o.data=.set es ep t->(h.update a (Obj.putSet es' t')).get? a=some { o with data:=.set es' (ep+1) t' }:=by
  intro h o es ep t es' t' e d;have z:=Heap.get?_update_self (Obj.putSet es' t') e (by rw[putSet_of es' t' d];rfl);rw[putSet_of es' t' d] at z;exact z
 have h1:=hn s.heap o es ep t es1 t2 ho hd;have b1:=Heap.SameBut.update s.heap a (Obj.putSet es1 t2)
 split
 ·have hpm:=relayAll_perm t2 es1 (SetTable.grown es1.size)
  have hft:=relayAll_fits t2 es1 (SetTable.grown es1.size);have hll:=tS t2 es1 (SetTable.grown es1.size);have el2:=el.perm hpm;have e2:(relayAll t2 es1 (SetTable.grown es1.size)).1.size=es1.size:=by rw[<- Array.length_toList,hpm.length_eq,Array.length_toList]
  refine wpAny_bind (hg _ _ _ ?_);refine wpAny_bind (wpAny_storeSet_of h1 rfl ?_ (by rw[e2];exact fits_of_scanBound sz));refine wpAny_pure (h _ _ (b1.trans (Heap.SameBut.update _ a _)) ⟨⟨_,_,_,hn _ _ _ _ _ _ _ h1 rfl,hex,rfl,hft,hll.1.trans hl,.inr (hll.2 hp)⟩,el2,by rw[e2];exact sz⟩ hpm)
 ·exact wpAny_pure (h _ _ b1 ⟨⟨_,_,_,h1,hex,rfl,hf,hl,.inr hp⟩,el,sz⟩ (List.Perm.refl _))
theorem AR {a:Addr}{es:Array (Int×Value)}{x:Str}{t:Tok}{Q:Bool->Shared->Prop} (hS:kE P w s.heap a es) (room:es.size+1<scanBound)
  (h:∀ h' es2,Heap.SameBut a s.heap h'->kE P w h' a es2->((∃ e∈es.toList,e.2.isStrOf x=true)/\es2=es\/(¬ (∃ e∈es.toList,Value.isStrOf x e.2=true))/\es2.toList.Perm (es.toList++[(hashStr w x,.str x t)]))->∀ b,Q b { s with heap:=h' }) :
  wpAny (model P w) A (setAddHashed a (.str x t) (hashStr w x)) Q E s:=by
 obtain⟨⟨o,ep,tb,ho,hex,hd,hf,hl,hp⟩,el,sz⟩:=hS;have hkey:(PySem.strKind P w).is x (.str x t)=true:=by show Value.isStrOf x (.str x t)=true;simp[Value.isStrOf]
 have hsc:(Value.str x t).scannable=true:=rfl;unfold setAddHashed setAddHashedIn;refine wpAny_holding (wpAny_bind (wpAny_setState_of ho hd hf ?_));dsimp only;rw[byScan_of (knd:=PySem.strKind P w) hsc sz el];simp only[↓reduceIte];unfold setAddByScan;refine wpAny_bind ?_;refine wpAny_bind (wpAny_rule ?_);refine wpAny_bind (wpAny_setScan_of (knd:=PySem.strKind P w) hkey ho hd hf el ?_)
 cases hr:List.findIdx? (fun e=>(PySem.strKind P w).is x e.2) es.toList with
 | some j =>
  dsimp only;obtain⟨hj,hpj,_⟩:=List.findIdx?_eq_some_iff_getElem.mp hr;refine wpAny_pure (wpAny_pure ?_);have e:s={ s with heap:=s.heap }:=by cases s;rfl
  rw[e];exact h s.heap es (Heap.SameBut.refl a s.heap) ⟨⟨o,ep,tb,ho,hex,hd,hf,hl,hp⟩,el,sz⟩ (.inl ⟨⟨es.toList[j],List.getElem_mem hj,hpj⟩,rfl⟩) _
 | none =>
  dsimp only;have hno:¬ (∃ e∈es.toList,Value.isStrOf x e.2=true):=by
   rintro ⟨e,he,q⟩;have z:=List.findIdx?_eq_none_iff.mp hr e he;have q:(PySem.strKind P w).is x e.2=true:=q;rw[q] at z
   cases z
  have hgw:∀ (b:Bool) (s₁:Shared) (Q':Unit->Shared->Prop),Q' () s₁->wpAny (model P w) A (match b with|true=>rule "set.scan.the-table-gave-way" | false=>pure ()) Q' E s₁ :=
   fun b s₁ Q' hq=>by cases b <;> first|exact wpAny_pure hq|exact wpAny_rule hq
  have hpm:=layNew_perm tb es (hashStr w x) (.str x t);have hft:=layNew_fits tb es (hashStr w x) (.str x t);have hll:=xy tb es (hashStr w x) (.str x t);rw[Array.toList_push] at hpm;generalize hL:layNew tb es (hashStr w x) (.str x t)=L at hpm hft hll;obtain⟨es1,t1,dm,gave⟩:=L;dsimp only at hpm hft hll;have el1:ElemsOf (PySem.strKind P w) es1.toList:=(el.push hkey hsc).perm hpm;have sz1:es1.size<scanBound:=by
   rw[<- Array.length_toList,hpm.length_eq,List.length_append,Array.length_toList];exact room
  have hL':layNew tb es ((PySem.strKind P w).hash x) (.str x t)=(es1,t1,dm,gave):=hL;simp only[hL'];refine wpAny_bind (hgw gave _ _ ?_);have fin:∀ h' es2,Heap.SameBut a s.heap h'->kE P w h' a es2->es2.toList.Perm es1.toList->Q true { s with heap:=h' }:=fun h' es2 b1 b2 b3=>h h' es2 b1 b2 (.inr ⟨hno,b3.trans hpm⟩) true
  split
  ·refine wpAny_bind ?_
   rw[kr];refine wpAny_pure ?_;simp only[Bool.false_eq_true,↓reduceIte];refine sE hgw ho hex hd el1 sz1 (SetTable.fits_plain_off hft) ?_ rfl fun h' es2 b1 b2 b3=>?_
   ·exact hll.1.trans hl
   ·exact wpAny_pure (fin h' es2 b1 b2 b3)
  ·rename_i np
   refine wpAny_bind (wpAny_pure ?_);simp only[↓reduceIte];refine sE hgw ho hex hd el1 sz1 hft (hll.1.trans hl) (by simpa using np) fun h' es2 b1 b2 b3=>?_;exact wpAny_pure (fin h' es2 b1 b2 b3)
structure Holds (P:Program) (w:World) (h:Heap) (a:Addr) (cs:List Nat) (es:Array (Int×Value)):Prop where
 ss:kE P w h a es
 is:∃ ds:List Nat,ds.Nodup/\(∀ c,c∈ds↔c∈cs)/\Paired (fun (e:Int×Value) (d:Nat)=>∃ t,e.2=.str ⟨#[d]⟩ t) es.toList ds
theorem oO {α β:Type}{R:α->β->Prop}{l l':List α} (p:l.Perm l'):∀ {r:List β},Paired R l' r->∃ r',r'.Perm r/\Paired R l r':=by
 induction p with
 | nil=>intro r h;cases h;exact⟨[],.refl _,.nil⟩
 | cons x _ ih =>
  intro r h
  cases h with
  | cons a b =>
   obtain⟨r',p',q⟩:=ih b;exact⟨_::r',p'.cons _,.cons a q⟩
 | swap x y l =>
  intro r h
  cases h with
  | cons a b =>
   cases b with
   | cons c d=>exact⟨_,List.Perm.swap _ _ _,.cons c (.cons a d)⟩
 | trans _ _ i1 i2 =>
  intro r h;obtain⟨r1,p1,q1⟩:=i2 h;obtain⟨r2,p2,q2⟩:=i1 q1;exact⟨r2,p2.trans p1,q2⟩
theorem bK {α β:Type}{R:α->β->Prop}:∀ {l:List α}{r:List β},Paired R l r->∀ {a:α}{b:β},R a b->Paired R (l++[a]) (r++[b])
 | _,_,.nil,_,_,h=>.cons h .nil
 | _,_,.cons a b,_,_,h=>.cons a (bK b h)
theorem jQ {α β:Type}{R:α->β->Prop}:∀ {l:List α}{r:List β},Paired R l r->∀ b∈r,∃ a∈l,R a b
 | _,_,.nil,b,h=>nomatch h
 | _,_,.cons a q,b,h=>by
  rcases List.mem_cons.mp h with e|e
  ·subst e;exact⟨_,List.mem_cons_self,a⟩
  ·obtain⟨x,hx,r⟩:=jQ q b e
   exact⟨x,List.mem_cons_of_mem _ hx,r⟩
theorem fT {α β:Type}{R:α->β->Prop}:∀ {l:List α}{r:List β},Paired R l r->∀ a∈l,∃ b∈r,R a b
 | _,_,.nil,b,h=>nomatch h
 | _,_,.cons a q,b,h=>by
  rcases List.mem_cons.mp h with e|e
  ·subst e;exact⟨_,List.mem_cons_self,a⟩
  ·obtain⟨x,hx,r⟩:=fT q b e
   exact⟨x,List.mem_cons_of_mem _ hx,r⟩
theorem Holds.step {h:Heap}{a:Addr}{cs:List Nat}{es es2:Array (Int×Value)}{c:Nat}{t:Tok} (H:Holds P w s.heap a cs es) (S:kE P w h a es2)
  (q:(∃ e∈es.toList,Value.isStrOf ⟨#[c]⟩ e.2=true)/\es2=es\/(¬ (∃ e∈es.toList,Value.isStrOf ⟨#[c]⟩ e.2=true))/\es2.toList.Perm (es.toList++[(hashStr w ⟨#[c]⟩,.str ⟨#[c]⟩ t)])):Holds P w h a (cs++[c]) es2:=by
 refine⟨S,?_⟩;obtain⟨ds,nd,hm,hp⟩:=H.is;rcases q with ⟨⟨e,he,hs⟩,rfl⟩|⟨no,p⟩
 ·obtain⟨d,hd,t',e2⟩:=fT hp e he
  rw[e2] at hs;have:d=c:=by
   have hs:(Str.mk #[d] == Str.mk #[c])=true\/(Str.mk #[c] == Str.mk #[d])=true:=by first|exact .inl hs|exact .inr hs
   rcases hs with hs|hs
   ·have:=beq_iff_eq.mp hs;simpa using this
   ·have:=beq_iff_eq.mp hs;simpa using this.symm
  subst this;refine⟨ds,nd,fun x=>?_,hp⟩;rw[hm,List.mem_append,List.mem_singleton];exact⟨.inl,fun z=>z.elim id fun z=>z ▸ (hm d).mp hd⟩
 ·have nc:c∉ds:=fun hc=>by
   obtain⟨e,he,t',e2⟩:=jQ hp c hc;exact no ⟨e,he,by rw[e2];simp[Value.isStrOf]⟩
  obtain⟨r',p',q'⟩:=oO p (bK hp (a:=(hashStr w ⟨#[c]⟩,Value.str ⟨#[c]⟩ t)) (b:=c) ⟨t,rfl⟩);refine⟨r',p'.symm.nodup ?_,fun x=>?_,q'⟩
  ·rw[List.nodup_append]
   exact⟨nd,List.nodup_cons.mpr ⟨by simp,List.nodup_nil⟩,fun x hx y hy=>by rw[List.mem_singleton.mp hy];intro z;exact nc (z ▸ hx)⟩
  ·rw[p'.mem_iff,List.mem_append,List.mem_append,hm]
end
end L2
end
section
namespace L2
open PySem PySem.Spec PyProof.Rows
section
variable {P:Program}{w:World}{A:Around}{E:Value->Shared->Prop}{s:Shared}
theorem kE.at {h h':Heap}{a:Addr}{es:Array (Int×Value)} (x:kE P w h a es) (k:∀ o,h.get? a=some o->h'.get? a=some o):kE P w h' a es:=by
 obtain⟨⟨o,ep,t,ho,r⟩,el,sz⟩:=x;exact⟨⟨o,ep,t,k _ ho,r⟩,el,sz⟩
theorem Holds.at {h h':Heap}{a:Addr}{cs:List Nat}{es:Array (Int×Value)} (x:Holds P w h a cs es) (k:∀ o,h.get? a=some o->h'.get? a=some o):Holds P w h' a cs es:=⟨x.ss.at k,x.is⟩
theorem aN {α β:Type}{R:α->β->Prop}:∀ {l:List α}{r:List β},Paired R l r->l.length=r.length
 | _,_,.nil=>rfl
 | _,_,.cons _ q=>congrArg (·+1) (aN q)
theorem fW:∀ {l u:List Nat},l.Nodup->(∀ x∈l,x∈u)->l.length<=u.length
 | [],_,_,_=>Nat.zero_le _
 | a::l,u,nd,h=>by
  obtain⟨n1,n2⟩:=List.nodup_cons.mp nd;have ha:=h a List.mem_cons_self;have:=fW (u:=u.erase a) n2 fun x hx=>(List.mem_erase_of_ne (fun e:x=a=>n1 (e ▸ hx))).mpr (h x (List.mem_cons_of_mem _ hx));rw[List.length_erase_of_mem ha] at this;have hp:0<u.length:=List.length_pos_of_mem ha;rw[List.length_cons];omega
theorem Holds.small {h:Heap}{a:Addr}{cs:List Nat}{es:Array (Int×Value)} (x:Holds P w h a cs es):es.size<=cs.length:=by
 obtain⟨ds,nd,hm,hp⟩:=x.is;have:=aN hp;rw[<- Array.length_toList,this];exact fW nd fun y hy=>(hm y).mp hy
theorem yE {I S:Addr}{x:Str}{fp wr:List Addr}{St:Nat->Heap->Prop}{R:Result->Shared->Prop} (W:Walks P w A.in1 I fp wr x.cps.size (SignAt x) St) (hSf:S∉fp) (room:x.cps.size+1<scanBound) :
  ∀ (k i:Nat) (s:Shared) (es:Array (Int×Value)),x.cps.size - i=k->i<=x.cps.size->St i s.heap->Holds P w s.heap S (x.cps.toList.take i) es ->
   (∀ (h':Heap) (tk:Nat) es',(∀ b o,b≠S->b∉wr->s.heap.get? b=some o->h'.get? b=some o)->Holds P w h' S x.cps.toList es'->R (.ok (.ret .none)) { s with heap:=h',toks:=tk }) ->
   codeAny (model P w) A (.builtin "set.update.loop" ⟨[.ref S,.ref I],[]⟩) R s:=by
 have hSw:S∉wr:=fun z=>hSf (W.sub _ z);intro k
 induction k with
 | zero =>
  intro i s es hk hi st hh hR;have e:i=x.cps.size:=by omega
  subst e;refine codeAny_builtin F.entry_set_update_loop ?_;rw[Around.under_plainId F.plain_set_update_loop _];show wpAny _ A.in1 (pyNext (.ref I) >>= _) _ _ s;refine wpAny_bind (W.done s _ _ st fun h' tk kp=>?_);show wpAny _ A.in1 (ret Value.none) _ _ { s with heap:=h',toks:=tk };refine wpAny_pure (hR h' tk es (fun b o _ hb e=>kp b o hb e) ?_);have hh':=hh.at (h':=h') fun o e=>kp S o hSw e
  rwa [List.take_of_length_le (by rw[Array.length_toList];exact Nat.le_refl _)] at hh'
 | succ k ih =>
  intro i s es hk hi st hh hR;have lt:i<x.cps.size:=by omega
  refine codeAny_builtin F.entry_set_update_loop ?_;rw[Around.under_plainId F.plain_set_update_loop _];show wpAny _ A.in1 (pyNext (.ref I) >>= _) _ _ s;refine wpAny_bind (W.item i s _ _ lt st fun v h1 tk1 hv st1 kp=>?_);obtain⟨c,u,hc,rfl⟩:=hv;have hh1:Holds P w h1 S (x.cps.toList.take i) es:=hh.at fun o e=>kp S o hSw e;have sm:=hh1.small;rw[List.length_take,Array.length_toList] at sm;show wpAny _ A.in1 (holding [Value.str ⟨#[c]⟩ u] (setAdd S (.str ⟨#[c]⟩ u)) >>= _) _ _ { s with heap:=h1,toks:=tk1 };refine wpAny_bind (wpAny_holding ?_);unfold setAdd;refine wpAny_holding ?_;refine wpAny_bind (wpAny_pyHash_str ?_);refine AR (s:={ s with heap:=h1,toks:=tk1+1 }) hh1.ss (by omega) fun h2 es2 sb S2 q b=>?_;have hn:Holds P w h2 S (x.cps.toList.take (i+1)) es2:=by
   have e:x.cps.toList.take (i+1)=x.cps.toList.take i++[c]:=by
    rw[List.take_add_one];have:x.cps.toList[i]?=some c:=by rw[Array.getElem?_toList];exact hc
    rw[this]
    rfl
   rw[e];exact Holds.step (s:={ s with heap:=h1,toks:=tk1 }) hh1 S2 q
  refine wpAny_pure ⟨plainId_quiet F.plain_set_update_loop _,ih (i+1) { s with heap:=h2,toks:=tk1+1 } es2 (by omega) lt (W.frame _ h1 _ st1 fun b hb o e=>?_) hn fun h3 tk3 es3 kp3 hh3=>?_⟩
  ·exact (sb.2 b fun z=>hSf (z ▸ hb)).trans e
  ·exact hR h3 tk3 es3 (fun b o hb hw e=>kp3 b o hb hw ((sb.2 b hb).trans (kp b o hw e))) hh3
end
end L2
end
section
namespace L2
open PySem PySem.Spec PyProof.Rows
theorem sub_str_set:isSubtype (.type "str") (.type "set")=pure false:=by rw[isSubtype_type];kernel_rfl
theorem kh:isSubtype (.type "str") (.type "frozenset")=pure false:=by rw[isSubtype_type];kernel_rfl
section
variable {P:Program}{w:World}{A:Around}{E:Value->Shared->Prop}{s:Shared}
noncomputable abbrev qJ (w:World):Obj:={ cls:=.type "set",dict:=none,data:=.set #[] 0 (.fresh 0 0 (!eE w)) }
theorem nE (a:Value) {Q1:Value->Shared->Prop} (h:Q1 (.ref s.heap.objs.size) { s with heap:=s.heap.push (qJ w) }) :
  codeAny (model P w) A (.call (.builtin "set.__new__") ⟨[.type "set",a],[]⟩) (wants Q1 E) s:=by
 refine codeAny_of_tree ?_;show wpAny _ A.in1 (do checkBuiltinCall "set.__new__" ⟨[.type "set",a],[]⟩;again (.builtin "set.__new__" ⟨[.type "set",a],[]⟩)) _ _ s;refine wpAny_bind (wpAny_of_eq (F.newCall_set_1 a) (wpAny_pure ⟨plainId_quiet F.plain_set_new _,codeAny_builtin F.entry_set_new ?_⟩));rw[Around.under_plainId F.plain_set_new _];unfold Builtin.«set.__new__» Builtin.Frozenset.newClass;have hsub:=sub_set_self;obtain⟨hp,g,d,tk,os⟩:=s;dsimp only
 wp_walk
 refine wpAny_askSetting (wpAny_pure ?_);dsimp only;simp only[newObj];refine wpAny_bind (wpAny_alloc (wpAny_pure ?_));exact wpAny_pure h
set_option maxHeartbeats 3200000 in
theorem AG {x:Str}{t:Tok}{Q:Value->Shared->Prop} (hh:A.handled=none) (room:x.cps.size+1<scanBound)
  (h:∀ (h':Heap) (tk:Nat) es,Holds P w h' s.heap.objs.size x.cps.toList es->(∀ b o,s.heap.get? b=some o->h'.get? b=some o)->Q (.ref s.heap.objs.size) { s with heap:=h',toks:=tk }) :
  wpAny (model P w) A (call (.type "set") [.str x t]) Q E s:=by
 obtain⟨c,tl,hmro⟩:=F.called_set.mro;have hmade:=F.called_set.made;have hsub:=F.called_set.sub;refine wpAny_call (codeAny_of_tree ?_);show wpAny _ _ (callAny (.type "set") _) _ _ _;refine wpAny_pure ⟨Code.quiet_builtin _ (by decide +kernel),codeAny_builtin F.entry_type_call ?_⟩;rw[Around.under_plain (weight_type_call_type "set" [.str x t] []) rfl];have h1:=F.called_set.notType;have h2:=F.called_set.canCreate;have hct:=F.typeCall_set_1 (.str x t)
 repeat (any_goals (first|assumption|wp_step))
 refine codeAny_mono (nE (.str x t) (E:=E) (Q1:=fun obj s1=>obj=.ref s.heap.objs.size/\s1={ s with heap:=s.heap.push (qJ w) }) ⟨rfl,rfl⟩) fun r s1 hr=>?_
 cases r with
 | error e=>exact hr
 | ok fl =>
  cases fl with
  | ret obj =>
   obtain⟨rfl,rfl⟩:=hr;have hS:(s.heap.push (qJ w)).get? s.heap.objs.size=some (qJ w):=Heap.get?_push_size _ rfl;have hT:Shared.TypeIs { s with heap:=s.heap.push (qJ w) } (.ref s.heap.objs.size) "set":=⟨_,hS,rfl⟩;have hli:=F.called_set.init.lookup;have hbi:=F.called_set.init.bind (.ref s.heap.objs.size)
   repeat (any_goals (first|assumption|wp_step))
   refine codeAny_mono (codeAny_call_builtin (R:=wants (fun r s2=>r=.none/\∃ h' tk es,s2={ s with heap:=h',toks:=tk }/\Holds P w h' s.heap.objs.size x.cps.toList es /\
     (∀ b o,s.heap.get? b=some o->h'.get? b=some o)) E) F.called_set.init.plain F.entry_set_init (check_set_init_1 hT ?_)) fun r2 s2 hr2=>?_
   ·have q1:=sub_str_set
    have q2:=kh;have q3:(Value.type "str" == Value.type "dict")=false:=by decide
    unfold Builtin.«set.__init__» noKeywords Builtin.Frozenset.updateFrom;generalize hPI:pyIter=PI
    wp_walk
    subst hPI;refine wpAny_pyIter_str fun o St W st0=>?_;refine wpAny_bind (wpAny_runValue ?_);have hh3:A.in1.in1.in1.handled=none:=by simp[hh]
    have ne:s.heap.objs.size∉[(s.heap.push (qJ w)).objs.size]:=by
     rw[Heap.size_push];simp
    refine yE (W _ hh3) ne room (x.cps.size - 0) 0 _ #[] (by omega) (Nat.zero_le _) st0 ?_ fun h' tk es kp hh'=>?_
    ·refine⟨⟨⟨qJ w,0,_,Heap.get?_push_of_some _ hS,⟨rfl,rfl,rfl⟩,rfl,rfl,rfl,.inl rfl⟩,(fun e he=>absurd he (by simp)),by decide⟩,[],List.nodup_nil,fun c=>by simp,.nil⟩
    ·show wpAny _ _ _ _ _ _
     refine wpAny_pure ?_;show wpAny _ _ (ret Value.none) _ _ _;refine wpAny_pure ⟨rfl,h',tk,es,rfl,hh',fun b o e=>?_⟩;have hb:=Heap.lt_size e;refine kp b o (Nat.ne_of_lt hb) ?_ (Heap.get?_push_of_some _ (Heap.get?_push_of_some _ e));rw[Heap.size_push];simp only[List.mem_singleton];exact Nat.ne_of_lt (Nat.lt_succ_of_lt hb)
   ·cases r2 with
    | error e=>exact hr2
    | ok fl2 =>
     cases fl2 with
     | ret r =>
      obtain⟨rfl,h',tk,es,rfl,q1,q2⟩:=hr2
      repeat (any_goals (first|assumption|wp_step))
      exact h _ _ _ q1 q2
     | _=>exact hr2.elim
  | _=>exact hr.elim
end
end L2
end
section
namespace L2
open PySem PySem.Spec PyProof.Rows
theorem bj:Slot "set_iterator" "__next__" "set_iterator.__next__" :=
 .of (owner:="set_iterator") (n:="__next__") (by rw[typeLookup_type,builtinLookup_eq_fast];kernel_rfl) (by decide +kernel) (by decide +kernel) (by decide +kernel)
  (by first|exact .inl (by decide +kernel)|exact .inr (by decide +kernel)) (by rw[isSubtype_type];kernel_rfl)
theorem de:entryFor table "set_iterator.__next__"=some Builtin.«set_iterator.__next__»:=entryFor_of_tree (by kernel_rfl)
theorem dB (a:Value):argsOk "set_iterator.__next__" ⟨[a],[]⟩:=by unfold argsOk;kernel_rfl
theorem gR:Slot "set_iterator" "__iter__" "set_iterator.__iter__" :=
 .of (owner:="set_iterator") (n:="__iter__") (by rw[typeLookup_type,builtinLookup_eq_fast];kernel_rfl) (by decide +kernel) (by decide +kernel) (by decide +kernel)
  (by first|exact .inl (by decide +kernel)|exact .inr (by decide +kernel)) (by rw[isSubtype_type];kernel_rfl)
theorem kD:entryFor table "set_iterator.__iter__"=some Builtin.«dict_keyiterator.__iter__» :=
 entryFor_alias (id':="dict_keyiterator.__iter__") (by kernel_rfl) rfl (by decide +kernel) (by kernel_rfl)
theorem m_ (a:Value):argsOk "set_iterator.__iter__" ⟨[a],[]⟩:=by unfold argsOk;kernel_rfl
theorem mR:entryFor table "set.__iter__"=some Builtin.«frozenset.__iter__» :=
 entryFor_alias (id':="frozenset.__iter__") (by kernel_rfl) rfl (by decide +kernel) (by kernel_rfl)
theorem gy {α:Type}:∀ {l:List α}{i:Nat} (h:i<l.length),(l[i]::l.eraseIdx i).Perm l
 | a::l,0,_=>.refl _
 | a::l,i+1,h=>by
  show (l[i]'(by simpa using h)::a::l.eraseIdx i).Perm (a::l);exact (List.Perm.swap _ _ _).trans ((gy (l:=l) (i:=i) (by simpa using h)).cons a)
section
variable {P:Program}{w:World}{A:Around}{E:Value->Shared->Prop}{s:Shared}
theorem qe {n:Nat}{Q:Nat->Shared->Prop} (hn:n≠0) (h:∀ i d,i<n->Q i { s with drawn:=d }):wpAny (model P w) A (choose .order n) Q E s:=by
 intro Γ p hΓ;show Sem.wp _ _ (.choose .order n .pure) _ _ p s;rw[Sem.wp_choose];refine⟨hn,?_⟩;rw[Sem.wp_pure];exact h _ _ (Nat.mod_lt _ (Nat.pos_of_ne_zero hn))
theorem jn {α:Type}:∀ (n:Nat) (xs:List α) (s:Shared) {Q:List α->Shared->Prop},n=xs.length->(∀ ys d,ys.Perm xs->Q ys { s with drawn:=d })->wpAny (model P w) A (drawOrder n xs) Q E s
 | 0,xs,s,Q,hn,h=>by
  have e:xs=[]:=List.length_eq_zero_iff.mp hn.symm;subst e;unfold drawOrder;exact wpAny_pure (h [] s.drawn (.refl _))
 | n+1,[],s,Q,hn,h=>by simp at hn
 | n+1,x::xs,s,Q,hn,h=>by
  unfold drawOrder;refine wpAny_bind (qe (by simp) fun i d hi=>?_);rw[List.getElem?_eq_getElem hi];dsimp only;refine wpAny_bind (jn n ((x::xs).eraseIdx i) _ (by rw[List.length_eraseIdx,if_pos hi];omega) fun ys d' hp=>?_);refine wpAny_pure (h _ d' ?_);refine (hp.cons _).trans ?_;exact gy hi
theorem iy {α:Type} (f:Nat->Nat) (xs:Array α):(pickOrder f xs).toList.Perm xs.toList:=by
 have go:∀ (fuel k:Nat) (left:List α) (out:Array α),left.length=fuel->(pickOrder.go f fuel k left out).toList.Perm (out.toList++left):=by
  intro fuel
  induction fuel with
  | zero =>
   intro k left out h;have e:left=[]:=List.length_eq_zero_iff.mp h;subst e;unfold pickOrder.go;rw[List.append_nil]
  | succ n ih =>
   intro k left out h;unfold pickOrder.go;have lt:f k % left.length<left.length:=Nat.mod_lt _ (by omega);rw[List.getElem?_eq_getElem lt];dsimp only;refine (ih (k+1) _ _ (by rw[List.length_eraseIdx,if_pos lt];omega)).trans ?_;rw[Array.toList_push,List.append_assoc];exact List.Perm.append_left _ (gy lt)
 have:=go xs.size 0 xs.toList #[] (Array.length_toList)
 simpa [pickOrder] using this
noncomputable def pI (h:Heap) (it a:Addr) (first:Value) (i n ep:Nat):Prop:=∃ o,h.get? it=some o/\o.cls=.type "set_iterator"/\o.data=.fields #[first,rawInt i,.ref a,rawInt n,rawInt ep]
theorem pI.typeIs {it a:Addr}{first:Value}{i n ep:Nat} (x:pI s.heap it a first i n ep):s.TypeIs (.ref it) "set_iterator":=let ⟨o,ho,hc,_⟩:=x;⟨o,ho,hc⟩
theorem mZ {it a:Addr}{first:Value}{i n ep:Nat}{Q:Value->Shared->Prop} (x:pI s.heap it a first i n ep) (h:Q (.ref it) s):wpAny (model P w) A (pyIter (.ref it)) Q E s:=by
 refine wpAny_pyIter_slot x.typeIs gR (wpAny_call_entry gR x.typeIs kD ?_ (m_ _));show wpAny _ _ (ret (.ref it)) _ _ s;exact wpAny_pure ⟨_,rfl,"set_iterator",_,x.typeIs,bj.lookup,h⟩
noncomputable def pG (w:World) (h:Heap) (a:Addr) (es:Array (Int×Value)) (ep:Nat) (t:SetTable):Prop:=∃ o,h.get? a=some o/\o.data=.set es ep t/\t.fits es.size=true/\t.led=!eE w/\(es=#[]\/t.plain=false)
theorem cP {a:Addr}{es:Array (Int×Value)}{ep:Nat}{t:SetTable}{Q:(Array (Int×Value)×Nat×SetTable)->Shared->Prop} (x:pG w s.heap a es ep t) (h:Q (es,ep,t) s):wpAny (model P w) A (setState a) Q E s:=by
 obtain⟨o,ho,hd,hf,_⟩:=x;exact wpAny_setState_of ho hd hf h
theorem dC {Q:Bool->Shared->Prop} (h:Q (eE w) s):wpAny (model P w) A setsByText Q E s:=by
 unfold setsByText;exact wpAny_bind (wpAny_askSetting (wpAny_pure h))
end
end L2
end
section
namespace L2
open PySem PySem.Spec PyProof.Rows
section
variable {P:Program}{w:World}{A:Around}{E:Value->Shared->Prop}{s:Shared}
theorem ef {it:Addr}{o:Obj}{vs:Array Value}{Q:Array Value->Shared->Prop} (ho:s.heap.get? it=some o) (hd:o.data=.fields vs) (h:Q vs s):wpAny (model P w) A (fieldsOf (.ref it)) Q E s:=by
 unfold fieldsOf;refine wpAny_bind (wpAny_load ho ?_);rw[hd];exact wpAny_pure h
theorem dX {a:Addr}{es:Array (Int×Value)}{ep:Nat}{t:SetTable}{Q:Array (Int×Value)->Shared->Prop} (x:pG w s.heap a es ep t) (h:Q es s):wpAny (model P w) A (setEntries a) Q E s:=by
 unfold setEntries;exact wpAny_bind (cP x (wpAny_pure h))
theorem rB {it a:Addr}{first:Int}{i:Nat}{es:Array (Int×Value)}{ep:Nat}{t:SetTable}{v:Value}{nx:Nat}{tk:Tok}{Q:Option Value->Shared->Prop} (x:pI s.heap it a (.int first tk) i es.size ep) (y:pG w s.heap a es ep t)
  (hn:∀ (A:Around) (E:Value->Shared->Prop) (R:Option (Value×Nat)->Shared->Prop),R (some (v,nx)) s->wpAny (model P w) A (setNext a first.toNat i ep) R E s)
  (hQ:∀ h',pI h' it a (rawInt nx) (i+1) es.size ep->Heap.SameBut it s.heap h'->Q (some v) { s with heap:=h' }):wpAny (model P w) A (pyNext (.ref it)) Q E s:=by
 obtain⟨o,ho,hc,hd⟩:=id x;unfold pyNext;refine wpAny_bind (wpAny_attempt (wpAny_callSpecial?_slot (name:=Str.ofString "__next__") x.typeIs bj (wpAny_call_entry bj x.typeIs de ?_ (dB _))));unfold Builtin.«set_iterator.__next__»;refine wpAny_bind (wpAny_of_eq (a:=(Value.ref it,[])) rfl ?_);dsimp only;refine wpAny_bind (ef ho hd ?_);show wpAny _ _ (setEntries a >>= _) _ _ s;refine wpAny_bind (dX y ?_);rw[if_neg (by simp)];show wpAny _ _ (setNext a first.toNat ((i:Nat):Int).toNat ((ep:Nat):Int).toNat >>= _) _ _ s;rw[Int.toNat_natCast,Int.toNat_natCast];refine wpAny_bind (hn _ _ _ ?_);dsimp only;refine wpAny_bind (wpAny_setField ho hd (by simp) ?_);have h2:=Heap.get?_update_self (Obj.mapFields (·.setIfInBounds 0 (rawInt nx))) ho (Obj.isFreed_of_fields (Obj.data_mapFields hd _));have d2:=Obj.data_mapFields hd (·.setIfInBounds 0 (rawInt nx));refine wpAny_bind (wpAny_setField h2 d2 (by simp) (wpAny_pure ⟨v,rfl,wpAny_pure (hQ _ ?_ ((Heap.SameBut.update ..).trans (Heap.SameBut.update ..)))⟩));exact⟨_,Heap.get?_update_self _ h2 (Obj.isFreed_of_fields (Obj.data_mapFields d2 _)),(Obj.cls_mapFields ..).trans ((Obj.cls_mapFields ..).trans hc),by
  rw[Obj.data_mapFields d2];simp[rawInt]⟩
theorem wb {it a:Addr}{first:Int}{i:Nat}{es:Array (Int×Value)}{ep:Nat}{t:SetTable}{tk:Tok}{Q:Option Value->Shared->Prop} (hh:A.handled=none) (x:pI s.heap it a (.int first tk) i es.size ep) (y:pG w s.heap a es ep t)
  (hn:∀ (A:Around) (E:Value->Shared->Prop) (R:Option (Value×Nat)->Shared->Prop),R none s->wpAny (model P w) A (setNext a first.toNat i ep) R E s)
  (hQ:∀ h',Heap.ExtBut it s.heap h'->Q none { s with heap:=h' }):wpAny (model P w) A (pyNext (.ref it)) Q E s:=by
 obtain⟨o,ho,hc,hd⟩:=id x;unfold pyNext;refine wpAny_bind (wpAny_attempt (wpAny_callSpecial?_slot (name:=Str.ofString "__next__") x.typeIs bj (wpAny_call_entry bj x.typeIs de ?_ (dB _))));unfold Builtin.«set_iterator.__next__»;refine wpAny_bind (wpAny_of_eq (a:=(Value.ref it,[])) rfl ?_);dsimp only;refine wpAny_bind (ef ho hd ?_);show wpAny _ _ (setEntries a >>= _) _ _ s;refine wpAny_bind (dX y ?_);rw[if_neg (by simp)];show wpAny _ _ (setNext a first.toNat ((i:Nat):Int).toNat ((ep:Nat):Int).toNat >>= _) _ _ s;rw[Int.toNat_natCast,Int.toNat_natCast];refine wpAny_bind (hn _ _ _ ?_);dsimp only;refine wpAny_bind (wpAny_setField ho hd (by simp) ?_);show wpAny _ _ (newExc (.type "StopIteration") [] >>= fun e=>raiseNew e) _ _ _;refine wpAny_bind ?_;simp only[newExc,newTuple];refine wpAny_bind (wpAny_newObj_type ?_ (by size_fits));refine wpAny_bind (m:=firstArgMember _ _) (wpAny_of_eq (a:=Value.none) (by first|rfl|(simp only[firstArgMember];rfl)) ?_);refine wpAny_newObj_type ?_ (by size_fits);simp only[raiseNew];refine wpAny_bind (wpAny_handled ?_)
 first|rw[show A.in1.handled=none from hh]|rw[hh]
 refine wpAny_bind (wpAny_pure (wpAny_throw ?_));refine wpAny_bind (wpAny_isInstance (T:="StopIteration") (b:=true) ⟨_,Heap.get?_push_size _ rfl,rfl⟩ isSubtype_stop ?_);exact wpAny_pure (hQ _ (((Heap.SameBut.update ..).extBut.push _).push _))
theorem xD {it a T:Addr}{i:Nat}{es:Array (Int×Value)}{ep:Nat}{t:SetTable}{pl:Array Value}{j:Nat}{tk:Tok}{hv:Int}{v:Value}{Q:Option Value->Shared->Prop} (x:pI s.heap it a (.ref T) i es.size ep) (y:pG w s.heap a es ep t)
  (hT:IsTup s.heap T pl) (hj:pl[i]?=some (.int (j:Int) tk)) (he:es[j]?=some (hv,v))
  (hQ:∀ h',pI h' it a (.ref T) (i+1) es.size ep->Heap.SameBut it s.heap h'->Q (some v) { s with heap:=h' }):wpAny (model P w) A (pyNext (.ref it)) Q E s:=by
 obtain⟨o,ho,hc,hd⟩:=id x;obtain⟨oT,hoT,_,nT,hdT⟩:=hT;unfold pyNext;refine wpAny_bind (wpAny_attempt (wpAny_callSpecial?_slot (name:=Str.ofString "__next__") x.typeIs bj (wpAny_call_entry bj x.typeIs de ?_ (dB _))));unfold Builtin.«set_iterator.__next__»;refine wpAny_bind (wpAny_of_eq (a:=(Value.ref it,[])) rfl ?_);dsimp only;refine wpAny_bind (ef ho hd ?_);show wpAny _ _ (setEntries a >>= _) _ _ s;refine wpAny_bind (dX y ?_);rw[if_neg (by simp)];show wpAny _ _ (seqItems? (.ref T) >>= _) _ _ s;refine wpAny_bind (wpAny_seqItems hoT hdT ?_);dsimp only;simp only[Int.toNat_natCast,hj];refine wpAny_bind ?_;unfold setNextDrawn;refine wpAny_bind (cP y ?_);dsimp only;rw[if_neg (by simp)];rw[he];dsimp only;refine wpAny_pure ?_;refine wpAny_bind (wpAny_setField ho hd (by simp) (wpAny_pure ⟨v,rfl,wpAny_pure (hQ _ ?_ (Heap.SameBut.update ..))⟩));exact⟨_,Heap.get?_update_self _ ho (Obj.isFreed_of_fields (Obj.data_mapFields hd _)),(Obj.cls_mapFields ..).trans hc,by
  rw[Obj.data_mapFields hd];simp[rawInt]⟩
theorem Ac {it a T:Addr}{i:Nat}{es:Array (Int×Value)}{ep:Nat}{t:SetTable}{pl:Array Value}{Q:Option Value->Shared->Prop} (hh:A.handled=none) (x:pI s.heap it a (.ref T) i es.size ep) (y:pG w s.heap a es ep t)
  (hT:IsTup s.heap T pl) (hj:pl[i]?=none) (hQ:∀ h',Heap.ExtBut it s.heap h'->Q none { s with heap:=h' }):wpAny (model P w) A (pyNext (.ref it)) Q E s:=by
 obtain⟨o,ho,hc,hd⟩:=id x;obtain⟨oT,hoT,_,nT,hdT⟩:=hT;unfold pyNext;refine wpAny_bind (wpAny_attempt (wpAny_callSpecial?_slot (name:=Str.ofString "__next__") x.typeIs bj (wpAny_call_entry bj x.typeIs de ?_ (dB _))));unfold Builtin.«set_iterator.__next__»;refine wpAny_bind (wpAny_of_eq (a:=(Value.ref it,[])) rfl ?_);dsimp only;refine wpAny_bind (ef ho hd ?_);show wpAny _ _ (setEntries a >>= _) _ _ s;refine wpAny_bind (dX y ?_);rw[if_neg (by simp)];show wpAny _ _ (seqItems? (.ref T) >>= _) _ _ s;refine wpAny_bind (wpAny_seqItems hoT hdT ?_);dsimp only;simp only[Int.toNat_natCast,hj];refine wpAny_bind (wpAny_setField ho hd (by simp) ?_);have h2:=Heap.get?_update_self (Obj.mapFields (·.setIfInBounds 0 (rawInt 0))) ho (Obj.isFreed_of_fields (Obj.data_mapFields hd _));have d2:=Obj.data_mapFields hd (·.setIfInBounds 0 (rawInt 0));refine wpAny_bind (wpAny_setField h2 d2 (by simp) ?_);show wpAny _ _ (newExc (.type "StopIteration") [] >>= fun e=>raiseNew e) _ _ _;refine wpAny_bind ?_;simp only[newExc,newTuple];refine wpAny_bind (wpAny_newObj_type ?_ (by size_fits));refine wpAny_bind (m:=firstArgMember _ _) (wpAny_of_eq (a:=Value.none) (by first|rfl|(simp only[firstArgMember];rfl)) ?_);refine wpAny_newObj_type ?_ (by size_fits);simp only[raiseNew];refine wpAny_bind (wpAny_handled ?_)
 first|rw[show A.in1.handled=none from hh]|rw[hh]
 refine wpAny_bind (wpAny_pure (wpAny_throw ?_));refine wpAny_bind (wpAny_isInstance (T:="StopIteration") (b:=true) ⟨_,Heap.get?_push_size _ rfl,rfl⟩ isSubtype_stop ?_);exact wpAny_pure (hQ _ ((((Heap.SameBut.update ..).trans (Heap.SameBut.update ..)).extBut.push _).push _))
end
end L2
end
section
namespace L2
open PySem PySem.Spec PyProof.Rows
section
variable {P:Program}{w:World}{A:Around}{E:Value->Shared->Prop}{s:Shared}
theorem pG.at {h h':Heap}{a:Addr}{es:Array (Int×Value)}{ep:Nat}{t:SetTable} (x:pG w h a es ep t) (k:∀ o,h.get? a=some o->h'.get? a=some o):pG w h' a es ep t:=let ⟨o,ho,r⟩:=x;⟨o,k _ ho,r⟩
theorem pI.at {h h':Heap}{it a:Addr}{first:Value}{i n ep:Nat} (x:pI h it a first i n ep) (k:∀ o,h.get? it=some o->h'.get? it=some o):pI h' it a first i n ep:=let ⟨o,ho,r⟩:=x;⟨o,k _ ho,r⟩
theorem tf (hb:eE w=true) (hh:A.handled=none) (it a:Addr) (ne:a≠it) (es:Array (Int×Value)) (ep:Nat) (t:SetTable) :
  Walks P w A it [it,a] [it] es.size (fun i v=>(((pickOrder (w.params.setOrder a ep) es).toList.map (·.2))[i]?=some v)) (fun i h=>pI h it a (rawInt 0) i es.size ep/\pG w h a es ep t) where
 sub:=fun b hb=>by simp at hb;simp[hb]
 frame:=fun _ _ _ x k=>⟨x.1.at fun o e=>k it (by simp) o e,x.2.at fun o e=>k a (by simp) o e⟩
 item:=fun i s Q E hi x hQ=>by
  have hl:(pickOrder (w.params.setOrder a ep) es).size=es.size:=by rw[<- Array.length_toList,(iy _ es).length_eq,Array.length_toList]
  have hi':i<(pickOrder (w.params.setOrder a ep) es).size:=by rw[hl];exact hi
  refine rB (v:=(pickOrder (w.params.setOrder a ep) es)[i].2) (nx:=0) x.1 x.2 (fun A E R r=>?_) fun h' x' sb=>?_
  ·unfold setNext
   refine wpAny_bind (cP x.2 ?_);dsimp only;refine wpAny_bind (dC ?_);rw[hb];simp only[if_true];rw[if_neg (by simp)];unfold setWalk;refine wpAny_bind (wpAny_bind (cP x.2 ?_));dsimp only;refine wpAny_bind (dC ?_);rw[hb];simp only[if_true];refine wpAny_bind (wpAny_askSetting (wpAny_pure (wpAny_pure ?_)));show R (((pickOrder (w.params.setOrder a ep) es)[i]?).map fun e=>(e.2,(0:Int).toNat)) s;rw[Array.getElem?_eq_getElem hi'];exact r
  ·refine hQ _ h' s.toks ?_ ⟨x',x.2.at fun o e=>(sb.2 a ne).trans e⟩ fun b o hb e=>(sb.2 b fun z=>hb (by simp[z])).trans e
   rw[List.getElem?_map,Array.getElem?_toList,Array.getElem?_eq_getElem hi']
   rfl
 done:=fun s Q E x hQ=>by
  have hl:(pickOrder (w.params.setOrder a ep) es).size=es.size:=by rw[<- Array.length_toList,(iy _ es).length_eq,Array.length_toList]
  refine wb hh x.1 x.2 (fun A E R r=>?_) fun h' sb=>hQ h' s.toks fun b o hb e=>sb b o (fun z=>hb (by simp[z])) e;unfold setNext;refine wpAny_bind (cP x.2 ?_);dsimp only;refine wpAny_bind (dC ?_);rw[hb];simp only[if_true];rw[if_neg (by simp)];unfold setWalk;refine wpAny_bind (wpAny_bind (cP x.2 ?_));dsimp only;refine wpAny_bind (dC ?_);rw[hb];simp only[if_true];refine wpAny_bind (wpAny_askSetting (wpAny_pure (wpAny_pure ?_)));show R (((pickOrder (w.params.setOrder a ep) es)[es.size]?).map fun e=>(e.2,(0:Int).toNat)) s;rw[Array.getElem?_eq_none (by omega)];exact r
 self:=fun _ _ _ _ x hQ=>mZ x.1 hQ
theorem qx (hh:A.handled=none) (it a T:Addr) (ne:a≠it) (nT:T≠it) (es:Array (Int×Value)) (ep:Nat) (t:SetTable) (ns:List Nat) (hp:ns.Perm (List.range es.size)) :
  Walks P w A it [it,a,T] [it] es.size (fun i v=>((ns.filterMap fun j=>es[j]?.map (·.2))[i]?=some v)) (fun i h=>pI h it a (.ref T) i es.size ep/\pG w h a es ep t/\IsTup h T (ns.map fun (j:Nat)=>rawInt j).toArray):=by
 have lt:∀ j∈ns,j<es.size:=fun j hj=>List.mem_range.mp (hp.mem_iff.mp hj);have len:ns.length=es.size:=by rw[hp.length_eq,List.length_range]
 have get:∀ i (hi:i<ns.length),∃ hv v,es[ns[i]]?=some (hv,v)/\(ns.filterMap fun j=>es[j]?.map (·.2))[i]?=some v:=by
  intro i hi;have e:(ns.filterMap fun j=>es[j]?.map (·.2))=ns.map fun j=>(es[j]?.map (·.2)).getD .none:=by
   clear hp len hi
   induction ns with
   | nil=>rfl
   | cons c r ih =>
    rw[List.filterMap_cons,List.map_cons,ih fun j hj=>lt j (List.mem_cons_of_mem _ hj),Array.getElem?_eq_getElem (lt c List.mem_cons_self)]
    rfl
  have h:=lt _ (List.getElem_mem hi);refine⟨es[ns[i]].1,es[ns[i]].2,by rw[Array.getElem?_eq_getElem h],?_⟩;rw[e,List.getElem?_map,List.getElem?_eq_getElem hi];simp only[Option.map_some,Array.getElem?_eq_getElem h,Option.getD_some]
 refine⟨fun b hb=>by simp at hb;simp[hb],fun _ _ _ x k=>⟨x.1.at fun o e=>k it (by simp) o e,x.2.1.at fun o e=>k a (by simp) o e,?_⟩,fun i s Q E hi x hQ=>?_,fun s Q E x hQ=>?_,fun _ _ _ _ x hQ=>mZ x.1 hQ⟩
 ·obtain⟨o,ho,r⟩:=x.2.2
  exact⟨o,k T (by simp) o ho,r⟩
 ·obtain⟨hv,v,e1,e2⟩:=get i (by omega)
  refine xD (j:=ns[i]) (hv:=hv) (v:=v) (tk:=0) x.1 x.2.1 x.2.2 (by simp[rawInt,show i<ns.length by omega]) e1 fun h' x' sb=>?_;refine hQ _ h' s.toks e2 ⟨x',x.2.1.at fun o e=>(sb.2 a ne).trans e,?_⟩ fun b o hb e=>(sb.2 b fun z=>hb (by simp[z])).trans e;obtain⟨o,ho,r⟩:=x.2.2;exact⟨o,(sb.2 T nT).trans ho,r⟩
 ·refine Ac hh x.1 x.2.1 x.2.2 (by simp[len]) fun h' sb=>hQ h' s.toks fun b o hb e=>sb b o (fun z=>hb (by simp[z])) e
end
end L2
end
section
namespace L2
open PySem PySem.Spec PyProof.Rows
noncomputable def mz (t:SetTable):Nat->Nat
 | 0=>0
 | _+1=>t.place.getD 0 0+1
section
variable {P:Program}{w:World}{A:Around}{E:Value->Shared->Prop}{s:Shared}
theorem oh {a:Addr}{es:Array (Int×Value)}{ep:Nat}{t:SetTable}{slot i:Nat}{R:Option (Value×Nat)->Shared->Prop} (hb:eE w=false) (y:pG w s.heap a es ep t) (h1:es.size<=1)
  (r:R (match es[SetTable.below t.place slot]?,t.place[SetTable.below t.place slot]? with|some (_,x),some j=>some (x,j+1)|_,_=>none) s):wpAny (model P w) A (setNext a slot i ep) R E s:=by
 obtain⟨o,ho,hd,hf,hl,hp⟩:=id y;rw[hb] at hl;unfold setNext;refine wpAny_bind (cP y ?_);dsimp only;refine wpAny_bind (dC ?_);rw[hb];simp only[Bool.false_eq_true,if_false];have nd:¬ ((!t.plain && decide (es.size > 1))=true):=by
  have:decide (es.size > 1)=false:=decide_eq_false (by omega);rw[this,Bool.and_false];exact Bool.false_ne_true
 refine wpAny_ite_split (fun z=>absurd z nd) fun _=>?_;refine wpAny_bind ?_;show wpAny _ _ (if (!t.led && !es.isEmpty)=true then unsupported "set:maker-not-led" else pure ()) _ _ s;rw[hl];simp only[Bool.not_false,Bool.not_true,Bool.false_and,Bool.false_eq_true,if_false];exact wpAny_pure (wpAny_pure r)
theorem BY (xs:Array Nat) (h:xs.size<=1):SetTable.below xs 0=0:=by
 obtain⟨l⟩:=xs
 match l,h with
 | [],_=>rfl
 | [c],_=>simp[SetTable.below,SetTable.below.go]
theorem A5 (c:Nat):SetTable.below #[c] (c+1)=1:=by simp[SetTable.below,SetTable.below.go]
theorem ye (xs:Array Nat) (h:xs.size=1):∃ c,xs=#[c]:=by
 obtain⟨l⟩:=xs
 match l,h with
 | [c],_=>exact⟨c,rfl⟩
theorem we (hb:eE w=false) (hh:A.handled=none) (it a:Addr) (ne:a≠it) (es:Array (Int×Value)) (h1:es.size<=1) (ep:Nat) (t:SetTable) :
  Walks P w A it [it,a] [it] es.size (fun i v=>((es.toList.map (·.2))[i]?=some v)) (fun i h=>pI h it a (rawInt (mz t i)) i es.size ep/\pG w h a es ep t) where
 sub:=fun b hb=>by simp at hb;simp[hb]
 frame:=fun _ _ _ x k=>⟨x.1.at fun o e=>k it (by simp) o e,x.2.at fun o e=>k a (by simp) o e⟩
 item:=fun i s Q E hi x hQ=>by
  obtain⟨o,ho,hd,hf,hl,hp⟩:=id x.2;have e0:i=0:=by omega
  subst e0;have hps:t.place.size=es.size:=by
   simp only[SetTable.fits,Bool.and_eq_true,beq_iff_eq] at hf;exact hf.1
  refine rB (v:=es[0].2) (nx:=t.place.getD 0 0+1) x.1 x.2 (fun A E R r=>?_) fun h' x' sb=>?_
  ·refine oh hb x.2 h1 ?_
   show R (match es[SetTable.below t.place 0]?,t.place[SetTable.below t.place 0]? with|some (_,x),some j=>some (x,j+1)|_,_=>none) s;rw[BY _ (by omega),Array.getElem?_eq_getElem hi,Array.getElem?_eq_getElem (show 0<t.place.size by omega)];have:t.place.getD 0 0=t.place[0]'(by omega):=by simp[show 0<t.place.size by omega]
   rw[this] at r;exact r
  ·refine hQ _ h' s.toks ?_ ⟨x',x.2.at fun o e=>(sb.2 a ne).trans e⟩ fun b o hb e=>(sb.2 b fun z=>hb (by simp[z])).trans e
   rw[List.getElem?_map,Array.getElem?_toList,Array.getElem?_eq_getElem hi]
   rfl
 done:=fun s Q E x hQ=>by
  obtain⟨o,ho,hd,hf,hl,hp⟩:=id x.2;have hps:t.place.size=es.size:=by
   simp only[SetTable.fits,Bool.and_eq_true,beq_iff_eq] at hf;exact hf.1
  refine wb hh x.1 x.2 (fun A E R r=>oh hb x.2 h1 ?_) fun h' sb=>hQ h' s.toks fun b o hb e=>sb b o (fun z=>hb (by simp[z])) e;show R (match es[SetTable.below t.place (mz t es.size)]?,t.place[SetTable.below t.place (mz t es.size)]? with|some (_,x),some j=>some (x,j+1)|_,_=>none) s;have e:es[SetTable.below t.place (mz t es.size)]?=none:=by
   refine Array.getElem?_eq_none ?_;rcases Nat.lt_or_ge 0 es.size with q|q
   ·have e1:es.size=1:=by omega
    obtain⟨l,hl'⟩:∃ c,t.place=#[c]:=by
     exact ye t.place (by omega)
    rw[e1];show 1<=SetTable.below t.place (t.place.getD 0 0+1);rw[hl'];show 1<=SetTable.below #[l] (l+1);rw[A5];exact Nat.le_refl _
   ·omega
  rw[e];exact r
 self:=fun _ _ _ _ x hQ=>mZ x.1 hQ
structure Iter (P:Program) (w:World) (h h1:Heap) (a it:Addr) (es:Array (Int×Value)) (ord:List Value) (fp:List Addr) (St:Nat->Heap->Prop):Prop where
 kp:∀ b o,h.get? b=some o->h1.get? b=some o
 up:∀ b∈fp,b=a\/h.objs.size<=b
 new:h.objs.size<=it
 pm:ord.Perm (es.toList.map (·.2))
 wk:∀ A:Around,A.handled=none->Walks P w A it fp [it] es.size (fun i v=>ord[i]?=some v) St
 st:St 0 h1
theorem wN {a:Addr}{es:Array (Int×Value)}{Q:Value->Shared->Prop} (S:kE P w s.heap a es) (h:∀ h1 d1 it ord fp St,Iter P w s.heap h1 a it es ord fp St->Q (.ref it) { s with heap:=h1,drawn:=d1 }):wpAny (model P w) A (pyIter (.ref a)) Q E s:=by
 obtain⟨⟨o,ep,t,ho,hex,hd,hf,hl,hp⟩,el,sz⟩:=id S;have y:pG w s.heap a es ep t:=⟨o,ho,hd,hf,hl,hp⟩;have lt:a<s.heap.objs.size:=Heap.lt_size ho;have hT:s.TypeIs (.ref a) "set":=⟨o,ho,hex.1⟩;refine wpAny_pyIter_slot hT PySem.F.slot_set_iter (wpAny_call_entry PySem.F.slot_set_iter hT mR ?_ (PySem.F.args_set_iter_1 _));unfold Builtin.«frozenset.__iter__»;refine wpAny_bind ?_;show wpAny _ _ (pure a) _ _ s;refine wpAny_pure ?_;refine wpAny_bind ?_;unfold Builtin.Frozenset.sizeOf;refine wpAny_bind (dX y (wpAny_pure ?_));have ep_of:∀ {A:Around}{E:Value->Shared->Prop}{s':Shared}{Q:Nat->Shared->Prop},pG w s'.heap a es ep t->Q ep s'->wpAny (model P w) A (setEpoch a) Q E s':=fun y' q=>by
  unfold setEpoch;exact wpAny_bind (cP y' (wpAny_pure q))
 have low:∀ b o,s.heap.get? b=some o->b<s.heap.objs.size:=fun b o e=>Heap.lt_size e;unfold setDrawn;refine wpAny_bind (wpAny_bind (cP y ?_));dsimp only;refine wpAny_bind (dC (wpAny_pure ?_));have plain:(¬ ((!eE w && (!t.plain && decide (es.size > 1)))=true))->wpAny (model P w) A.in1 (do let first <- pure (rawInt 0);let e <- setEpoch a;let r <- newFields "set_iterator" [first,rawInt 0,.ref a,rawInt es.size,rawInt e];ret r)
   (fun fin s'=>∃ v,fin=Fin.done (Flow.ret v)/\∃ T' r,s'.TypeIs v T'/\typeLookup (Value.type T') (Str.ofString "__next__")=pure (some r)/\Q v s') E s:=by
  intro nd;refine wpAny_bind (wpAny_pure (wpAny_bind (ep_of y (wpAny_bind (wpAny_newObj_type (wpAny_pure ⟨_,rfl,"set_iterator",_,⟨_,Heap.get?_push_size _ rfl,rfl⟩,bj.lookup,?_⟩))))));have ne:a≠s.heap.objs.size:=Nat.ne_of_lt lt;have y1:pG w (s.heap.push { cls:=.type "set_iterator",data:=.fields #[rawInt 0,rawInt 0,.ref a,rawInt es.size,rawInt ep] }) a es ep t:=y.at fun o e=>Heap.get?_push_of_some _ e;have it0:pI (s.heap.push { cls:=.type "set_iterator",data:=.fields #[rawInt 0,rawInt 0,.ref a,rawInt es.size,rawInt ep] }) s.heap.objs.size a (rawInt 0) 0 es.size ep:=⟨_,Heap.get?_push_size _ rfl,rfl,rfl⟩;have es_:s={ s with drawn:=s.drawn }:=by cases s;rfl
  cases hb:eE w with
  | true =>
   exact h _ s.drawn _ _ [s.heap.objs.size,a] _ ⟨fun b o e=>Heap.get?_push_of_some _ e,fun b hb=>by simp at hb;rcases hb with z|z;exact .inr (Nat.le_of_eq z.symm);exact .inl z,Nat.le_refl _,(iy _ es).map _,fun A' hA=>tf hb hA _ a ne es ep t,it0,y1⟩
  | false =>
   have h1:es.size<=1:=by
    rw[hb] at nd;rcases hp with e|e
    ·rw[e];exact Nat.zero_le _
    ·rw[e] at nd
     by_cases q:es.size > 1
     ·exact absurd (by simp[q]) nd
     ·omega
   exact h _ s.drawn _ _ [s.heap.objs.size,a] _ ⟨fun b o e=>Heap.get?_push_of_some _ e,fun b hb=>by simp at hb;rcases hb with z|z;exact .inr (Nat.le_of_eq z.symm);exact .inl z,Nat.le_refl _,.refl _,fun A' hA=>we hb hA _ a ne es h1 ep t,it0,y1⟩
 refine wpAny_ite_split (fun yes=>?_) fun no=>?_
 ·refine wpAny_bind (jn es.size _ s (by rw[List.length_range]) fun ns d hpm=>?_)
  have len:ns.length=es.size:=by rw[hpm.length_eq,List.length_range]
  unfold newTuple;refine wpAny_bind (wpAny_newObj_type ?_ (by show (ns.map fun (i:Nat)=>rawInt i).toArray.size<=sizeLine;rw[List.size_toArray,List.length_map,len];exact fits_of_scanBound sz));have tk:∀ b o',s.heap.get? b=some o'->∀ o2,((s.heap.push { cls:=.type "tuple",data:=.seq (ns.map fun (i:Nat)=>rawInt i).toArray }).push o2).get? b=some o':=fun b o' e o2=>Heap.get?_push_of_some _ (Heap.get?_push_of_some _ e);refine wpAny_bind (ep_of (y.at fun o e=>Heap.get?_push_of_some _ e) (wpAny_bind (wpAny_newObj_type (wpAny_pure ⟨_,rfl,"set_iterator",_,⟨_,Heap.get?_push_size _ rfl,rfl⟩,bj.lookup,?_⟩))));have sz1:(s.heap.push { cls:=.type "tuple",data:=.seq (ns.map fun (i:Nat)=>rawInt i).toArray }).objs.size=s.heap.objs.size+1:=Heap.size_push ..;have nT:s.heap.objs.size≠(s.heap.push { cls:=.type "tuple",data:=.seq (ns.map fun (i:Nat)=>rawInt i).toArray }).objs.size:=by rw[sz1];exact Nat.ne_of_lt (Nat.lt_succ_self _)
  have ne:a≠(s.heap.push { cls:=.type "tuple",data:=.seq (ns.map fun (i:Nat)=>rawInt i).toArray }).objs.size:=by rw[sz1];exact Nat.ne_of_lt (Nat.lt_succ_of_lt lt)
  refine h _ d _ _ [_,a,s.heap.objs.size] _ ⟨fun b o e=>tk b o e _,fun b hb=>?_,by rw[sz1];exact Nat.le_succ _,?_,fun A' hA=>qx hA _ a s.heap.objs.size ne nT es ep t ns hpm,⟨_,Heap.get?_push_size _ rfl,rfl,rfl⟩,y.at fun o e=>tk a o e _,⟨_,Heap.get?_push_of_some _ (Heap.get?_push_size _ rfl),rfl,0,rfl⟩⟩
  ·simp only[List.mem_cons,List.not_mem_nil,or_false] at hb
   rcases hb with z|z|z
   ·rw[z,sz1];exact .inr (Nat.le_succ _)
   ·exact .inl z
   ·exact .inr (Nat.le_of_eq z.symm)
  ·have e:es.toList.map (·.2)=(List.range es.size).filterMap fun j=>es[j]?.map (·.2):=by
    have:=filterMap_getElem?_range es;rw[<- this,List.map_filterMap]
   rw[e];exact hpm.filterMap _
 ·exact plain no
end
end L2
end
section
namespace L2
open PySem PySem.Spec PyProof.Rows
theorem xZ:typeLookup (.type "set") "__len__"=pure (some (.builtin "set.__len__")):=by rw[typeLookup_type,builtinLookup_eq_fast];kernel_rfl
section
variable {P:Program}{w:World}{A:Around}{E:Value->Shared->Prop}{s:Shared}
theorem wU {r:Addr}{Q:Bool->Shared->Prop} (hT:s.TypeIs (.ref r) "set") (h:Q false s):wpAny (model P w) A (Builtin.List.listLengthHint (.ref r)) Q E s:=by
 unfold Builtin.List.listLengthHint;refine wpAny_bind (wpAny_specialOf hT xZ ?_);generalize hid:("set.__len__":String)=id0
 wp_delta
 rw[show splitId id0=some ("set","__len__") from by subst hid;decide +kernel];subst hid;refine wpAny_bind (wpAny_isInstance (T:="set") (b:=true) hT (by rw[isSubtype_type];kernel_rfl) ?_);refine wpAny_ite_split (fun z=>absurd z (by decide)) (fun _=>?_);refine wpAny_ite_split (fun _=>?_) (fun z=>absurd (by decide +kernel) z);refine wpAny_bind (wpAny_typeOf hT ?_);exact wpAny_pure h
theorem jG {r:Addr}{T:String}{n:Nat}{Ok:(Nat->Value->Prop)->Prop}{Q:List Value->Shared->Prop} (hT:s.TypeIs (.ref r) T) (nl:(Value.type T == Value.type "list")=false) (nt:(Value.type T == Value.type "tuple")=false) (hn:n<=sizeLine) (hh:A.handled=none)
  (hint:∀ (A:Around) (E:Value->Shared->Prop) (s':Shared) (Q:Bool->Shared->Prop),s'.TypeIs (.ref r) T->Q false s'->wpAny (model P w) A (Builtin.List.listLengthHint (.ref r)) Q E s')
  (iter:∀ (A:Around) (E:Value->Shared->Prop) (s':Shared) (R:Value->Shared->Prop),(∀ b o,s.heap.get? b=some o->s'.heap.get? b=some o)->(∀ h1 d1 it fp St Pv,Ok Pv->(∀ b o,s'.heap.get? b=some o->h1.get? b=some o)->(∀ b∈fp,b=r\/s'.heap.objs.size<=b)->s'.heap.objs.size<=it->(∀ A:Around,A.handled=none->Walks P w A it fp [it] n Pv St)->St 0 h1->R (.ref it) { s' with heap:=h1,drawn:=d1 })->wpAny (model P w) A (pyIter (.ref r)) R E s')
  (h:∀ (h':Heap) (d':Drawn) (tk:Nat) (vs:List Value) Pv,Ok Pv->(∀ b o,s.heap.get? b=some o->h'.get? b=some o)->s.heap.objs.size<h'.objs.size->vs.length=n->(∀ j v,vs[j]?=some v->Pv j v)->Q vs { s with heap:=h',drawn:=d',toks:=tk }) :
  wpAny (model P w) A (collect (.ref r)) Q E s:=by
 obtain⟨ro,hro,hrc⟩:=id hT;have rlt:=Heap.lt_size hro;unfold collect;refine wpAny_bind (wpAny_runValue (codeAny_builtin entry_proto_collect' ?_));show wpAny _ _ (do again (.builtin "list.__iadd__" ⟨[<- newList [],.ref r],[]⟩)) _ _ s;refine wpAny_bind (wpAny_newList (wpAny_pure ⟨Code.quiet_builtin _ (by decide +kernel),codeAny_builtin entry_list_iadd' ?_⟩));show wpAny _ _ (Builtin.List.listExtendWith (.ref s.heap.objs.size) (.ref r) (.ref s.heap.objs.size)) _ _ { s with heap:=s.heap.push (seqObj "list" #[] 0) };have hS:(s.heap.push (seqObj "list" #[] 0)).get? s.heap.objs.size=some (seqObj "list" #[] 0):=Heap.get?_push_size _ rfl;have ne:s.heap.objs.size≠r:=Nat.ne_of_gt rlt;have old:∀ b o,s.heap.get? b=some o->(s.heap.push (seqObj "list" #[] 0)).get? b=some o:=fun b o e=>Heap.get?_push_of_some _ e;have last:∀ (h1:Heap) (d1:Drawn) (tk:Nat) (it:Addr) (fp:List Addr) (St:Nat->Heap->Prop) (Pv:Nat->Value->Prop) (c1:Nat),Ok Pv->(∀ b o,s.heap.get? b=some o->h1.get? b=some o)->s.heap.objs.size∉fp->s.heap.objs.size<it->(∀ A:Around,A.handled=none->Walks P w A it fp [it] n Pv St)->St 0 h1->h1.get? s.heap.objs.size=some (seqObj "list" #[] c1) ->
   codeAny (model P w) A (.builtin "list.extend.loop" ⟨[.ref s.heap.objs.size,.ref it,.ref s.heap.objs.size],[]⟩) (fun r s'=>match r with
    | .ok (.ret v)=>wpAny (model P w) A (match v with
      | .ref a=>do
       let o <- load a
       match o.data with
       | .seq xs _=>pure xs.toList
       | _=>unsupported "internal:collect"
      | _=>unsupported "internal:collect") Q E s'
    | .ok _=>False
    | .error e=>E e s') { s with heap:=h1,drawn:=d1,toks:=tk }:=by
  intro h1 d1 tk it fp St Pv c1 hok kp nf lt wk st hL;refine codeAny_extend_loopS (wk A.in1 hh).toS hn s.heap.objs.size nf (.ref s.heap.objs.size) n 0 _ #[] c1 rfl (Nat.zero_le _) st hL (ItemsOf.nil _) fun s' acc' c' hm hS' hacc=>?_;rw[Moved.eq_with hm];have hS2:({ s with heap:=s'.heap,drawn:=d1,toks:=s'.toks }:Shared).heap.get? s.heap.objs.size=some { cls:=.type "list",dict:=none,data:=.seq acc' c',slots:=#[] }:=hS';show wpAny (model P w) A (load s.heap.objs.size >>= _) Q E { s with heap:=s'.heap,drawn:=d1,toks:=s'.toks };refine wpAny_bind (wpAny_load hS2 ?_);refine wpAny_pure (h s'.heap d1 s'.toks acc'.toList Pv hok (fun b o e=>hm.heap b o (fun z=>?_) (kp b o e)) (Heap.lt_size hS') (by rw[Array.length_toList];exact hacc.1) fun j v hv=>hacc.2 j v (by rw[Array.getElem?_toList] at hv;exact hv));have hb:=Heap.lt_size e;rcases List.mem_cons.mp z with z|z
  ·exact absurd z (Nat.ne_of_lt hb)
  ·exact absurd (List.mem_singleton.mp z) (Nat.ne_of_lt (Nat.lt_trans hb lt))
 unfold Builtin.List.listExtendWith;refine wpAny_bind (wpAny_typeOf (T:=T) ⟨ro,old r ro hro,hrc⟩ ?_);have h1:Builtin.List.listSameRef (.ref s.heap.objs.size) (.ref r)=false:=by simp[Builtin.List.listSameRef,ne]
 simp only[h1,nl,nt,Bool.or_false,Bool.false_eq_true,if_false];refine wpAny_bind (iter _ _ { s with heap:=s.heap.push (seqObj "list" #[] 0) } _ old fun h1 d1 it fp St Pv hok kp up new wk st=>?_);have new:(s.heap.push (seqObj "list" #[] 0)).objs.size<=it:=new;rw[size_push'] at new;have up':s.heap.objs.size∉fp:=fun z=>by
  rcases up _ z with q|q
  ·exact ne q
  ·have q:(s.heap.push (seqObj "list" #[] 0)).objs.size<=s.heap.objs.size:=q
   rw[size_push'] at q;omega
 have hL:=kp _ _ hS;refine wpAny_bind (wpAny_holding (hint _ _ _ _ ⟨ro,kp _ _ (old r ro hro),hrc⟩ ?_));refine wpAny_ite_split (fun _=>?_) fun _=>wpAny_pure ⟨plainId_quiet PySem.F.plain_extend_loop _,last _ _ _ it fp St Pv 0 hok (fun b o e=>kp b o (old b o e)) up' new wk st hL⟩;refine wpAny_bind (wpAny_rule ?_);refine wpAny_bind ?_;show wpAny _ _ (updateSeq s.heap.objs.size (·.push .none) >>= fun _=>updateSeq s.heap.objs.size (·.pop)) _ _ _;refine wpAny_bind (wpAny_updateSeq hL rfl ?_);have hL2:=Heap.get?_update_self (Obj.mapSeq (·.push Value.none)) hL rfl;refine wpAny_updateSeq (hz:=by seq_fits) hL2 rfl ?_;have hL3:=Heap.get?_update_self (Obj.mapSeq (·.pop)) hL2 rfl;have far:∀ b o,b≠s.heap.objs.size->h1.get? b=some o->((h1.update s.heap.objs.size (Obj.mapSeq (·.push Value.none))).update s.heap.objs.size (Obj.mapSeq (·.pop))).get? b=some o :=
  fun b o hb e=>(Heap.get?_update_other _ _ (Ne.symm hb)).trans ((Heap.get?_update_other _ _ (Ne.symm hb)).trans e)
 refine wpAny_pure ⟨plainId_quiet PySem.F.plain_extend_loop _,last _ _ _ it fp St Pv _ hok (fun b o e=>far b o (Nat.ne_of_lt (Heap.lt_size e)) (kp b o (old b o e))) up' new wk ?_ hL3⟩;exact (wk A.in1 hh).frame 0 _ _ st fun b hb o e=>far b o (fun z=>up' (z ▸ hb)) e
theorem kI {v:Value}{Q:Value->Shared->Prop}
  (h:wpAny (model P w) A.in1 (collect v) (fun vs s1=>∃ ss,StrsAre vs ss/\vs.length<64/\(∀ b o,s.heap.get? b=some o->s1.heap.get? b=some o)/\∀ (h':Heap) (out:List Value) (ss':List Str) (e:Nat),(∀ b o,s1.heap.get? b=some o->h'.get? b=some o)->h'.get? s1.heap.objs.size=some (seqObj "list" out.toArray e)->StrsAre out ss'->ss'.Perm ss->sortedS ss'=true->Q (.ref s1.heap.objs.size) { s1 with heap:=h' }) E s) :
  wpAny (model P w) A (call (.builtin "sorted") [v]) Q E s:=by
 refine Calls.call_function_entry kind_sorted plain_sorted entry_sorted (args_sorted1 _) ?_;unfold Builtin.«sorted»;refine wpAny_bind (m:=checkCount "sorted" 1 1 _) (wpAny_pure ?_);refine wpAny_bind (wpAny_mono h (fun vs s1 z=>?_) fun _ _ z=>z);obtain⟨ss,hss,h64,kp,q⟩:=z;refine wpAny_bind (wpAny_newList ?_ (by show vs.length<=sizeLine;rw[sizeLine_eq];omega));have hoL:(s1.heap.push (seqObj "list" vs.toArray 0)).get? s1.heap.objs.size=some (seqObj "list" vs.toArray 0):=Heap.get?_push_size _ rfl;refine wpAny_bind (wpAny_holding (wpAny_call_entry slot_list_sort ⟨_,hoL,rfl⟩ entry_list_sort (list_sort_treeK strKind_oneLt hoL hss.keysOf (fun v₁ v₂ rest e=>keyKind_strs (by rw[<- e];exact hss)) h64 fun st' a1 a2=>⟨_,rfl,?_⟩) (args_list_sort _)));obtain⟨ss',b1,b2,b3⟩:=sorted_out_str hss a1 a2;have hsz:(s1.heap.push (seqObj "list" vs.toArray 0)).objs.size=s1.heap.objs.size+1:=size_push' _ _;have far:∀ b o,b<s1.heap.objs.size+1->b≠s1.heap.objs.size->(s1.heap.push (seqObj "list" vs.toArray 0)).get? b=some o->(sortedHeap (s1.heap.push (seqObj "list" vs.toArray 0)) s1.heap.objs.size vs ((arrOf st').map (·.2))).get? b=some o:=fun b o hb hn e=>by
  unfold sortedHeap;rw[Heap.get?_update_other _ _ (Ne.symm hn),Heap.get?_push_ne _ _ _ (by rw[size_push',Heap.size_update,hsz];exact Nat.ne_of_lt (Nat.lt_succ_of_lt hb)),Heap.get?_push_ne _ _ _ (by rw[Heap.size_update,hsz];exact Nat.ne_of_lt hb),Heap.get?_update_other _ _ (Ne.symm hn)];exact e
 obtain⟨e1,q1⟩:∃ e1,((s1.heap.push (seqObj "list" vs.toArray 0)).update s1.heap.objs.size (Obj.mapSeq fun _=>#[])).get? s1.heap.objs.size=some (seqObj "list" #[] e1):=⟨_,get?_update_seq hoL (fun _=>#[])⟩;have q2:((((s1.heap.push (seqObj "list" vs.toArray 0)).update s1.heap.objs.size (Obj.mapSeq fun _=>#[])).push (seqObj "tuple" vs.toArray 0)).push (seqObj "list" #[] 0)).get? s1.heap.objs.size=some (seqObj "list" #[] e1):=by
  rw[Heap.get?_push_ne _ _ _ (by rw[size_push',Heap.size_update,hsz];exact Nat.ne_of_lt (Nat.lt_succ_of_lt (Nat.lt_succ_self _))),Heap.get?_push_ne _ _ _ (by rw[Heap.size_update,hsz];exact Nat.ne_of_lt (Nat.lt_succ_self _))];exact q1
 refine wpAny_pure ⟨_,rfl,q _ ((arrOf st').map (·.2)).toList ss' _ (fun b o e=>far b o (Nat.lt_succ_of_lt (Heap.lt_size e)) (Nat.ne_of_lt (Heap.lt_size e)) (Heap.get?_push_of_some _ e)) (by
  have:=get?_update_seq q2 (fun _=>(arrOf st').map (·.2));rw[Array.toArray_toList];exact this) b1 b2 b3⟩
end
end L2
end
section
namespace L2
open PySem PySem.Spec PyProof.Rows
structure zS (K:PySem.W.Frag) (C:Addr):Prop where
 eq:PySem.W.findIn K (.ref C) "__eq__"=some (some (.builtin "object.__eq__"))
 ob:PySem.W.subIn K (.ref C) (.type "object")=some true
 nn:PySem.W.subIn K (.ref C) (.type "NoneType")=some false
section
variable {prog:Program}{w:World}{A:Around}{E:Value->Shared->Prop}{s:Shared}{K:PySem.W.Frag}{x C:Addr}{o:Obj}
theorem gK {b:Value}{same:Bool}{Q:Option Value->Shared->Prop} (X:K.In s.heap) (e:zS K C) (hx:s.heap.get? x=some o) (hc:o.cls=.ref C) (hs:∀ (A:Around) (E:Value->Shared->Prop) (Q:Bool->Shared->Prop),Q same s->wpAny (model prog w) A (isSame (.ref x) b) Q E s)
  (h:Q (if same=true then some (.bool true) else none) s):wpAny (model prog w) A (tryCompare (.ref x) "__eq__" b) Q E s:=by
 have LT:PySem.W.Looks (model prog w) s.heap (typeOf (.ref x)) (.ref C):=by
  rw[<- hc];exact (PySem.W.Looks.ld hx).andThen .now
 have LS:PySem.W.Looks (model prog w) s.heap (specialOf (.ref x) "__eq__") (some (.builtin "object.__eq__")):=LT.andThen (PySem.W.looks_findIn X e.eq);have LI:PySem.W.Looks (model prog w) s.heap (isInstance (.ref x) (.type "object")) true:=LT.andThen (PySem.W.looks_subIn X e.ob);have run:wpAny (model prog w) A (call (.builtin "object.__eq__") ([.ref x]++[b])) (fun v s1=>s1=s/\v=(if same=true then .bool true else .notImplemented)) E s:=by
  refine wpAny_call (codeAny_call_builtin PySem.F.cmp_object.eq.plain PySem.F.cmpEntry_eq ?_);have fin:wpAny (model prog w) A.in1 (Builtin.«object.__eq__» ⟨[.ref x,b],[]⟩) (fun fn s'=>match fn with|.done f=>(wants (fun v s1=>s1=s/\v=(if same=true then .bool true else .notImplemented)) E) (.ok f) s'|.again c'=>c'.quiet=true/\codeAny (model prog w) A c' (wants (fun v s1=>s1=s/\v=(if same=true then .bool true else .notImplemented)) E) s') (fun e s'=>E e s') s:=by
   unfold Builtin.«object.__eq__»;refine wpAny_bind (wpAny_of_eq (a:=(Value.ref x,[b])) rfl ?_);dsimp only;refine wpAny_bind (hs _ _ _ ?_)
   cases same with
   | true=>exact wpAny_pure ⟨rfl,rfl⟩
   | false=>exact wpAny_pure ⟨rfl,rfl⟩
  simp only[checkBuiltinCall,PySem.F.cmpKind_eq,PySem.F.cmpSplit_eq];refine wpAny_bind (LI.here ?_);simp only[Bool.not_true,Bool.false_eq_true,if_false];have ha:=PySem.F.cmpArgs_eq (.ref x) b;unfold argsOk at ha
  cases hsig:Manifest.signature? "object.__eq__" with
  | none=>exact wpAny_pure fin
  | some sig =>
   rw[hsig] at ha;have h2:Bind.checkArgs "object.__eq__" sig ⟨[.ref x,b],[]⟩=pure ():=ha;show wpAny _ _ (Bind.checkArgs "object.__eq__" sig ⟨[.ref x,b],[]⟩) _ _ s;rw[h2];exact wpAny_pure fin
 simp only[tryCompare,callSpecialIfBound?,bindSpecialIfBound?];refine wpAny_bind (wpAny_holding (wpAny_bind (wpAny_bind (LS.here ?_))));simp only[PySem.F.cmp_object.eq.bind];refine wpAny_bind (wpAny_askSetting (wpAny_ite ?_));have last:wpAny (model prog w) A (call (.builtin "object.__eq__") ([.ref x]++[b]) >>= fun v=>pure (some v)) (fun v s1=>wpAny (model prog w) A (match v with|some .notImplemented=>pure none|none=>pure none|some v=>pure (some v)) Q E s1) E s :=
  wpAny_bind (wpAny_mono run (fun v s1 z=>by
   obtain⟨rfl,rfl⟩:=z;refine wpAny_pure ?_
   cases same with
   | true=>exact wpAny_pure h
   | false=>exact wpAny_pure h) fun _ _ z=>z)
 split
 ·exact wpAny_bind (wpAny_pure (wpAny_pure last))
 ·exact wpAny_tryCatch (wpAny_bind (wpAny_pure (wpAny_pure last)))
theorem oZ (y:Addr):Gives (Builtin.«NoneType.__eq__» ⟨[.none,.ref y],[]⟩) (.val (Value.notImplemented)) :=
 .of_wp fun M A E s Q h=>by obtain⟨hp,g,d,tk,os⟩:=s;wp_walk;exact⟨_,rfl,h⟩
theorem zI {Q:Bool->Shared->Prop} (h:Q false s):wpAny (model prog w) A (isSubtype (.type "NoneType") (.ref C)) Q E s:=by
 have:isSubtype (.type "NoneType") (.ref C)=pure false:=by rw[isSubtype_type];rfl
 rw[this];exact wpAny_pure h
theorem Bo {y:Addr}{o':Obj}{Q:Value->Shared->Prop} (X:K.In s.heap) (e:zS K C) (hx:s.heap.get? x=some o) (hc:o.cls=.ref C) (hy:s.heap.get? y=some o') (hc':o'.cls=.ref C) (hu:A.units<cLine)
  (h:Q (.bool (decide (x=y))) s):wpAny (model prog w) A (compareOp .Eq (.ref x) (.ref y)) Q E s:=by
 show wpAny _ A (richCompare .Eq _ _) Q E s;have nt:o.cls≠.type "tuple":=by rw[hc];intro z;cases z
 have nt':o'.cls≠.type "tuple":=by rw[hc'];intro z;cases z
 simp only[richCompare,cmpInfo_Eq,oneThing_ref];refine wpAny_holding (wpAny_bind (wpAny_cRoomFor hu ?_));have LT:PySem.W.Looks (model prog w) s.heap (typeOf (.ref x)) (.ref C):=by
  rw[<- hc];exact (PySem.W.Looks.ld hx).andThen .now
 have LT':PySem.W.Looks (model prog w) s.heap (typeOf (.ref y)) (.ref C):=by
  rw[<- hc'];exact (PySem.W.Looks.ld hy).andThen .now
 refine wpAny_bind (LT.here (wpAny_bind (LT'.here ?_)));rw[if_neg (by simp)];refine wpAny_bind (wpAny_pure ?_);simp only[Bool.false_eq_true,if_false]
 by_cases q:x=y
 ·subst q
  refine wpAny_bind (gK (same:=true) X e hx hc (fun A E Q z=>wpAny_isSame_ref_self z) ?_);rw[decide_eq_true rfl] at h;exact wpAny_pure h
 ·rw[decide_eq_false q] at h
  refine wpAny_bind (gK (same:=false) X e hx hc (fun A E Q z=>wpAny_isSame_ref_other q hx hy nt z) ?_);simp only[Bool.false_eq_true,if_false,Bool.not_false,if_true];refine wpAny_bind (gK (same:=false) X e hy hc' (fun A E Q z=>wpAny_isSame_ref_other (fun z=>q z.symm) hy hx nt' z) ?_);simp only[Bool.false_eq_true,if_false];exact wpAny_bind (wpAny_rule (wpAny_bind (wpAny_isSame_ref_other q hx hy nt (wpAny_pure h))))
theorem Bi {Q:Value->Shared->Prop} (X:K.In s.heap) (e:zS K C) (hx:s.heap.get? x=some o) (hc:o.cls=.ref C) (hu:A.units<cLine)
  (h:Q (.bool false) s):wpAny (model prog w) A (compareOp .Eq (.ref x) .none) Q E s:=by
 show wpAny _ A (richCompare .Eq _ _) Q E s;have one:oneThing? .Eq (.ref x) .none=none:=rfl;simp only[richCompare,cmpInfo_Eq,one];refine wpAny_holding (wpAny_bind (wpAny_cRoomFor hu ?_));have LT:PySem.W.Looks (model prog w) s.heap (typeOf (.ref x)) (.ref C):=by
  rw[<- hc];exact (PySem.W.Looks.ld hx).andThen .now
 refine wpAny_bind (LT.here (wpAny_bind (wpAny_typeOf (T:="NoneType") rfl ?_)));rw[if_pos (by simp)];refine wpAny_bind (zI ?_);simp only[Bool.false_eq_true,if_false,Bool.not_false,if_true];refine wpAny_bind (gK (same:=false) X e hx hc (fun A E Q z=>wpAny_isSame_plain rfl z) ?_);simp only[Bool.false_eq_true,if_false];refine wpAny_bind (wpAny_tryCompare_declines (T:="NoneType") rfl F.slot_NoneType_eq_refl (call_gives F.slot_NoneType_eq_refl rfl F.entry_NoneType_eq (F.args_NoneType_eq_2 _ _) (oZ x) ⟨rfl,?_⟩));exact wpAny_bind (wpAny_rule (wpAny_bind (wpAny_isSame_plain rfl (wpAny_pure h))))
theorem zZ {Q:Value->Shared->Prop} (X:K.In s.heap) (e:zS K C) (hx:s.heap.get? x=some o) (hc:o.cls=.ref C) (hu:A.units<cLine)
  (h:Q (.bool false) s):wpAny (model prog w) A (compareOp .Eq .none (.ref x)) Q E s:=by
 show wpAny _ A (richCompare .Eq _ _) Q E s;have one:oneThing? .Eq .none (.ref x)=none:=rfl;simp only[richCompare,cmpInfo_Eq,one];refine wpAny_holding (wpAny_bind (wpAny_cRoomFor hu ?_));have LT:PySem.W.Looks (model prog w) s.heap (typeOf (.ref x)) (.ref C):=by
  rw[<- hc];exact (PySem.W.Looks.ld hx).andThen .now
 refine wpAny_bind (wpAny_typeOf (T:="NoneType") rfl (wpAny_bind (LT.here ?_)));rw[if_pos (by simp)];refine wpAny_bind ((PySem.W.looks_subIn X e.nn).here ?_);simp only[Bool.false_eq_true,if_false,Bool.not_false,if_true];refine wpAny_bind (wpAny_tryCompare_declines (T:="NoneType") rfl F.slot_NoneType_eq (call_gives F.slot_NoneType_eq rfl F.entry_NoneType_eq (F.args_NoneType_eq_2 _ _) (oZ x) ⟨rfl,?_⟩));refine wpAny_bind (gK (same:=false) X e hx hc (fun A E Q z=>wpAny_isSame_plain rfl z) ?_);simp only[Bool.false_eq_true,if_false];exact wpAny_bind (wpAny_rule (wpAny_bind (wpAny_isSame_plain rfl (wpAny_pure h))))
end
end L2
end
section
namespace L2
open PySem PySem.Spec PyProof.Rows
open PySem.W (Looks hideAll hideAll_get of_hideAll funFrames_hide exmOne exm_one)
theorem fk.sub {P:Program}{w:World}{H:Hp}{h h':Heap} (x:fk P w H h) (k:∀ b o u,H b=some u->h.get? b=some o->h'.get? b=some o):fk P w H h':=fun a o e =>
 (x a o e).pT (fun b v hc q=>hc.elim (fun z=>k b v o (z ▸ e) q) fun z=>k b v _ z q) (fun _ q=>q) fun _ _ q=>q
structure Kx (fs:List Addr) (H H':Hp) (h B h':Heap):Prop where
 keep:∀ b o,h.get? b=some o->H b=none->b∉fs->B.get? b=some o
 slot:∀ b o,h.get? b=some o->H b=none->b∈fs->∃ sl,h'.get? b=some { o with slots:=sl }
 free:∀ b o,h.get? b=some o->H b=none->H' b=none
 there:∀ b o,h.get? b=some o->b∉fs->∃ o',B.get? b=some o'
 tups:∀ b xs,H b=some (.tup xs)->H' b=some (.tup xs)
 frzs:∀ b o u,H b=some (.frz o u)->H' b=some (.frz o u)
 tbls:∀ b ps,H b=some (.tbl ps)->∃ more,H' b=some (.tbl (ps++more))
theorem Kx.un {fs:List Addr}{H H':Hp}{h B h':Heap} (k:Kx fs H H' h B h') (st:B.StaysIn h') (hf:∀ b∈fs,H b=none):Un fs [] H H' h h' where
 keep b o e n nf _:=st b o (k.keep b o e n nf)
 slot b o e n nf _:=k.slot b o e n nf
 free b o e n _:=k.free b o e n
 there b o e _:=by
  by_cases hb:b∈fs
  ·obtain⟨sl,q⟩:=k.slot b o e (hf b hb) hb
   exact⟨_,q⟩
  ·obtain⟨o',q⟩:=k.there b o e hb
   exact⟨o',st b o' q⟩
 tups:=k.tups
 frzs:=k.frzs
 tbls:=k.tbls
theorem Kx.up {fs:List Addr}{H H':Hp}{h B h' h'':Heap} (k:Kx fs H H' h B h') (u:h'.UpToSlots h'') (hd:∀ b∈fs,∃ o,h.get? b=some o/\∀ vs,o.data≠.fields vs):Kx fs H H' h B h'' :=
 ⟨k.keep,fun b o e n m=>by
  obtain⟨sl,q⟩:=k.slot b o e n m;obtain⟨o',e',d⟩:=hd b m;rw[e] at e'
  cases e';obtain⟨sl',q'⟩:=u b _ q d;exact⟨sl',q'⟩,k.free,k.there,k.tups,k.frzs,k.tbls⟩
noncomputable def fz (P:Program) (w:World):kQ:=fun outer H s E e s'=>∃ (a:Addr) (cls a0:Value) (H':Hp) (B:Heap),e=.ref a/\s'.os=s.os/\AllBare s'.gens/\Heap.FlyingW B outer a cls a0 s'.heap/\fk P w H' B/\Kx (iJ outer) H H' s.heap B s'.heap/\E cls none H'
noncomputable def Raises (X:Cx) (E:XK):Prop:=∀ (pins:List (Addr×Obj)) (σ:St) (H:Hp) (s:Shared) (h':Heap) (e:Addr) (cls:Value) (vs:List Value),Inv X pins σ H s->Heap.MadeExcOf s.heap h' e cls vs->E cls none H->X.xe (.ref e) { s with heap:=h' }
section
variable {P:Program}{w:World}{K:PySem.W.Frag}{mg:Str->Option Value}{base:Heap}{N:List Str}{qual:Str}{scope:Scope}{f:Addr}{cd:Value}{A:Around}{outer:List Env}{s:Shared}{H:Hp}{E:XK}
theorem gL {env:Env}{L:Addr}{l:List Env}{b:Addr} (hf:env.frame=some L) (h1:b≠L) (h2:b∉iJ l):b∉iJ (env::l):=by
 unfold iJ;rw[List.filterMap_cons,hf];intro z;rcases List.mem_cons.mp z with z|z
 ·exact h1 z
 ·exact h2 z
theorem ly:Raises (iN (fz P w) P w K mg base N qual scope f cd A outer s H E) E:=by
 intro pins σ H1 s1 h' e cls vs I hx he;show wpAny (model P w) (A.deeper (envOfC qual scope s.heap.objs.size f cd)) (leaving (envOfC qual scope s.heap.objs.size f cd) (.ref e)) (fun _ s''=>fz P w outer H s E (.ref e) s'') _ _;have inl:∀ env∈(envOfC qual scope s.heap.objs.size f cd::outer),∀ a,env.frame=some a->a∈iJ (envOfC qual scope s.heap.objs.size f cd::outer):=fun env he b hb=>List.mem_filterMap.mpr ⟨env,he,hb⟩;refine wpAny_leaves_madeW (base:=hideAll s1.heap (iJ (envOfC qual scope s.heap.objs.size f cd::outer))) (h:=s1.heap) I.ok.frames rfl (fun b o q=>of_hideAll _ q) (funFrames_hide I.stack inl) hx fun h'' t x1 x2 x3 x4=>?_;have low:∀ b o,s.heap.get? b=some o->b∉iJ outer->b∉iJ (envOfC qual scope s.heap.objs.size f cd::outer):=fun b o e n=>gL rfl (Nat.ne_of_lt (Heap.lt_size e)) n;have ex:∀ b:Addr,b∉(iN (fz P w) P w K mg base N qual scope f cd A outer s H E).ex:=fun b z=>absurd (show b∈([]:List Addr) from z) (by simp);refine⟨e,cls,.ref t,H1,_,rfl,I.os,I.bare,x1,?_,⟨fun b o q n nf=>?_,fun b o q n nf=>?_,fun b o q n=>I.base.free b o q n (ex b),fun b o q nf=>?_,I.base.tups,I.base.frzs,I.base.tbls⟩,he⟩
 ·refine I.hok.sub fun b o u hu q=>hideAll_get _ q fun z=>?_
  have:=I.jc b z;rw[this] at hu;cases hu
 ·exact hideAll_get _ (I.base.keep b o q n nf (ex b)) (low b o q nf)
 ·obtain⟨sl,q1⟩:=I.base.slot b o q n nf (ex b)
  obtain⟨_,o',e',d⟩:=I.ok.fZ.mem nf;have e':s.heap.get? b=some o':=e';rw[q] at e'
  cases e';obtain⟨sl',q2⟩:=x4 b _ (hx.keeps b _ q1) d;exact⟨sl',q2⟩
 ·obtain⟨o',q1⟩:=I.base.there b o q (ex b)
  exact⟨o',hideAll_get _ q1 (low b o q nf)⟩
theorem cf:Passes (fz P w) (iN (fz P w) P w K mg base N qual scope f cd A outer s H E) E:=by
 rintro pins σ H1 s1 e s' I ⟨a,cls,a0,H',B,rfl,ho,hb,hfl,hok,k,he⟩;show wpAny (model P w) (A.deeper (envOfC qual scope s.heap.objs.size f cd)) (leaving (envOfC qual scope s.heap.objs.size f cd) (.ref a)) (fun _ s''=>fz P w outer H s E (.ref a) s'') _ _;refine wpAny_leaves_onW I.ok.frames rfl hfl fun h'' x1 x4=>?_;have low:∀ b o,s.heap.get? b=some o->b∉iJ outer->b∉iJ (envOfC qual scope s.heap.objs.size f cd::outer):=fun b o e n=>gL rfl (Nat.ne_of_lt (Heap.lt_size e)) n;have hi:∀ b,b∈iJ outer->b∈iJ (envOfC qual scope s.heap.objs.size f cd::outer):=fun b z=>by
  unfold iJ;rw[List.filterMap_cons];exact List.mem_cons_of_mem _ z
 have ex:∀ b:Addr,b∉(iN (fz P w) P w K mg base N qual scope f cd A outer s H E).ex:=fun b z=>absurd (show b∈([]:List Addr) from z) (by simp);refine⟨a,cls,a0,H',B,rfl,ho.trans I.os,hb,x1,hok,⟨fun b o q n nf=>?_,fun b o q n nf=>?_,fun b o q n=>?_,fun b o q nf=>?_,fun b xs q=>k.tups _ _ (I.base.tups b xs q),fun b o u q=>k.frzs _ _ _ (I.base.frzs b o u q),fun b ps q=>?_⟩,he⟩
 ·exact k.keep b o (I.base.keep b o q n nf (ex b)) (I.base.free b o q n (ex b)) (low b o q nf)
 ·obtain⟨sl,q1⟩:=I.base.slot b o q n nf (ex b)
  obtain⟨sl1,q2⟩:=k.slot b _ q1 (I.base.free b o q n (ex b)) (hi b nf);obtain⟨_,o',e',d⟩:=I.ok.fZ.mem nf;have e':s.heap.get? b=some o':=e';rw[q] at e'
  cases e';obtain⟨sl',q3⟩:=x4 b _ q2 d;exact⟨sl',q3⟩
 ·obtain⟨o',q1⟩:=I.base.there b o q (ex b)
  exact k.free b o' q1 (I.base.free b o q n (ex b))
 ·obtain⟨o',q1⟩:=I.base.there b o q (ex b)
  exact k.there b o' q1 (low b o q nf)
 ·obtain⟨more,q1⟩:=I.base.tbls b ps q
  obtain⟨more',q2⟩:=k.tbls b _ q1;exact⟨more++more',by rw[q2,Array.append_assoc]⟩
theorem cJ.AB {x:Str}{st:Stmt}{fd:FuncData}{ps:List Str}{k:Nat}{sp:Sp} (F:cJ K x qual st f fd) (S:az N ps (ao st)) (len:∀ vs H Q E,sp vs H Q E->vs.length=ps.length)
  (hbody:∀ (cdv:Value) (A:Around) (outer:List Env) (s:Shared) (H:Hp) (vs:List V) (Q:VK) (E:XK),cc k (A.deeper (envOfC qual (ao st) s.heap.objs.size f cdv))->sp vs H Q E ->
   ∃ t,mf (iN (fz P w) P w K mg base N qual (ao st) f cdv A outer s H E) (cQ st) t/\t { nx:=fun _ H'=>Q .non H',rt:=Q } (start N vs) H):aR P w K mg base (fz P w) (k+1) f fd ps sp:=by
 obtain⟨oc,od,kV,doc,pm,an,cdv,ct,osl,rfl,lk,hcd⟩:=F.ex;exact yZ lk hcd S len fun A outer s H vs Q E hr hsp=>hbody cdv A outer s H vs Q E hr hsp
end
noncomputable def wy (C:Addr) (E:XK) (t:TA):TS:=fun _ σ H=>t σ H fun vs H1=>vs.length<=sizeLine/\E (.ref C) none H1
theorem oH {X:Cx}{E:XK}{x:Str}{C:Addr}{B newId initId:String}{bmB:List Value}{np cpos pos:Pos}{e:Expr}{es:List Expr}{t:TA} (O:OwnCls x C bmB newId X.mg X.base) (FB:ExcBaseFacts B newId initId bmB)
  (hc:X.calm=true) (hr:Raises X E) (ha:PA X (e::es) t) (hg:Gl X x:=by rfl) (hd:(x == ("__debug__":Str))=false:=by decide) (hs:bD (e::es)=true:=by rfl) :
  PS X (.Raise (some (.Call (.Name x np) (e::es) [] cpos)) none pos) (wy C E t):=by
 intro pins s σ H D I q;obtain⟨tl,N,nm,qq,bs,hdct,sn,sub,ab,col,dd,k0,k1,k2,k3,k5,mN,hC,hN,hni,T⟩:=O.obj;have hs2:(notStar e && bD es)=true:=hs;rw[Bool.and_eq_true] at hs2;have he:starEach (e::es) X.env=(false,eval e X.env)::starEach es X.env:=cA hs2.1;refine wpAny_Raise_call_subT (C:=C) (nm:=nm) (q:=qq) (N:=N) (bs:=bs) (bm:=tl) (hdct:=hdct) (sn:=sn) (sub:=sub) (ab:=ab) (col:=col) (dd:=dd) (k0:=k0) (k1:=k1) (k2:=k2) (k3:=k3) (k5:=k5)
  FB (mN:=mN) (T.hasType FB.hasBase) (I.ok.hd hc) (cT hs) hni (fe I hg O.bound ⟨rfl,?_⟩ hd)
 have h2:=ha cpos pins s σ H _ I q;rw[he] at h2 ⊢;refine Calls.evalArgs_plain (bA h2 fun us s2 ⟨vs,H1,I1,r,hl,q1⟩=>?_);have kb:∀ b o,X.base.get? b=some o->s2.heap.get? b=some o:=I1.bk;refine⟨rfl,r.length ▸ hl,kb _ _ hC,hN.keeps kb,T.keeps kb,fun h' e' hm=>?_⟩;exact hr pins σ H1 s2 h' e' _ _ I1 hm q1
noncomputable def Cj (X:Cx) (pins:List (Addr×Obj)) (σ:St) (H':Hp) (a:Addr) (cls:Value) (s:Shared):Prop:=∃ (H:Hp) (s1:Shared) (B:Heap) (a0:Value),Inv X pins σ H s1/\s.os=s1.os/\AllBare s.gens/\Heap.FlyingW B X.stack a cls a0 s.heap/\fk X.prog X.w H' B/\Kx (iJ X.stack) H H' s1.heap B s.heap
section
variable {X:Cx}{pins:List (Addr×Obj)}{σ:St}{H':Hp}{a:Addr}{cls:Value}{s:Shared}
theorem Cj.inv (F:Cj X pins σ H' a cls s):Inv X pins σ H' s:=by
 obtain⟨H,s1,B,a0,I,ho,hb,hfl,hok,k⟩:=F;exact I.yV (ch:=[]) ho (k.un hfl.1 fun b hb=>I.jc b hb) (hok.kept hfl.1) hb fun b hb=>absurd hb (by simp)
theorem Cj.lands (F:Cj X pins σ H' a cls s) {A:Around}{Q:Unit->Shared->Prop}{E:Value->Shared->Prop} (h:∀ s',Cj X pins σ H' a cls s'->Q () s'):wpAny (model X.prog X.w) A (setFlight (.ref a) none) Q E s:=by
 obtain⟨H,s1,B,a0,I,ho,hb,hfl,hok,k⟩:=F;refine lands_againW hfl fun h' x1 x4=>h _ ⟨H,s1,B,a0,I,ho,hb,x1,hok,k.up x4 fun b hb=>(I.stack.mem hb).2⟩
end
noncomputable abbrev Cx.marked (X:Cx) (a:Addr):Cx:={ X with A:=X.A.mark (some (.ref a)),calm:=false,xe:=fun _ _=>False }
theorem Inv.mark {X:Cx}{pins:List (Addr×Obj)}{σ:St}{H:Hp}{s:Shared} (I:Inv X pins σ H s) (a:Addr):Inv (X.marked a) pins σ H s :=
 ⟨⟨I.ok.mod,I.ok.kind,I.ok.glob,I.ok.blt,I.ok.above,I.ok.inj,I.ok.has,I.ok.cab,(fun z=>by cases z),I.ok.frames,I.ok.stk,I.ok.exf,I.ok.bs,I.ok.bsz,I.ok.noex,I.ok.exfs,I.ok.fZ,I.ok.frf⟩,I.os,I.bare,I.base,I.loc,I.cell,I.free,I.freeC,I.pin,I.hok,I.len⟩
theorem Inv.unmark {X:Cx}{pins:List (Addr×Obj)}{σ:St}{H:Hp}{s:Shared}{a:Addr} (I:Inv (X.marked a) pins σ H s) (ok:X.Ok):Inv X pins σ H s :=
 ⟨ok,I.os,I.bare,I.base,I.loc,I.cell,I.free,I.freeC,I.pin,I.hok,I.len⟩
noncomputable def ES (X:Cx) (hs:List ExceptHandler) (th:Value->TS):Prop:=∀ (pins:List (Addr×Obj)) (s:Shared) (σ:St) (H:Hp) (D:Ends) (a:Addr) (cls:Value),Cj X pins σ H a cls s->th cls D σ H ->
 wpAny (model X.prog X.w) X.A (handleBy (.ref a) X.env hs) (SP X pins D) X.xe s
theorem yk {X:Cx}:ES X [] (fun _ _ _ _=>False):=fun _ _ _ _ _ _ _ _ h=>h.elim
noncomputable def Dz (K:PySem.W.Frag) (C:Addr) (t:TS) (th:Value->TS):Value->TS:=fun cls D σ H=>∃ b,exmOne K cls (.ref C)=some b/\if b=true then t D σ H else th cls D σ H
theorem sC {X:Cx}{x:Str}{C:Addr}{np pos:Pos}{b0:Stmt}{suite:List Stmt}{hs:List ExceptHandler}{t:TS}{th:Value->TS} (hm:X.mg x=some (.ref C)) (hb:∀ a,mf (X.marked a) (b0::suite) t) (hr:ES X hs th)
  (hg:Gl X x:=by rfl) (hd:(x == ("__debug__":Str))=false:=by decide):ES X (.ExceptHandler (some (.Name x np)) none (b0::suite) pos::hs) (Dz X.K C t th):=by
 rintro pins s σ H D a cls F ⟨b,ex,q⟩;have I:=F.inv;have LT:Looks (model X.prog X.w) s.heap (typeOf (.ref a)) cls:=by
  obtain⟨_,_,_,_,_,_,_,hfl,_⟩:=F;obtain⟨ob,hob,hc⟩:=hfl.there;subst hc;exact (Looks.ld hob).andThen .now
 refine wpAny_handleBy_cons (codeAny_handlers_test ?_) (by intro q;cases q);refine fe (X:=X.marked a) (I.mark a) hg hm ?_ hd;refine (exm_one I.eK LT ex).here ?_
 cases b with
 | false=>exact hr pins s σ H D a cls F q
 | true =>
  refine codeAny_handlers_suite ?_;refine F.lands fun s' F'=>?_;refine wpAny_mono (hb a pins s' σ H D (F'.inv.mark a) q) (fun fl s2 z=>?_) fun _ _ z=>False.elim z
  cases fl with
  | next=>obtain⟨σ',H',I,q⟩:=z;exact⟨σ',H',I.unmark F'.inv.ok,q⟩
  | brk=>obtain⟨σ',H',I,q⟩:=z;exact⟨σ',H',I.unmark F'.inv.ok,q⟩
  | cont=>obtain⟨σ',H',I,q⟩:=z;exact⟨σ',H',I.unmark F'.inv.ok,q⟩
  | ret u=>obtain⟨v,σ',H',I,r,q⟩:=z;exact⟨v,σ',H',I.unmark F'.inv.ok,r,q⟩
noncomputable abbrev Cx.pins (X:Cx) (pn:List (Addr×Obj)):Cx:={ X with pn:=pn }
noncomputable abbrev Cx.Bu (X:Cx) (pn:List (Addr×Obj)) (E:XK):Cx:={ X with pn:=pn,xe:=fun e s'=>∃ (pins:List (Addr×Obj)) (σ:St) (H:Hp) (s1:Shared),Inv (X.pins pn) pins σ H s1/\fz X.prog X.w X.stack H s1 E e s' }
theorem Cx.Ok.of {X Y:Cx} (ok:X.Ok) (e:Y={ X with pn:=Y.pn,xe:=Y.xe }):Y.Ok:=by
 rw[e];exact⟨ok.mod,ok.kind,ok.glob,ok.blt,ok.above,ok.inj,ok.has,ok.cab,ok.hd,ok.frames,ok.stk,ok.exf,ok.bs,ok.bsz,ok.noex,ok.exfs,ok.fZ,ok.frf⟩
theorem ql {X:Cx}{pn:List (Addr×Obj)}{E:XK}:Passes (fz X.prog X.w) (X.Bu pn E) E:=fun pins σ H s e s' I h =>
 ⟨pins,σ,H,s,⟨I.ok.of rfl,I.os,I.bare,I.base,I.loc,I.cell,I.free,I.freeC,I.pin,I.hok,I.len⟩,h⟩
noncomputable def DT (tb:XK->TS) (th:Value->TS):TS:=fun D σ H=>tb (fun cls _ H'=>∀ σ':St,σ'.length=σ.length->th cls D σ' H') D σ H
theorem Af {X:Cx}{body:List Stmt}{h0:ExceptHandler}{hs:List ExceptHandler}{pos:Pos}{tb:XK->TS}{th:Value->TS} (hst:X.stack=X.env::X.outer/\X.env.frame=some X.env.locals) (hb:∀ pn E,mf (X.Bu pn E) body (tb E)) (hh:ES X (h0::hs) th) :
  PS X (.Try body (h0::hs) [] [] pos) (DT tb th):=by
 intro pins s σ H D I q;have toX:∀ {pins':List (Addr×Obj)}{xe:Value->Shared->Prop}{σ:St}{H:Hp}{s:Shared},Inv { X with pn:=X.pn++pins,xe:=xe } pins' σ H s->Inv X pins σ H s:=fun J =>
  ⟨I.ok,J.os,J.bare,J.base,J.loc,J.cell,J.free,J.freeC,fun p hp=>J.pin p (List.mem_append_left _ hp),J.hok,J.len⟩
 have I0:Inv (X.Bu (X.pn++pins) fun cls _ H'=>∀ σ':St,σ'.length=σ.length->th cls D σ' H') [] σ H s :=
  ⟨I.ok.of rfl,I.os,I.bare,I.base,I.loc,I.cell,I.free,I.freeC,fun p hp=>I.pin p ((List.mem_append.mp hp).elim id fun z=>absurd z (by simp)),I.hok,I.len⟩
 refine wpAny_Try_except (wpAny_mono (hb (X.pn++pins) _ [] s σ H D I0 q) (fun fl s1 z=>?_) fun e s1 z=>?_)
 ·cases fl with
  | next=>obtain⟨σ',H',I,q⟩:=z;exact wpAny_execs_nil ⟨σ',H',toX I,q⟩
  | brk=>obtain⟨σ',H',I,q⟩:=z;exact⟨σ',H',toX I,q⟩
  | cont=>obtain⟨σ',H',I,q⟩:=z;exact⟨σ',H',toX I,q⟩
  | ret u=>obtain⟨v,σ',H',I,r,q⟩:=z;exact⟨v,σ',H',toX I,r,q⟩
 ·obtain⟨pins',σ',H1,s0,J,a,cls,a0,H',B,rfl,ho,hbr,hfl,hok,k,he⟩:=z
  have J:Inv X pins σ' H1 s0:=toX J;have hd:∀ b∈iJ X.stack,∃ o,s0.heap.get? b=some o/\∀ vs,o.data≠.fields vs:=fun b hb=>(J.stack.mem hb).2;have hfr:X.A.frames=some (X.env::X.outer):=J.ok.frames.trans (by rw[hst.1]);have hfl':Heap.FlyingW B (X.env::X.outer) a cls a0 s1.heap:=hst.1 ▸ hfl;refine wpAny_looks_onW hfr hst.2 hfl' fun h4 x4 u4=>?_;refine wpAny_landsW x4 fun h5 x5 u5=>?_;refine hh pins _ σ' H' D a cls ⟨H1,s0,B,a0,J,ho,hbr,hst.1.symm ▸ x5,hok,(k.up u4 hd).up u5 hd⟩ (he σ' ?_);rw[J.len,I.len]
end L2
end
section
namespace L2
open PySem PySem.Spec PyProof.Rows
theorem e_ {P:Program}{w:World}{X:Cx}:Passes (fz P w) X E0:=by
 rintro pins σ H s e s' I ⟨a,cls,a0,H',B,_,_,_,_,_,_,he⟩;exact he.elim
structure ck (P:Program) (w:World) (K:PySem.W.Frag) (mg:Str->Option Value) (base:Heap) (CX:kQ) (k:Nat) (C:Addr) (m:Str) (ps:List Str) (sp:Sp):Prop where
 ex:∃ f fd,aR P w K mg base CX k f fd ps sp/\pH K C/\Meth K C m f/\Binds K fd ps []
structure gd (P:Program) (w:World) (K:PySem.W.Frag) (mg:Str->Option Value) (base:Heap) (k:Nat) (x:Str) (C:Addr) (ps:List Str) (sp:Sp):Prop where
 ex:∃ f fd,aR P w K mg base aT k f fd ps sp/\Mk K C f/\mg x=some (.ref C)/\Binds K fd ps []
theorem ck.mono {P:Program}{w:World}{K:PySem.W.Frag}{mg:Str->Option Value}{base:Heap}{CX:kQ}{k j:Nat}{C:Addr}{m:Str}{ps:List Str}{sp:Sp} (c:ck P w K mg base CX k C m ps sp) (h:k<=j):ck P w K mg base CX j C m ps sp:=by
 obtain⟨f,fd,F,r⟩:=c.ex;exact⟨f,fd,F.mono h,r⟩
theorem gd.mono {P:Program}{w:World}{K:PySem.W.Frag}{mg:Str->Option Value}{base:Heap}{k j:Nat}{x:Str}{C:Addr}{ps:List Str}{sp:Sp} (c:gd P w K mg base k x C ps sp) (h:k<=j):gd P w K mg base j x C ps sp:=by
 obtain⟨f,fd,F,r⟩:=c.ex;exact⟨f,fd,F.mono h,r⟩
section
variable {X:Cx}{CX:kQ}{x m:Str}{C:Addr}{ps:List Str}{sp:Sp}{k:Nat}{o e:Expr}{es:List Expr}{to:TE}{t:TA}{p pos apos:Pos}{E:XK}
theorem wK (c:bU X.prog X.w X.K X.mg X.base CX k x ps sp) (hr:cc k X.A) (hx:Passes CX X E) (ha:PA X (e::es) t) (hg:Gl X x:=by rfl) (hdb:(x == ("__debug__":Str))=false:=by decide)
  (hs:bD (e::es)=true:=by rfl):PE X (.Call (.Name x p) (e::es) [] pos) (iK sp [] E t):=by
 have h:(notStar e && bD es)=true:=hs;rw[Bool.and_eq_true] at h;obtain⟨f,fd,F,hm,hk,hb⟩:=c.ex;exact rJ F hr hg hm hk hb .nil hx ha hdb (cA h.1) (cT h.2)
theorem cV {pl:Sem Bool} (c:ck X.prog X.w X.K X.mg X.base CX k C m ps sp) (hr:cc k X.A) (hx:Passes CX X E) (ho:PE X o to) (ha:PA X (e::es) t) (hs:bD (e::es)=true:=by rfl)
  (ht:eval (.Call (.Attribute o m apos) (e::es) [] pos) X.env=(do
   let ov <- eval o X.env
   standAt apos.atName
   let (f,first) <- holding [ov] (getMethod ov m pl)
   callWith pos f first (backTo pos (starEach (e::es) X.env)) (backToKw pos (keywordEach [] X.env))):=by rfl) :
  PE X (.Call (.Attribute o m apos) (e::es) [] pos) (pC C m sp [] E to t):=by
 have h:(notStar e && bD es)=true:=hs;rw[Bool.and_eq_true] at h;obtain⟨f,fd,F,cl,hm,hb⟩:=c.ex;exact xV (pl:=pl) ho cl hm F hr hb .nil hx ha (cA h.1) (cT h.2) ht
theorem nz {pl:Sem Bool} (c:ck X.prog X.w X.K X.mg X.base CX k C m ps sp) (hr:cc k X.A) (hx:Passes CX X E) (ho:PE X o to)
  (ht:eval (.Call (.Attribute o m apos) [] [] pos) X.env=(do
   let ov <- eval o X.env
   standAt apos.atName
   let (f,first) <- holding [ov] (getMethod ov m pl)
   callWith pos f first (backTo pos (starEach [] X.env)) (backToKw pos (keywordEach [] X.env))):=by rfl) :
  PE X (.Call (.Attribute o m apos) [] [] pos) (pC C m sp [] E to mF):=by
 obtain⟨f,fd,F,cl,hm,hb⟩:=c.ex;exact vL (pl:=pl) ho cl hm F hr hb .nil hx ht
theorem oj (c:gd X.prog X.w X.K X.mg X.base k x C ps sp) (hr:cc (k+1) X.A) (ha:PA X (e::es) t) (hg:Gl X x:=by rfl) (hdb:(x == ("__debug__":Str))=false:=by decide)
  (hs:bD (e::es)=true:=by rfl):PE X (.Call (.Name x p) (e::es) [] pos) (ou C sp [] E0 t):=by
 have h:(notStar e && bD es)=true:=hs;rw[Bool.and_eq_true] at h;obtain⟨f,fd,F,M,hm,hb⟩:=c.ex;exact yA M F hr hg hm hb .nil eu ha hdb (cA h.1) (cT h.2)
theorem zN (c:gd X.prog X.w X.K X.mg X.base k x C ps sp) (hr:cc (k+1) X.A) (hg:Gl X x:=by rfl) (hdb:(x == ("__debug__":Str))=false:=by decide) :
  PE X (.Call (.Name x p) [] [] pos) (ou C sp [] E0 mF):=by
 obtain⟨f,fd,F,M,hm,hb⟩:=c.ex;exact vd M F hr hg hm hb .nil eu hdb
end
noncomputable def ze (i:Nat):TE:=fun σ H Q=>∃ x:Str,σ[i]?=some (some (.str x))/\x.length<=10000/\(∀ c∈x.cps.toList,c<16 ^ 8)/\∀ y:Str,Q (.str y) H
theorem qP {X:Cx} (i:Nat) {x:Str}{c:Str}{j:Nat}{p1 p2 p3 p4:Pos} (hv:PE X (.Name x p1) (kx i)) (hc:c.length<=1000:=by decide +kernel) :
  PE X (.JoinedStr [.Constant (.str c) j p2,.FormattedValue (.Name x p1) 114 none p3] p4) (ze i):=by
 rintro pins s σ H Q I ⟨z,hz,hl,hb,q⟩;have hs:=sizeLine_eq;have hr:=StrLaws.reprText_len z hb;refine wpAny_JoinedStr ?_;show wpAny (model X.prog X.w) X.A (eval (.Constant (.str c) j p2) X.env) _ X.xe s;refine bA (au pins s σ H (fun v H1=>v=.str c/\H1=H) I ⟨rfl,rfl⟩) fun u s1 h1=>?_;obtain⟨v,H1,I1,r1,rfl,rfl⟩:=h1;obtain⟨t,rfl⟩:=r1;refine⟨c,t,rfl,by rw[strLen_append];show 0+c.length<=_;omega,?_⟩;show wpAny (model X.prog X.w) X.A (eval (.FormattedValue (.Name x p1) 114 none p3) X.env) _ X.xe s1;refine wpAny_FormattedValue_repr (bA (hv pins s1 σ H1 (fun v H2=>v=.str z/\H2=H1) I1 ⟨_,hz,rfl,rfl⟩) fun u2 s2 h2=>?_);obtain⟨v,H2,I2,r2,rfl,rfl⟩:=h2;obtain⟨t2,rfl⟩:=r2;refine wpAny_pyReprObj_str ?_ (by omega);refine formatField_str (fun t' tk=>?_) (by omega);refine⟨reprText z,t',rfl,by rw[strLen_append,strLen_append];show 0+c.length+_<=_;omega,?_⟩;refine⟨by rw[strLen_append,strLen_append];show 0+c.length+_<=_;omega,?_⟩;exact⟨.str _,H2,I2.tok _,⟨_,rfl⟩,q _⟩
noncomputable def Gm (C:Addr) (H:Hp) (x:V):Prop:=x=.non\/∃ a dx fs,x=.ref a/\H a=some (.ins C dx fs)
noncomputable def Fq (C:Addr):R2:=fun x y H Q=>Gm C H x/\Gm C H y/\Q (.bl (decide (x=y))) H
theorem qk {X:Cx}{pins:List (Addr×Obj)}{σ:St}{H:Hp}{s:Shared}{a C dx:Addr}{fs:List (Str×V)} (I:Inv X pins σ H s) (e:H a=some (.ins C dx fs)):∃ o,s.heap.get? a=some o/\o.cls=.ref C:=by
 obtain⟨_,_,_,h,_⟩:=I.hok a _ e;exact⟨_,h,rfl⟩
theorem vz {X:Cx}{C:Addr} (K:PySem.W.Frag) (hu:X.A.units<cLine) (e:zS K C) (hK:X.K=K:=by rfl):gu X (compareOp .Eq) (Fq C):=by
 subst hK;intro pins s σ H x y v u Q I rx ry h;obtain⟨hx,hy,q⟩:=h;rcases hx with rfl|⟨a,dx,fs,rfl,ha⟩
 ·cases rx
  rcases hy with rfl|⟨b,dy,gs,rfl,hb⟩
  ·cases ry
   exact PySem.EqNone.eq_none_none (aU I q (by simp))
  ·cases ry
   obtain⟨o,ho,hc⟩:=qk I hb;exact zZ I.eK e ho hc hu (aU I q (by simp))
 ·cases rx
  obtain⟨o,ho,hc⟩:=qk I ha;rcases hy with rfl|⟨b,dy,gs,rfl,hb⟩
  ·cases ry
   exact Bi I.eK e ho hc hu (aU I q (by simp))
  ·cases ry
   obtain⟨o',ho',hc'⟩:=qk I hb;refine Bo I.eK e ho hc ho' hc' hu (aU I q ?_)
   by_cases z:a=b
   ·subst z;simp
   ·have:¬ (V.ref a=V.ref b):=fun y=>z (V.ref.inj y)
    rw[decide_eq_false z,decide_eq_false this]
noncomputable def sZ (P:Program) (w:World) (p:Addr) (cs:List Nat):HO:=.ext fun h=>∃ es,Holds P w h p cs es
theorem Inv.yS {X:Cx}{pins:List (Addr×Obj)}{σ:St}{H:Hp}{s:Shared}{h':Heap}{a:Addr}{o:HO} (I:Inv X pins σ H s) (d:Drawn) (t:Nat) (k:∀ b u,s.heap.get? b=some u->h'.get? b=some u) (hp:s.heap.objs.size<=a) (new:bG X.prog X.w (upd H a o) h' a o) :
  Inv X pins σ (upd H a o) { s with heap:=h',drawn:=d,toks:=t } :=
 I.call (g':=s.gens) (ch:=[]) (Un.laid k hp (I.hok.fresh hp)) (I.hok.laid k hp new) I.bare fun b hb=>absurd hb (by simp)
theorem mq {X:Cx} (hc:X.calm=true):cv X (.type "set") (fun xs H Q=>∃ x:Str,xs=[.str x]/\x.cps.size<4000/\∀ p,H p=none->Q (.ref p) (upd H p (sZ X.prog X.w p x.cps.toList))):=by
 intro pins s σ H xs us Q I r h;obtain⟨x,rfl,hl,q⟩:=h;obtain⟨u,rfl,t,rfl⟩:=vals1 r;refine AG (I.ok.hd hc) (by show x.cps.size+1<4096;omega) fun h' tk es hh kp=>?_;have hp:H s.heap.objs.size=none:=I.hok.fresh (Nat.le_refl _);obtain⟨⟨⟨o,ep,tt,ho,_⟩,_,_⟩,_⟩:=id hh;refine⟨.ref s.heap.objs.size,_,I.laid (o:=sZ X.prog X.w s.heap.objs.size x.cps.toList) kp (Nat.le_refl _) ⟨⟨es,hh⟩,⟨o,ho⟩,fun h1 h2 ⟨es',z⟩ k=>⟨es',z.at k⟩⟩,rfl,q _ hp⟩
theorem jM:∀ {l:List (Int×Value)}{ds:List Nat},Paired (fun (e:Int×Value) (d:Nat)=>∃ t,e.2=.str ⟨#[d]⟩ t) l ds->StrsAre (l.map (·.2)) (ds.map fun d=>tx [d])
 | _,_,.nil=>.nil
 | _,_,.cons ⟨t,e⟩ q=>by
  rw[List.map_cons,List.map_cons,e];exact .cons _ t (jM q)
theorem ue {l l':List Value} (p:l.Perm l') {ss:List Str} (h:StrsAre l' ss):∃ ss',ss'.Perm ss/\StrsAre l ss':=by
 induction p generalizing ss with
 | nil=>cases h;exact⟨[],.refl _,.nil⟩
 | cons x _ ih =>
  cases h with
  | cons y t q =>
   obtain⟨r,p',q'⟩:=ih q;exact⟨_,p'.cons _,.cons y t q'⟩
 | swap x y l =>
  cases h with
  | cons a t q =>
   cases q with
   | cons b u q=>exact⟨_,List.Perm.swap _ _ _,.cons b u (.cons a t q)⟩
 | trans _ _ i1 i2 =>
  obtain⟨r1,p1,q1⟩:=i2 h;obtain⟨r2,p2,q2⟩:=i1 q1;exact⟨r2,p2.trans p1,q2⟩
theorem t_ {α:Type}{l r:List α} (hl:l.length=r.length) (h:∀ (j:Nat) v,l[j]?=some v->r[j]?=some v):l=r:=by
 refine List.ext_getElem? fun j=>?_
 cases e:l[j]? with
 | some v=>exact (h j v e).symm
 | none =>
  have:=List.getElem?_eq_none_iff.mp e;rw[List.getElem?_eq_none (by omega)]
theorem jE {ds:List Nat}{ss:List Str} (nd:ds.Nodup) (p:ss.Perm (ds.map fun d=>tx [d])) (h:ss.Pairwise fun a b=>¬ b.cps.toList<a.cps.toList):∃ l:List Nat,ss=(l.map fun d=>tx [d])/\l.Pairwise (·<·)/\l.Perm ds:=by
 have mem:∀ x∈ss,∃ d,x=tx [d]:=fun x hx=>by
  obtain⟨d,_,rfl⟩:=List.mem_map.mp (p.mem_iff.mp hx);exact⟨d,rfl⟩
 have e:ss=(ss.map fun x=>x.cps.toList.headD 0).map fun d=>tx [d]:=by
  rw[List.map_map]
  conv=>lhs;rw[<- List.map_id' ss]
  refine List.map_congr_left fun x hx=>?_;obtain⟨d,rfl⟩:=mem x hx;simp
 have pl:(ss.map fun x=>x.cps.toList.headD 0).Perm ds:=by
  have:=p.map fun x=>x.cps.toList.headD 0;rw[List.map_map] at this;have e2:ds.map ((fun x:Str=>x.cps.toList.headD 0) ∘ fun d=>tx [d])=ds:=by
   conv=>rhs;rw[<- List.map_id' ds]
   exact List.map_congr_left fun d _=>by simp
  rwa [e2] at this
 refine⟨_,e,?_,pl⟩;have nd2:=pl.symm.nodup nd;generalize (ss.map fun x=>x.cps.toList.headD 0)=l at e nd2;rw[e,List.pairwise_map] at h;rw[List.nodup_iff_pairwise_ne] at nd2;refine (h.and nd2).imp fun {a b} ⟨z,ne⟩=>?_;have z:¬ ([b]:List Nat)<[a]:=by simpa using z
 rcases Nat.lt_trichotomy a b with q|q|q
 ·exact q
 ·exact absurd q ne
 ·exact absurd (List.cons_lt_cons_iff.mpr (.inl q)) z
theorem iR {X:Cx} (hc:X.calm=true):cv X (.builtin "sorted") (fun xs H Q=>∃ (p:Addr) (cs:List Nat),xs=[.ref p]/\H p=some (sZ X.prog X.w p cs)/\(∀ c∈cs,97<=c/\c<=122) /\
  ∀ (q:Addr) (l:List Nat),H q=none->l.Pairwise (·<·)->(∀ c,c∈l↔c∈cs)->Q (.ref q) (upd H q (.lst (l.map fun c=>.str (tx [c]))))):=by
 intro pins s σ H xs us Q I r h;obtain⟨p,cs,rfl,hp,hcs,q⟩:=h;obtain⟨u,rfl,ru⟩:=vals1 r
 cases ru;obtain⟨⟨es,hh⟩,_,_⟩:=I.hok p _ hp;obtain⟨ds,nd,hm,hpr⟩:=id hh.is;have hlen:es.size=ds.length:=by rw[<- Array.length_toList];exact aN hpr
 have hds:ds.length<=26:=by
  have:=fW nd (u:=(List.range 26).map (·+97)) fun x hx=>by
   obtain⟨h1,h2⟩:=hcs x ((hm x).mp hx);exact List.mem_map.mpr ⟨x - 97,List.mem_range.mpr (by omega),by omega⟩
  simpa using this
 obtain⟨⟨o,ep,t,ho,hex,_⟩,_,_⟩:=id hh.ss;refine kI (jG (T:="set") (n:=es.size) (Ok:=fun Pv=>∃ ord:List Value,ord.Perm (es.toList.map (·.2))/\Pv=fun i v=>ord[i]?=some v) ⟨o,ho,hex.1⟩ (by decide) (by decide) (by rw[sizeLine_eq];omega) (I.ok.hd hc) (fun A E s' Q hT q=>wU hT q) ?_ ?_)
 ·intro A' E' s' R old k
  refine wN (es:=es) (hh.ss.at fun o e=>old p o e) fun h1 d1 it ord fp St z=>?_;exact k h1 d1 it fp St _ ⟨ord,z.pm,rfl⟩ z.kp z.up z.new z.wk z.st
 ·rintro h' d' tk vs Pv ⟨ord,pm,rfl⟩ kp slt hl hv
  have e:vs=ord:=t_ (by rw[hl,pm.length_eq,List.length_map,Array.length_toList]) hv;subst e;obtain⟨ss,ps,hss⟩:=ue pm (jM hpr);refine⟨ss,hss,by omega,kp,fun h2 out ss' e2 kp2 hL hs' p' srt=>?_⟩;obtain⟨l,rfl,sl,pl⟩:=jE nd (p'.trans ps) (dk srt);have hll:l.length=ds.length:=pl.length_eq;have hol:=(eT hs').length;rw[List.length_map,List.length_map] at hol;have sz:s.heap.objs.size<=h'.objs.size:=Nat.le_of_lt slt;have hq:H h'.objs.size=none:=I.hok.fresh sz;refine⟨.ref h'.objs.size,_,I.yS (o:=.lst (l.map fun c=>.str (tx [c]))) d' tk (fun b o e=>kp2 b o (kp b o e)) sz ⟨by rw[List.length_map,sizeLine_eq];omega,out,e2,?_,hL⟩,rfl,q _ l hq sl fun c=>(pl.mem_iff).trans (hm c)⟩;have:=eT hs'
  rwa [List.map_map] at this
theorem g_ {X:Cx} (hc:X.calm=true):cv X (.builtin "sorted") (fun xs H Q=>∃ (a:Addr) (kvs:List (Key×V)) (ss:List Str),xs=[.ref a]/\H a=some (.dK kvs)/\kvs.map (fun kv=>kV kv.1)=ss.map V.str/\ss.length<64 /\
  ∀ (p:Addr) (ss':List Str),H p=none->ss'.Perm ss->ss'.Pairwise (fun a b=>¬ b.cps.toList<a.cps.toList)->Q (.ref p) (upd H p (.lst (ss'.map V.str)))):=by
 intro pins s σ H xs us Q I r h;obtain⟨a,kvs,ss,rfl,ha,hk,h64,q⟩:=h;obtain⟨u,rfl,ru⟩:=vals1 r
 cases ru;obtain⟨z,hd,vs,rel,dd⟩:=gh I.hok (.inl ha);obtain⟨ep,hat⟩:=dd.dictAt;have hlk:kvs.length=ss.length:=by have:=congrArg List.length hk;rwa [List.length_map,List.length_map] at this
 have hlv:vs.length=kvs.length:=rel.length.symm;refine kI (jG (T:="dict") (n:=vs.length) (Ok:=fun Pv=>Pv=fun i v=>∃ k x,vs[i]?=some (k,x)/\(bf X.prog X.w).is k v=true) dd.typeIs (by decide) (by decide) (by rw[sizeLine_eq];omega) (I.ok.hd hc) (fun A E s' Q hT q=>PySem.W.kdl_hint_dict hT q) ?_ ?_)
 ·intro A' E' s' R old k
  have hat':s'.heap.DictAt (bf X.prog X.w) a vs ep:=hat.at' fun o e=>old a o e;refine wpAny_pyIter_dict hd hat' ?_;exact k _ s'.drawn _ [s'.heap.objs.size,a] _ _ rfl (fun b o e=>Heap.get?_push_of_some _ e) (fun b hb=>by simp at hb;rcases hb with z|z;exact .inr (Nat.le_of_eq z.symm);exact .inl z) (Nat.le_refl _)
   (fun A hA=>Walks.dictKeys hA _ a (Nat.ne_of_lt hat'.lt_size) vs ep) ⟨⟨_,Heap.get?_push_size _ rfl,rfl,rfl⟩,hat'.push _⟩
 ·rintro h' d' tk us Pv rfl kp slt hl hv
  have rv:=ij (P:=X.prog) (w:=X.w) rel hl fun j v e=>hv j v e;rw[hk] at rv;refine⟨ss,gJ rv,by omega,kp,fun h2 out ss' e2 kp2 hL hs' p' srt=>?_⟩;have sz:s.heap.objs.size<=h'.objs.size:=Nat.le_of_lt slt;have hq:H h'.objs.size=none:=I.hok.fresh sz;have hll:=p'.length_eq;refine⟨.ref h'.objs.size,_,I.yS (o:=.lst (ss'.map V.str)) d' tk (fun b o e=>kp2 b o (kp b o e)) sz ⟨by rw[List.length_map,sizeLine_eq];omega,out,e2,eT hs',hL⟩,rfl,q _ ss' hq p' (dk srt)⟩
noncomputable def rJoin (K:PySem.W.Frag):V->List V->Hp->VK->Prop:=fun x vs H Q=>∃ (i:Str) (a:Addr) (ss:List Str),x=.str i/\vs=[.ref a]/\aP K H a (ss.map V.str)/\(ss.map (·.length)).sum+ss.length * i.length<=16777216/\Q (.str (Txt.join i ss)) H
theorem xh {X:Cx}:Ax X "str.join" (rJoin X.K):=by
 intro pins s σ H x vs v us Q I rx rv h;obtain⟨i,a,ss,rfl,rfl,ha,hl,q⟩:=h;obtain⟨t,rfl⟩:=rx;obtain⟨u,rfl,ru⟩:=rv.one
 cases ru;obtain⟨its,rs,pl,hz⟩:=I.list ha;refine join_list pl.isList (by simpa using gJ rs) hl fun t' k=>?_;exact⟨.str _,H,I.tok _,⟨_,rfl⟩,q⟩
noncomputable def EW (K:PySem.W.Frag) (a:Addr) (n:Nat):It :=
 ⟨fun i H=>∃ xs,aP K H a xs/\xs.length=n/\i<n,fun i H x H'=>H'=H/\∀ xs,aP K H a xs->xs[n - 1 - i]?=some x,fun i H=>(∃ xs,aP K H a xs/\xs.length=n)/\n=i⟩
theorem wQ {P:Program}{w:World}{K:PySem.W.Frag}{tg:Expr} (a it:Addr) (n:Nat):Turn P w K tg (EW K a n) [it] it (fun i h=>i<=n/\h.IsRevIter it a ((n:Int) - 1 - (i:Int))) where
 mem:=by simp
 obj:=fun i h st b hb=>by
  have e:b=it:=by simpa using hb
  subst e;obtain⟨_,o,e,c,d⟩:=st;exact⟨o,e,fun v z=>by rw[d] at z;cases z⟩
 keep:=fun i h h' st k=>⟨st.1,st.2.at fun o e=>k it (by simp) o e⟩
 item:=by
  intro X hP hw hK hc i pins s σ H E I hf st hg;subst hP hw hK;obtain⟨xs,hq,hl,hi⟩:=hg;obtain⟨its,rv,p,hz⟩:=I.list hq;have hlen:its.length=n:=by rw[<- rv.length];exact hl
  obtain⟨x,hx⟩:∃ x,xs[n - 1 - i]?=some x:=⟨xs[n - 1 - i]'(by omega),by simp[show n - 1 - i<xs.length by omega]⟩;obtain⟨u,hu,ru⟩:=rv.get hx;obtain⟨f0,f1,f2,f3,f4,f5⟩:=hf it (by simp);have e1:(n:Int) - 1 - (i:Int)=((n - 1 - i:Nat):Int):=by omega
  have st2:=st.2;rw[e1] at st2;refine wpAny_pyNext_rev_item st2 p.isList (x:=u) (by simpa using hu) fun h' st' sb=>?_;have e2:((n - 1 - i:Nat):Int) - 1=(n:Int) - 1 - ((i+1:Nat):Int):=by omega
  rw[e2] at st';have I1:Inv X pins σ H { s with heap:=h' }:=I.turned (t':=s.toks) (fun b o hb e=>(sb.2 b hb).trans e) f0 f1 f3 f4 f5;obtain⟨o,e,c,d⟩:=id st';exact⟨u,rfl,lJ (s:={ s with heap:=h' }) e c d (by decide) ⟨x,H,I1,ru,⟨rfl,fun ys hy=>by rw[I.oB hy hq];exact hx⟩,⟨hi,st'⟩,fun b hb=>(hf b hb).1⟩⟩
 done:=by
  intro X hP hw hK hc i pins s σ H E I hf st hg;subst hP hw hK;obtain⟨⟨xs,hq,hl⟩,rfl⟩:=hg;obtain⟨f0,f1,f2,f3,f4,f5⟩:=hf it (by simp);have e1:(n:Int) - 1 - (n:Int)=-1:=by omega
  have st2:=st.2;rw[e1] at st2;refine wpAny_pyNext_rev_end (I.ok.hd hc) st2 fun h' sb=>⟨rfl,?_⟩;exact I.turned (t':=s.toks) (fun b o hb e=>sb b o hb e) f0 f1 f3 f4 f5
 self:=fun A i s Q E st q=>wpAny_pyIter_revIter st.2 q
noncomputable def AF (K:PySem.W.Frag) (tl:TE):TI:=fun σ H R=>tl σ H fun x H1=>∃ a xs,x=.ref a/\aP K H1 a xs/\R (EW K a xs.length) H1
theorem Aq {X:Cx}{tg l:Expr}{tl:TE}{p pos:Pos} (hg:Gl X "reversed") (hm:X.mg "reversed"=none) (hv:bootBuiltins "reversed"=some (.type "reversed")) (hl:PE X l tl) (hs:notStar l=true:=by rfl):PI X tg (.Call (.Name "reversed" p) [l] [] pos) (AF X.K tl):=by
 intro pins s σ H R I h;refine wpAny_Call_Name_kw (hX I hg hm hv ?_ (by decide) (by decide));refine PyProof.Rows.callWith_type1 (bA (iW hl ae (cA hs) pos pins s σ H (fun vs H1=>match vs with
  | [x]=>∃ a xs,x=.ref a/\aP X.K H1 a xs/\R (EW X.K a xs.length) H1
  | _=>False) I h) fun us s1 ⟨vs,H1,I1,r1,q1⟩=>?_) (cA hs) rfl
 obtain⟨x,rfl⟩:∃ x,vs=[x]:=by
  match vs,q1 with
  | [x],_=>exact⟨x,rfl⟩
 obtain⟨a,xs,rfl,hq,q⟩:=q1;obtain⟨u,rfl,ru⟩:=vals1 r1
 cases ru;obtain⟨its,rv,pl,hz⟩:=I1.list hq;refine call_reversed_list pl.isList ?_;have e:(its.toArray.size:Int) - 1=(xs.length:Int) - 1 - ((0:Nat):Int):=by
  rw[List.size_toArray,<- rv.length];simp
 rw[e];have it:Heap.IsRevIter (s1.heap.push (revObj a ((xs.length:Int) - 1 - ((0:Nat):Int)))) s1.heap.objs.size a ((xs.length:Int) - 1 - ((0:Nat):Int)):=⟨_,Heap.get?_push_size _ rfl,rfl,rfl⟩;refine wpAny_pyIter_revIter (s:={ s1 with heap:=s1.heap.push (revObj a ((xs.length:Int) - 1 - ((0:Nat):Int))) }) it ?_;refine⟨s1.heap.objs.size,[s1.heap.objs.size],_,_,H1,rfl,I1.kept (t':=s1.toks) fun b o e=>Heap.get?_push_of_some _ e,wQ a _ xs.length,⟨Nat.zero_le _,it⟩,fun b hb=>?_,q⟩;have e:b=s1.heap.objs.size:=by simpa using hb
 subst e;exact I1.qR (Nat.le_refl _) (I1.hok.fresh (Nat.le_refl _))
theorem yd {X:Cx}{tg l:Expr}{tl:TE}{p pos:Pos} (K:PySem.W.Frag) (hg:Gl X "reversed") (hm:X.mg "reversed"=none) (hv:bootBuiltins "reversed"=some (.type "reversed")) (hl:PE X l tl) (hs:notStar l=true:=by rfl) (hK:X.K=K:=by rfl):PI X tg (.Call (.Name "reversed" p) [l] [] pos) (AF K tl):=hK ▸ Aq hg hm hv hl hs
theorem uV {X:Cx} (K:PySem.W.Frag) (hK:X.K=K:=by rfl):Ax X "str.join" (rJoin K):=hK ▸ xh
structure Ha (mg:Str->Option Value):Prop where
 rev:mg "reversed"=none
 set:mg "set"=none
theorem tq {K:PySem.W.Frag}{a:Addr}{xs:List V}{σ':St}{g:TG}{tc:TT}{te:TE}{H1:Hp}{F:List V->Hp->Prop} (Iv:Nat->List V->Hp->Prop) (h0:Iv 0 [] H1) (hn:xs.length<=sizeLine)
  (len:∀ i ys H,Iv i ys H->ys.length<=i) (hl:∀ i ys H,Iv i ys H->aP K H a xs)
  (step:∀ i ys H x,xs.reverse[i]?=some x->Iv i ys H->∀ (R:VK) (R':Hp->Prop),(∀ y H',Iv (i+1) (ys++[y]) H'->R y H')->(∀ H',Iv (i+1) ys H'->R' H') ->
   g x σ' H fun σ4 H4=>Wk σ' σ4/\tc σ4 H4 fun b H5=>if b=true then te σ4 H5 R else R' H5)
  (fin:∀ ys H,Iv xs.length ys H->F ys H):gj (EW K a xs.length) σ' g tc te H1 F:=by
 refine kf xs.length Iv h0 hn (fun i ys H _ q=>len i ys H q) (fun i ys H hi q=>⟨⟨xs,hl i ys H q,rfl,hi⟩,fun x H3 hy R R' r r'=>?_⟩) fun ys H q=>⟨⟨⟨xs,hl _ ys H q,rfl⟩,rfl⟩,fin ys H q⟩;obtain⟨e,hy⟩:=hy;subst e;refine step i ys _ x ?_ q R R' r r';rw[List.getElem?_reverse hi];exact hy xs (hl i ys _ q)
theorem uf {K:PySem.W.Frag}{a:Addr}{xs:List V}{σ':St}{g:TG}{tc:TT}{te:TE}{H1:Hp}{F:List V->Hp->Prop} (Iv:Nat->List V->Hp->Prop) (h0:Iv 0 [] H1) (hn:xs.length<=sizeLine)
  (len:∀ i ys H,Iv i ys H->ys.length<=i) (hl:∀ i ys H,Iv i ys H->cE K H a xs)
  (step:∀ i ys H x,xs[i]?=some x->Iv i ys H->∀ (R:VK) (R':Hp->Prop),(∀ y H',Iv (i+1) (ys++[y]) H'->R y H')->(∀ H',Iv (i+1) ys H'->R' H') ->
   g x σ' H fun σ4 H4=>Wk σ' σ4/\tc σ4 H4 fun b H5=>if b=true then te σ4 H5 R else R' H5)
  (fin:∀ ys H,Iv xs.length ys H->F ys H):gj (Fd K a) σ' g tc te H1 F:=by
 refine kf xs.length Iv h0 hn (fun i ys H _ q=>len i ys H q) (fun i ys H hi q=>⟨⟨xs,xs[i],hl i ys H q,by simp[hi]⟩,fun x H3 hy R R' r r'=>?_⟩) fun ys H q=>⟨⟨xs,hl _ ys H q,Nat.le_refl _⟩,fin ys H q⟩;obtain⟨e,hy⟩:=hy;subst e;exact step i ys _ x (hy xs (hl i ys _ q)) q R R' r r'
end L2
end
section
namespace L2
open PySem PySem.Spec PyProof.Rows
noncomputable def Hid [w:Wrp] (I:St->Hp->Prop):Prop:=∀ σ H,w.f σ H->I σ H
theorem Hid.go {r I:St->Hp->Prop} (h:@Hid ⟨r⟩ I) {σ:St}{H:Hp} (q:r σ H):I σ H:=h σ H q
noncomputable def GS (t:TS):TS:=fun D σ H=>∀ I,@Hid ⟨D.nx⟩ I->t { D with nx:=I } σ H
theorem cU {X:Cx}{st:Stmt}{t:TS} (h:PS X st t):PS X st (GS t):=fun pins s σ H D I q=>h pins s σ H D I (q D.nx fun _ _ z=>z)
class WrB where
 f:Bool->Hp->Prop
noncomputable def AL [w:WrB] (J:Bool->Hp->Prop):Prop:=∀ b H,w.f b H->J b H
theorem AL.go {r J:Bool->Hp->Prop} (h:@AL ⟨r⟩ J) {b:Bool}{H:Hp} (q:r b H):J b H:=h b H q
noncomputable def Ep (c:TT) (t u:TS):TS:=fun D σ H=>∀ J,@AL ⟨fun b H1=>if b=true then t D σ H1 else u D σ H1⟩ J->c σ H J
theorem a_ {X:Cx}{c:Expr}{a b:List Stmt}{tc:TT}{t u:TS}{pos:Pos} (hc:PT X c tc) (ha:mf X a t) (hb:mf X b u):PS X (.If c a b pos) (Ep tc t u):=fun pins s σ H D I q =>
 eX hc ha hb pins s σ H D I (q _ fun _ _ z=>z)
end L2
end
section
namespace L2
open PySem PySem.Spec PyProof.Rows
theorem Bn {v:V}{l:St}{H:Hp}{Q:VK}:kx 0 (some v::l) H Q=Q v H:=by
 unfold kx;simp only[List.getElem?_cons_zero,Option.some.injEq,exists_eq_left']
theorem zB {n:Nat}{o:Option V}{l:St}{H:Hp}{Q:VK}:kx (n+1) (o::l) H Q=kx n l H Q:=rfl
noncomputable def pZ:Nat->Option V->St->(St->Prop)->Prop
 | _,_,[],k=>k []
 | 0,x,_::l,k=>k (x::l)
 | n+1,x,o::l,k=>pZ n x l fun l'=>k (o::l')
theorem rV {x:Option V}:∀ {l:St}{n:Nat}{k:St->Prop},pZ n x l k=k (l.set n x)
 | [],_,_=>by unfold pZ;rfl
 | _::_,0,_=>rfl
 | o::l,n+1,k=>rV (l:=l)
theorem AH {x o:Option V}{l:St}{k:St->Prop}:pZ 0 x (o::l) k=k (x::l):=rfl
theorem zH {n:Nat}{x o:Option V}{l:St}{k:St->Prop}:pZ (n+1) x (o::l) k=pZ n x l fun l'=>k (o::l'):=rfl
theorem xm {i:Nat}{v:V}{o:Option V}{l:St}{H:Hp}{Q:St->Hp->Prop}:pB i v (o::l) H Q=pZ i (some v) (o::l) fun σ'=>Q σ' H:=(rV (l:=o::l) (k:=fun σ'=>Q σ' H)).symm
section
variable {α β γ δ:Sort _}{p:Addr}{a b:Int}{c:Bool}{s:Str}
theorem Hs {Q:Addr->Prop}:(∃ x,V.ref p=.ref x/\Q x)=Q p:=by simp only[V.ref.injEq,exists_eq_left']
theorem Hh {Q:Addr->α->Prop}:(∃ x y,V.ref p=.ref x/\Q x y)=∃ y,Q p y:=by simp only[V.ref.injEq,exists_and_left,exists_eq_left']
theorem Hz {Q:Addr->α->β->Prop}:(∃ x y z,V.ref p=.ref x/\Q x y z)=∃ y z,Q p y z:=by simp only[V.ref.injEq,exists_and_left,exists_eq_left']
theorem HD {Q:Addr->α->β->γ->Prop}:(∃ x y z t,V.ref p=.ref x/\Q x y z t)=∃ y z t,Q p y z t:=by simp only[V.ref.injEq,exists_and_left,exists_eq_left']
theorem Hn {Q:Addr->α->β->γ->δ->Prop}:(∃ x y z t u,V.ref p=.ref x/\Q x y z t u)=∃ y z t u,Q p y z t u:=by simp only[V.ref.injEq,exists_and_left,exists_eq_left']
theorem Hw {Q:Addr->α->Int->β->Prop}:(∃ x y z t,V.ref p=.ref x/\V.int a=.int z/\Q x y z t)=∃ y t,Q p y a t:=by
 simp only[V.ref.injEq,V.int.injEq,exists_and_left,exists_eq_left']
theorem Hf {Q:Int->Prop}:(∃ x,V.int a=.int x/\Q x)=Q a:=by simp only[V.int.injEq,exists_eq_left']
theorem Hx {Q:Int->Int->Prop}:(∃ x y,V.int a=.int x/\V.int b=.int y/\Q x y)=Q a b:=by simp only[V.int.injEq,exists_and_left,exists_eq_left']
theorem HF {Q:Bool->Prop}:(∃ x,V.bl c=.bl x/\Q x)=Q c:=by simp only[V.bl.injEq,exists_eq_left']
theorem Fl {Q:Str->Prop}:(∃ x,V.str s=.str x/\Q x)=Q s:=by simp only[V.str.injEq,exists_eq_left']
theorem FG {Q:Str->α->Prop}:(∃ x y,V.str s=.str x/\Q x y)=∃ y,Q s y:=by simp only[V.str.injEq,exists_and_left,exists_eq_left']
theorem Fx {v:V}{Q:V->Prop}:(∃ y,[v]=[y]/\Q y)=Q v:=by simp only[List.cons.injEq,and_true,exists_eq_left']
theorem Fm {v:V}{Q:α->V->Prop}:(∃ x y,[v]=[y]/\Q x y)=∃ x,Q x v:=by simp only[List.cons.injEq,and_true,exists_eq_left']
theorem Gw {Q:Int->Prop}:(∃ y,[V.int a]=[V.int y]/\Q y)=Q a:=by simp only[List.cons.injEq,V.int.injEq,and_true,exists_eq_left']
theorem Gk {Q:Addr->Prop}:(∃ y,[V.ref p]=[V.ref y]/\Q y)=Q p:=by simp only[List.cons.injEq,V.ref.injEq,and_true,exists_eq_left']
theorem FY {Q:Addr->α->Prop}:(∃ y x,[V.ref p]=[V.ref y]/\Q y x)=∃ x,Q p x:=by simp only[List.cons.injEq,V.ref.injEq,and_true,exists_and_left,exists_eq_left']
theorem F8 {Q:Addr->α->β->Prop}:(∃ y x z,[V.ref p]=[V.ref y]/\Q y x z)=∃ x z,Q p x z:=by simp only[List.cons.injEq,V.ref.injEq,and_true,exists_and_left,exists_eq_left']
theorem Fp {Q:Str->Prop}:(∃ y,[V.str s]=[V.str y]/\Q y)=Q s:=by simp only[List.cons.injEq,V.str.injEq,and_true,exists_eq_left']
theorem HG {Q:Str->Int->α->Prop}:(∃ z i c,V.str s=.str z/\V.int a=.int i/\Q z i c)=∃ c,Q s a c:=by
 simp only[V.str.injEq,V.int.injEq,exists_and_left,exists_eq_left']
theorem FP {g:TG}{gs:uj}{v:V}{vs:List V}{σ:St}{H:Hp}{Q:St->Hp->Prop}:rD g gs (v::vs) σ H Q=g v σ H fun σ2 H2=>gs vs σ2 H2 Q:=by
 unfold rD;simp only[List.cons.injEq,exists_eq_left',exists_and_left,and_assoc]
end
end L2
end
section
namespace L2
open PySem PySem.Spec PyProof.Rows
section
variable {X:Cx}{pins:List (Addr×Obj)}{σ:List (Option V)}{H:Hp}{s:Shared}{h':Heap}
end
section
variable {X:Cx}{pins:List (Addr×Obj)}{σ:List (Option V)}{H:Hp}{s:Shared}{h':Heap}
end
structure HJ (z ti to i1 i2 a b:Addr) (i:Nat) (h:Heap):Prop where
 z:IsZip h z ti to .none
 ti:IsPair h ti (.ref i1) (.ref i2)
 to:∃ x y,IsPair h to x y
 p1:h.IsListIter i1 a i
 p2:h.IsListIter i2 b i
structure HQ (z ti to i1 i2:Addr):Prop where
 d1:ti≠z
 d2:to≠z
 d3:i1≠z
 d4:i2≠z
 d5:ti≠to
 d6:ti≠i1
 d7:ti≠i2
 d8:to≠i1
 d9:to≠i2
 d0:i1≠i2
structure HZ (mg:Str->Option Value):Prop where
 zip:mg "zip"=none
end L2
end
section
namespace Tm
open PySem PyProof.Rows
noncomputable def GR:Bool->Keyed->Array Keyed->Nat->Nat->Nat->StateT SortSt Sem (Option Nat):=sortPriv% PySem.Builtin.gallop
section
variable {prog:Program}{w:World}{A:Around}{E:Value->Shared->Prop}{s:Shared}{κ:KeyKind}
noncomputable def dU (κ:KeyKind) (p:Keyed):Prop:=∃ a,κ.keyOf p.1=some a
noncomputable def key (κ:KeyKind) (p:Keyed):κ.α:=(κ.keyOf p.1).getD κ.dflt
theorem fK {p:Keyed} (h:dU κ p):κ.keyOf p.1=some (key κ p):=by
 obtain⟨a,e⟩:=h;unfold key;rw[e]
 rfl
theorem fI {xs:Array Keyed}{i:Nat}{p:Keyed} (h:xs[i]?=some p):KK κ xs i=key κ p:=by
 unfold KK key;rw[h]
theorem oq (hO:κ.OneLt) {st:SortSt}{x y:Keyed}{Q:Option Bool->SortSt->Prop} (hk:kindOf st=oneType') (hx:dU κ x) (hy:dU κ y) (h:Q (some (κ.blt (key κ x) (key κ y))) st):wpS (model prog w) A E s (lt' x y) Q st:=by
 rw[lt'_eq];refine wpS_bind (wpS_get ?_);rw[hk,keyLt'_oneType];exact wpS_bind (wpS_lift (wpAny_attempt (hO prog w A _ s _ _ _ _ (fK hx) (fK hy) ⟨rfl,wpS_pure h⟩)))
theorem bh {st:SortSt}{xs:Array Keyed}{i:Nat}{p:Keyed}{Q:Keyed->SortSt->Prop} (h:xs[i]?=some p) (q:Q p st):wpS (model prog w) A E s (elem' xs i) Q st:=by
 rw[elem'_eq,h];exact wpS_pure q
noncomputable def gr (κ:KeyKind) (l:Bool) (k:Keyed) (xs:Array Keyed) (base i:Nat):Bool:=if l=true then κ.blt (KK κ xs (base+i)) (key κ k) else !κ.blt (key κ k) (KK κ xs (base+i))
theorem zW (hO:κ.OneLt) {l:Bool}{k:Keyed}{xs:Array Keyed}{base n hint:Nat}{st:SortSt}{Q:Option Nat->SortSt->Prop} (hk:kindOf st=oneType') (hkey:dU κ k) (hA:∀ i<n,∃ p,xs[base+i]?=some p/\dU κ p)
  (mono:∀ i j,i<=j->j<n->gr κ l k xs base j=true->gr κ l k xs base i=true) (hh:hint<n) (h:∀ m≤n,(∀ i<m,gr κ l k xs base i=true)->(∀ i,m<=i->i<n->gr κ l k xs base i=false)->Q (some m) st) :
  wpS (model prog w) A E s (GR l k xs base n hint) Q st:=by
 have anti:∀ i j,i<=j->j<n->gr κ l k xs base i=false->gr κ l k xs base j=false:=fun i j h1 h2 e=>by
  cases e2:gr κ l k xs base j with
  | false=>rfl
  | true=>rw[mono i j h1 h2 e2] at e;cases e
 have ask:∀ i<n,∀ {R:Option Bool->SortSt->Prop},R (some (gr κ l k xs base i)) st->wpS (model prog w) A E s (do
   let x <- elem' xs (base+i)
   if l=true then lt' x k else do
    let r <- lt' k x
    pure (Option.map (fun x=>!x) r)) R st:=fun i hi R q=>by
  obtain⟨p,e,hp⟩:=hA i hi;refine wpS_bind (bh e ?_);unfold gr at q;rw[fI e] at q
  cases l with
  | true=>exact oq hO hk hp hkey q
  | false=>exact wpS_bind (oq hO hk hkey hp (wpS_pure q))
 have fin:∀ f:Nat->Option (Option Nat)×Nat×Nat->StateT SortSt Sem (ForInStep (Option (Option Nat)×Nat×Nat)),(∀ x lo hi,hi<=n->∀ {R:ForInStep (Option (Option Nat)×Nat×Nat)->SortSt->Prop},(lo ≥ hi->R (.done (none,lo,hi)) st) ->
   (lo<hi->gr κ l k xs base (lo+(hi - lo) / 2)=true->R (.yield (none,lo+(hi - lo) / 2+1,hi)) st)->(lo<hi->gr κ l k xs base (lo+(hi - lo) / 2)=false->R (.yield (none,lo,lo+(hi - lo) / 2)) st)->wpS (model prog w) A E s (f x (none,lo,hi)) R st) ->
   ∀ lo hi,lo<=hi->hi<=n->(∀ i<lo,gr κ l k xs base i=true)->(∀ i,hi<=i->i<n->gr κ l k xs base i=false) ->
   wpS (model prog w) A E s (forIn [:n] ((none:Option (Option Nat)),lo,hi) f) (fun c st'=>st'=st/\∃ m,c=(none,m,m)/\m<=n/\(∀ i<m,gr κ l k xs base i=true)/\(∀ i,m<=i->i<n->gr κ l k xs base i=false)) st:=fun f hf lo hi h1 h2 h3 h4=>by
  refine wpS_forRange (I:=fun x c st'=>st'=st/\∃ lo hi,c=(none,lo,hi)/\lo<=hi/\hi<=n/\hi+x<=n+lo/\(∀ i<lo,gr κ l k xs base i=true)/\(∀ i,hi<=i->i<n->gr κ l k xs base i=false)) ?a ?b ⟨rfl,lo,hi,rfl,h1,h2,by lia,h3,h4⟩
  case b =>
   rintro c st' ⟨rfl,lo,hi,rfl,a1,a2,a3,a4,a5⟩;have:lo=hi:=by lia
   subst this;exact⟨rfl,lo,rfl,a2,a4,a5⟩
  case a =>
   rintro x c st' _ hx ⟨rfl,lo,hi,rfl,a1,a2,a3,a4,a5⟩;refine hf x lo hi a2 (fun c=>?_) (fun c e=>⟨rfl,_,_,rfl,by lia,a2,by lia,fun i hi'=>mono i _ (by lia) (by lia) e,a5⟩) (fun c e=>⟨rfl,_,_,rfl,by lia,by omega,by omega,a4,fun i h5 h6=>anti _ i h5 h6 e⟩);have:lo=hi:=by lia
   subst this;exact⟨rfl,lo,rfl,a2,a4,a5⟩
 refine wpS_bind (ask hint hh ?_);dsimp only
 cases eh:gr κ l k xs base hint with
 | true =>
  rw[if_pos rfl];refine wpS_bind (wpS_mono (wpS_forRange (I:=fun x c st'=>st'=st/\∃ la o,c=(none,la,o)/\x<o/\la<o/\hint+la<n/\gr κ l k xs base (hint+la)=true)
   (Q:=fun c st'=>st'=st/\∃ la o,c=(none,la,o)/\la<o/\hint+la<n/\gr κ l k xs base (hint+la)=true/\(n<=hint+o\/hint+o<n/\gr κ l k xs base (hint+o)=false)) ?a ?b ⟨rfl,0,1,rfl,by lia,by omega,by omega,eh⟩) ?c)
  case b =>
   rintro c st' ⟨rfl,la,o,rfl,a1,a2,a3,a4⟩;exact⟨rfl,la,o,rfl,a2,a3,a4,.inl (by lia)⟩
  case a =>
   rintro x c st' _ hx ⟨rfl,la,o,rfl,a1,a2,a3,a4⟩;dsimp only
   by_cases c:o ≥ n - hint
   ·rw[if_pos c]
    exact wpS_pure ⟨rfl,la,o,rfl,a2,a3,a4,.inl (by lia)⟩
   ·rw[if_neg c]
    refine wpS_bind (ask _ (by omega) ?_);dsimp only
    cases e:gr κ l k xs base (hint+o) with
    | true =>
     rw[if_neg (by simp)];exact wpS_pure ⟨rfl,_,_,rfl,by lia,by lia,by omega,e⟩
    | false =>
     rw[if_pos (by rfl)];exact wpS_pure ⟨rfl,la,o,rfl,a2,a3,a4,.inr ⟨by omega,e⟩⟩
  case c =>
   rintro c st' ⟨rfl,la,o,rfl,a2,a3,a4,a5⟩;refine wpS_bind (wpS_mono (fin _ (fun x lo hi hn R r1 r2 r3=>?_) (hint+la+1) (hint+min o (n - hint)) (by omega) (by omega) (fun i hi=>mono i _ (by lia) a3 a4) (fun i h5 h6=>a5.elim (fun a5=>by lia) fun ⟨_,a6⟩=>anti _ i (by omega) h6 a6)) ?_)
   rotate_left
   ·rintro c st'' ⟨rfl,m,rfl,b1,b2,b3⟩
    exact wpS_pure (h m b1 b2 b3)
   ·dsimp only
    by_cases c:lo ≥ hi
    ·rw[if_pos c]
     exact wpS_pure (r1 c)
    ·rw[if_neg c]
     refine wpS_bind (ask _ (by lia) ?_);dsimp only
     cases e:gr κ l k xs base (lo+(hi - lo) / 2) with
     | true=>rw[if_pos rfl];exact wpS_pure (r2 (by lia) e)
     | false=>rw[if_neg (by simp)];exact wpS_pure (r3 (by omega) e)
 | false =>
  rw[if_neg (by simp)];refine wpS_bind (wpS_mono (wpS_forRange (I:=fun x c st'=>st'=st/\∃ la o,c=(none,la,o)/\x<o/\la<o/\la<=hint/\gr κ l k xs base (hint - la)=false)
   (Q:=fun c st'=>st'=st/\∃ la o,c=(none,la,o)/\la<o/\la<=hint/\gr κ l k xs base (hint - la)=false/\(hint<o\/o<=hint/\gr κ l k xs base (hint - o)=true)) ?a ?b ⟨rfl,0,1,rfl,by omega,by omega,by lia,eh⟩) ?c)
  case b =>
   rintro c st' ⟨rfl,la,o,rfl,a1,a2,a3,a4⟩;exact⟨rfl,la,o,rfl,a2,a3,a4,.inl (by lia)⟩
  case a =>
   rintro x c st' _ hx ⟨rfl,la,o,rfl,a1,a2,a3,a4⟩;dsimp only
   by_cases c:o ≥ hint+1
   ·rw[if_pos c]
    exact wpS_pure ⟨rfl,la,o,rfl,a2,a3,a4,.inl (by lia)⟩
   ·rw[if_neg c]
    refine wpS_bind (ask _ (by omega) ?_);dsimp only
    cases e:gr κ l k xs base (hint - o) with
    | false =>
     rw[if_neg (by simp)];exact wpS_pure ⟨rfl,_,_,rfl,by lia,by lia,by lia,e⟩
    | true =>
     rw[if_pos rfl];exact wpS_pure ⟨rfl,la,o,rfl,a2,a3,a4,.inr ⟨by omega,e⟩⟩
  case c =>
   rintro c st' ⟨rfl,la,o,rfl,a2,a3,a4,a5⟩;refine wpS_bind (wpS_mono (fin _ (fun x lo hi hn R r1 r2 r3=>?_) (hint+1 - min o (hint+1)) (hint - la) (by omega) (by omega) (fun i hi=>a5.elim (fun a5=>by omega) fun ⟨_,a6⟩=>mono i _ (by omega) (by lia) a6) (fun i h5 h6=>anti _ i h5 h6 a4)) ?_)
   rotate_left
   ·rintro c st'' ⟨rfl,m,rfl,b1,b2,b3⟩
    exact wpS_pure (h m b1 b2 b3)
   ·dsimp only
    by_cases c:lo ≥ hi
    ·rw[if_pos c]
     exact wpS_pure (r1 c)
    ·rw[if_neg c]
     refine wpS_bind (ask _ (by omega) ?_);dsimp only
     cases e:gr κ l k xs base (lo+(hi - lo) / 2) with
     | true=>rw[if_pos rfl];exact wpS_pure (r2 (by lia) e)
     | false=>rw[if_neg (by simp)];exact wpS_pure (r3 (by omega) e)
end
end Tm
end
section
namespace Tm
open PySem PyProof.Rows
noncomputable def Le (κ:KeyKind) (p q:Keyed):Prop:=κ.kle (key κ p) (key κ q)
theorem Le.tr {κ:KeyKind}{p q r:Keyed} (h1:Le κ p q) (h2:Le κ q r):Le κ p r:=KeyOrd.kle_trans h1 h2
section
variable {α:Type}{R:α->α->Prop}
structure MI (R:α->α->Prop) (A B out:List α) (i j:Nat):Prop where
 perm:(out++(A.drop i++B.drop j)).Perm (A++B)
 so:out.Pairwise R
 oa:∀ x∈out,∀ y∈A.drop i,R x y
 ob:∀ x∈out,∀ y∈B.drop j,R x y
theorem MI.swap {A B out:List α}{i j:Nat} (h:MI R A B out i j):MI R B A out j i :=
 ⟨((List.perm_append_comm.append_left out).trans h.perm).trans List.perm_append_comm,h.so,h.ob,h.oa⟩
theorem MI.app {A B out:List α}{i j:Nat} (h:MI R A B out i j) (sA:A.Pairwise R) (k:Nat) (hk:∀ x∈(A.drop i).take k,∀ y∈B.drop j,R x y):MI R A B (out++(A.drop i).take k) (i+k) j:=by
 have e:A.drop (i+k)=(A.drop i).drop k:=by rw[List.drop_drop]
 have s1:((A.drop i).take k++(A.drop i).drop k).Pairwise R:=by rw[List.take_append_drop];exact sA.sublist (List.drop_sublist _ _)
 obtain⟨s2,_,s3⟩:=List.pairwise_append.mp s1;refine⟨?_,List.pairwise_append.mpr ⟨h.so,s2,fun x hx y hy=>h.oa x hx y (List.mem_of_mem_take hy)⟩,fun x hx y hy=>?_,fun x hx y hy=>?_⟩
 ·rw[e,List.append_assoc,<- List.append_assoc ((A.drop i).take k),List.take_append_drop]
  exact h.perm
 ·rw[e] at hy
  rcases List.mem_append.mp hx with hx|hx
  ·exact h.oa x hx y (List.mem_of_mem_drop hy)
  ·exact s3 x hx y hy
 ·rcases List.mem_append.mp hx with hx|hx
  ·exact h.ob x hx y hy
  ·exact hk x hx y hy
theorem drop_one {A:List α}{i:Nat}{p:α} (h:A[i]?=some p):(A.drop i).take 1=[p]:=by
 obtain⟨hi,rfl⟩:=List.getElem?_eq_some_iff.mp h;rw[List.drop_eq_getElem_cons hi]
 rfl
theorem MI.push {A B out:List α}{i j:Nat}{p:α} (h:MI R A B out i j) (sA:A.Pairwise R) (hp:A[i]?=some p) (hk:∀ y∈B.drop j,R p y):MI R A B (out++[p]) (i+1) j:=by
 have:=h.app sA 1 (by rw[drop_one hp];intro x hx;rw[List.mem_singleton.mp hx];exact hk)
 rwa [drop_one hp] at this
theorem MI.done {A B out:List α}{i j:Nat} (h:MI R A B out i j) (sA:A.Pairwise R) (hj:B.length<=j):(out++A.drop i).Perm (A++B)/\(out++A.drop i).Pairwise R:=by
 have p:=h.perm;rw[List.drop_of_length_le hj,List.append_nil] at p;exact⟨p,List.pairwise_append.mpr ⟨h.so,sA.sublist (List.drop_sublist _ _),h.oa⟩⟩
theorem MI.last {A B out:List α}{i j:Nat} (h:MI R A B out i j) (sA:A.Pairwise R) (sB:B.Pairwise R) (hl:∀ y∈B,∀ x∈A.drop i,R y x):(out++B.drop j++A.drop i).Perm (A++B)/\(out++B.drop j++A.drop i).Pairwise R:=by
 have p:=h.swap.perm;refine⟨?_,List.pairwise_append.mpr ⟨List.pairwise_append.mpr ⟨h.so,sB.sublist (List.drop_sublist _ _),h.ob⟩,sA.sublist (List.drop_sublist _ _),fun x hx y hy=>?_⟩⟩
 ·rw[List.append_assoc]
  exact p.trans List.perm_append_comm
 ·rcases List.mem_append.mp hx with hx|hx
  ·exact h.oa x hx y hy
  ·exact hl x (List.mem_of_mem_drop hx) y hy
noncomputable def MG (R:α->α->Prop) (A B r:List α):Prop:=r.Perm (A++B)/\r.Pairwise R
theorem dh {A:List α}{i:Nat}{p y:α} (sA:A.Pairwise R) (rf:∀ x,R x x) (h:A[i]?=some p) (hy:y∈A.drop i):R p y:=by
 obtain⟨hi,rfl⟩:=List.getElem?_eq_some_iff.mp h;have s:=sA.sublist (List.drop_sublist i A);rw[List.drop_eq_getElem_cons hi] at s hy;rcases List.mem_cons.mp hy with rfl|hy
 ·exact rf _
 ·exact List.rel_of_pairwise_cons s hy
end
section
variable {prog:Program}{w:World}{A:Around}{E:Value->Shared->Prop}{s:Shared}{κ:KeyKind}
theorem Le.rf (p:Keyed):Le κ p p:=KeyOrd.kle_refl _
theorem ig (hO:κ.OneLt) {l:Bool}{k:Keyed}{xs:Array Keyed}{base n hint:Nat}{st:SortSt}{Q:Option Nat->SortSt->Prop} (hk:kindOf st=oneType') (hkey:dU κ k) (hn:base+n<=xs.size) (hA:∀ p∈xs.toList,dU κ p)
  (so:((xs.toList.drop base).take n).Pairwise (Le κ)) (hh:hint<n) (h:∀ m≤n,(∀ x∈(xs.toList.drop base).take m,Le κ x k)->(∀ x∈((xs.toList.drop base).take n).drop m,Le κ k x)->Q (some m) st) :
  wpS (model prog w) A E s (GR l k xs base n hint) Q st:=by
 have at_:∀ i<n,∃ p,xs[base+i]?=some p/\((xs.toList.drop base).take n)[i]?=some p:=fun i hi=>by
  have hb:base+i<xs.size:=by lia
  refine⟨xs[base+i],getElem?_pos xs (base+i) hb,?_⟩;rw[List.getElem?_take_of_lt hi,List.getElem?_drop,Array.getElem?_toList,getElem?_pos xs (base+i) hb]
 have le:∀ i j,i<j->j<n->κ.kle (KK κ xs (base+i)) (KK κ xs (base+j)):=fun i j h1 h2=>by
  obtain⟨p,p1,p2⟩:=at_ i (by lia);obtain⟨q,q1,q2⟩:=at_ j h2;rw[fI p1,fI q1];obtain⟨hi,e1⟩:=List.getElem?_eq_some_iff.mp p2;obtain⟨hj,e2⟩:=List.getElem?_eq_some_iff.mp q2;have:=List.pairwise_iff_getElem.mp so i j hi hj h1
  rwa [e1,e2] at this
 refine zW hO hk hkey (fun i hi=>?_) (fun i j h1 h2 e=>?_) hh fun m hm h1 h2=>h m hm (fun x hx=>?_) fun x hx=>?_
 ·obtain⟨p,p1,_⟩:=at_ i hi
  exact⟨p,p1,hA p (by rw[<- Array.getElem?_toList] at p1;exact List.mem_of_getElem? p1)⟩
 ·rcases Nat.eq_or_lt_of_le h1 with rfl|h1
  ·exact e
  ·have q:=le i j h1 h2
   unfold gr at e ⊢
   cases l with
   | true=>rw[if_pos rfl] at e ⊢;exact KeyOrd.klt_of_kle_of_klt q e
   | false =>
    rw[if_neg (by simp)] at e ⊢;rw[Bool.not_eq_true'] at e ⊢;exact KeyOrd.kle_trans q e
 ·obtain⟨i,hi,e⟩:=List.getElem_of_mem hx
  rw[List.length_take] at hi;obtain⟨p,p1,p2⟩:=at_ i (by lia);have:x=p:=by
   rw[List.getElem?_take_of_lt (by omega)] at p2;rw[List.getElem_take] at e;rw[<- e];exact (List.getElem?_eq_some_iff.mp p2).2
  subst this;have b:=h1 i (by omega);unfold gr at b;rw[fI p1] at b
  cases l with
  | true=>rw[if_pos rfl] at b;exact KeyOrd.kle_of_klt b
  | false=>rw[if_neg (by simp),Bool.not_eq_true'] at b;exact b
 ·obtain⟨i,hi,e⟩:=List.getElem_of_mem hx
  rw[List.length_drop,List.length_take] at hi;obtain⟨p,p1,p2⟩:=at_ (m+i) (by omega);have:x=p:=by
   rw[List.getElem_drop] at e;rw[<- e];exact (List.getElem?_eq_some_iff.mp p2).2
  subst this;have b:=h2 (m+i) (by lia) (by omega);unfold gr at b;rw[fI p1] at b
  cases l with
  | true=>rw[if_pos rfl] at b;exact b
  | false =>
   rw[if_neg (by simp)] at b;exact KeyOrd.kle_of_klt (show κ.blt _ _=true by simpa using b)
end
end Tm
end
section
namespace Tm
open PySem PyProof.Rows
noncomputable def Hi:Array Keyed->Array Keyed->StateT SortSt Sem (Array Keyed):=sortPriv% PySem.Builtin.mergeLo
structure SG (st st':SortSt):Prop where
 kd:kindOf st'=kindOf st
 ar:arrOf st'=arrOf st
 pn:pendingOf st'=pendingOf st
 fl:failedOf st'=failedOf st
theorem SG.refl (st:SortSt):SG st st:=⟨rfl,rfl,rfl,rfl⟩
theorem SG.trans {a b c:SortSt} (h:SG a b) (k:SG b c):SG a c:=⟨k.kd.trans h.kd,k.ar.trans h.ar,k.pn.trans h.pn,k.fl.trans h.fl⟩
noncomputable def Hd:Nat->StateT SortSt Sem Unit:=sortPriv% PySem.Builtin.setMinGallop
theorem wt {prog:Program}{w:World}{A:Around}{E:Value->Shared->Prop}{s:Shared}{st:SortSt}{g:Nat}{Q:Unit->SortSt->Prop} (h:∀ st',SG st st'->Q () st'):wpS (model prog w) A E s (Hd g) Q st :=
 wpS_modify (h _ ⟨rfl,rfl,rfl,rfl⟩)
theorem lU (a:Array Keyed) (i:Nat):(a.extract i a.size).toList=a.toList.drop i:=by
 rw[Array.toList_extract,List.extract_eq_take_drop,List.take_of_length_le (by simp)]
theorem uO (a:Array Keyed) (i k:Nat):(a.extract i (i+k)).toList=(a.toList.drop i).take k:=by
 rw[Array.toList_extract,List.extract_eq_take_drop,Nat.add_sub_cancel_left]
theorem bC {a:Array Keyed}{i:Nat} (h:i<a.size):a[i]?=some a[i]/\a.toList[i]?=some a[i]:=⟨getElem?_pos a i h,by rw[Array.getElem?_toList];exact getElem?_pos a i h⟩
section
variable {κ:KeyKind}{a b out:Array Keyed}{i j:Nat}
theorem dn (h:MI (Le κ) a.toList b.toList out.toList i j) (sa:a.toList.Pairwise (Le κ)) (sb:b.toList.Pairwise (Le κ)) (c:b.size<=j\/a.size<=i):MG (Le κ) a.toList b.toList (out++a.extract i a.size++b.extract j b.size).toList:=by
 rw[Array.toList_append,Array.toList_append,lU,lU];rcases c with c|c
 ·rw[List.drop_of_length_le (l:=b.toList) (by simpa using c),List.append_nil]
  exact h.done sa (by simpa using c)
 ·rw[List.drop_of_length_le (l:=a.toList) (by simpa using c),List.append_nil]
  have:=h.swap.done sb (by simpa using c);exact⟨this.1.trans List.perm_append_comm,this.2⟩
theorem la (h:MI (Le κ) a.toList b.toList out.toList i j) (sa:a.toList.Pairwise (Le κ)) (sb:b.toList.Pairwise (Le κ)) (hl:∀ y∈b.toList,∀ x∈a.toList.drop (a.size - 1),Le κ y x) (c:i+1=a.size):MG (Le κ) a.toList b.toList (out++b.extract j b.size++a.extract i a.size).toList:=by
 rw[Array.toList_append,Array.toList_append,lU,lU];refine h.last sa sb ?_;rw[show i=a.size - 1 by lia];exact hl
end
section
variable {prog:Program}{w:World}{A:Around}{E:Value->Shared->Prop}{s:Shared}{κ:KeyKind}
theorem C3 {α:Type}{c:Prop} [Decidable c] {F:Nat->StateT SortSt Sem α}{x y:Nat}{M:Model}{Q:α->SortSt->Prop}{st:SortSt} (h:∀ m,wpS M A E s (F m) Q st):wpS M A E s (if c then F x else F y) Q st:=by
 split
 ·exact h _
 ·exact h _
theorem zd {α β:Type}{c d:Prop} [Decidable c] [Decidable d] {D:StateT SortSt Sem α}{F:β->Nat->StateT SortSt Sem α}{o o':β}{i i':Nat}{M:Model}{Q:α->SortSt->Prop}{st:SortSt} (R:β->Nat->Prop)
  (hD:d->wpS M A E s D Q st) (r1:c->¬ d->R o i) (r2:¬ c->R o' i') (h:∀ x y,R x y->wpS M A E s (F x y) Q st):wpS M A E s (if c then (if d then D else F o i) else F o' i') Q st:=by
 by_cases hc:c
 ·rw[if_pos hc]
  by_cases hd:d
  ·rw[if_pos hd];exact hD hd
  ·rw[if_neg hd];exact h _ _ (r1 hc hd)
 ·rw[if_neg hc];exact h _ _ (r2 hc)
theorem yU {α β:Type}{c d d':Prop} [Decidable c] [Decidable d] [Decidable d'] {D D':StateT SortSt Sem α}{F:β->Nat->StateT SortSt Sem α}{o o':β}{i i':Nat}{M:Model}{Q:α->SortSt->Prop}{st:SortSt} (R:β->Nat->Prop)
  (hD:d->wpS M A E s D Q st) (hD':d'->wpS M A E s D' Q st) (r1:c->¬ d->¬ d'->R o i) (r2:¬ c->R o' i') (h:∀ x y,R x y->wpS M A E s (F x y) Q st):wpS M A E s (if c then (if d then D else if d' then D' else F o i) else F o' i') Q st:=by
 by_cases hc:c
 ·rw[if_pos hc]
  by_cases hd:d
  ·rw[if_pos hd];exact hD hd
  ·rw[if_neg hd]
   by_cases hd':d'
   ·rw[if_pos hd'];exact hD' hd'
   ·rw[if_neg hd'];exact h _ _ (r1 hc hd hd')
 ·rw[if_neg hc];exact h _ _ (r2 hc)
inductive W1 (κ:KeyKind) (a b:Array Keyed) (x:Nat):Option (Array Keyed)×Array Keyed×Nat×Nat×Nat->Prop
 | mk (out:Array Keyed) (ia ib mg:Nat) (m:MI (Le κ) a.toList b.toList out.toList ia ib) (h1:ia+1<a.size) (h2:ib<b.size) (h3:x<ia+ib):W1 κ a b x (none,out,ia,ib,mg)
inductive Y2 (κ:KeyKind) (a b:Array Keyed) (x:Nat):Option (Array Keyed)×Array Keyed×Nat×Nat×Nat×Nat->Prop
 | mk (out:Array Keyed) (ia ib ac bc:Nat) (m:MI (Le κ) a.toList b.toList out.toList ia ib) (h1:ia+1<a.size) (h2:ib<b.size) (h3:x<ia+ib):Y2 κ a b x (none,out,ia,ib,ac,bc)
inductive W2 (κ:KeyKind) (a b:Array Keyed) (x:Nat):Option (Array Keyed)×Array Keyed×Nat×Nat×Nat×Nat->Prop
 | so (r out:Array Keyed) (ia ib ac bc:Nat) (m:MG (Le κ) a.toList b.toList r.toList):W2 κ a b x (some r,out,ia,ib,ac,bc)
 | no (out:Array Keyed) (ia ib ac bc:Nat) (m:MI (Le κ) a.toList b.toList out.toList ia ib) (h1:ia+1<a.size) (h2:ib<b.size) (h3:x<ia+ib):W2 κ a b x (none,out,ia,ib,ac,bc)
inductive Y3 (κ:KeyKind) (a b:Array Keyed) (x:Nat):Option (Array Keyed)×Array Keyed×Nat×Nat×Nat×Nat×Nat->Prop
 | mk (out:Array Keyed) (ia ib mg ac bc:Nat) (m:MI (Le κ) a.toList b.toList out.toList ia ib) (h1:ia+1<a.size) (h2:ib<b.size) (h3:x<ia+ib):Y3 κ a b x (none,out,ia,ib,mg,ac,bc)
inductive W3 (κ:KeyKind) (a b:Array Keyed) (x:Nat):Option (Array Keyed)×Array Keyed×Nat×Nat×Nat×Nat×Nat->Prop
 | so (r out:Array Keyed) (ia ib mg ac bc:Nat) (m:MG (Le κ) a.toList b.toList r.toList):W3 κ a b x (some r,out,ia,ib,mg,ac,bc)
 | no (out:Array Keyed) (ia ib mg ac bc:Nat) (m:MI (Le κ) a.toList b.toList out.toList ia ib) (h1:ia+1<a.size) (h2:ib<b.size) (h3:x<ia+ib):W3 κ a b x (none,out,ia,ib,mg,ac,bc)
theorem Br (hO:κ.OneLt) {a b:Array Keyed}{st:SortSt}{Q:Array Keyed->SortSt->Prop} (hk:kindOf st=oneType') (ha:∀ p∈a.toList,dU κ p) (hb:∀ p∈b.toList,dU κ p) (sa:a.toList.Pairwise (Le κ)) (sb:b.toList.Pairwise (Le κ))
  (na:1<=a.size) (nb:1<=b.size) (hf:∀ y∈a.toList,Le κ b[0] y) (hl:∀ y∈b.toList,∀ x∈a.toList.drop (a.size - 1),Le κ y x) (h:∀ r st',SG st st'->MG (Le κ) a.toList b.toList r.toList->Q r st'):wpS (model prog w) A E s (Hi a b) Q st:=by
 have m0:MI (Le κ) a.toList b.toList #[b[0]].toList 0 1:=by
  have m:MI (Le κ) b.toList a.toList [] 0 0:=⟨List.Perm.refl _,.nil,(fun x hx=>nomatch hx),fun x hx=>nomatch hx⟩;exact (m.push sb (bC nb).2 fun y hy=>hf y hy).swap
 refine wpS_bind (wpS_lift (wpAny_rule ⟨rfl,?_⟩));refine wpS_bind (bh (bC nb).1 ?_);dsimp -zeta only
 by_cases c1:1=b.size
 ·rw[if_pos (by simpa using c1)]
  exact wpS_pure (h _ _ (SG.refl st) (dn m0 sa sb (.inl (by lia))))
 rw[if_neg (by simpa using c1)]
 by_cases c2:0+1=a.size
 ·rw[if_pos (by simpa using c2)]
  exact wpS_pure (h _ _ (SG.refl st) (la m0 sa sb hl c2))
 rw[if_neg (by simpa using c2)];refine wpS_bind (wpS_get ?_);refine wpS_bind (wpS_mono (wpS_forRange
  (I:=fun x c st'=>SG st st'/\W1 κ a b x c)
  (Q:=fun c st'=>SG st st'/\∃ r,c.1=some r/\MG (Le κ) a.toList b.toList r.toList) ?st ?en ⟨SG.refl st,.mk _ _ _ _ m0 (by lia) (by lia) (by lia)⟩) ?po)
 case en =>
  rintro c st' ⟨_,⟨out,ia,ib,mg,m,h1,h2,h3⟩⟩
  lia
 case po =>
  rintro c st' ⟨sg,r,e,m⟩;rw[e];exact wpS_pure (h r st' sg m)
 case st =>
  rintro x c st1 _ hx ⟨sg,⟨out,ia,ib,mg,m,h1,h2,h3⟩⟩;have hk1:kindOf st1=oneType':=sg.kd.trans hk;dsimp -zeta only;refine wpS_bind (wpS_mono (wpS_forRange
   (I:=fun y c st'=>st'=st1/\Y2 κ a b (x+min y 1) c)
   (Q:=fun c st'=>st'=st1/\W2 κ a b (x+1) c) ?st2 ?en2
   ⟨rfl,.mk out ia ib 0 0 m h1 h2 (by lia)⟩) ?po2)
  case en2 =>
   rintro c st' ⟨rfl,⟨out,ia,ib,ac,bc,m,h1,h2,h3⟩⟩;exact⟨rfl,.no out ia ib ac bc m h1 h2 (by lia)⟩
  case st2 =>
   rintro y c st' _ hy ⟨rfl,⟨out,ia,ib,ac,bc,m,h1,h2,h3⟩⟩;have ea:=bC (a:=a) (i:=ia) (by lia);have eb:=bC h2;dsimp -zeta only;refine wpS_bind (bh eb.1 (wpS_bind (bh ea.1 (wpS_bind (oq hO hk1 (hb _ (List.mem_of_getElem? eb.2)) (ha _ (List.mem_of_getElem? ea.2)) ?_)))));dsimp -zeta only
   cases e:κ.blt (key κ b[ib]) (key κ a[ia]) with
   | true =>
    rw[if_pos rfl];refine wpS_bind (bh eb.1 ?_);have m':=(m.swap.push sb eb.2 fun y hy=>(show Le κ b[ib] a[ia] from KeyOrd.kle_of_klt e).tr (dh sa Le.rf ea.2 hy)).swap;rw[<- Array.toList_push] at m'
    by_cases c:ib+1=b.size
    ·rw[if_pos (by simpa using c)]
     exact wpS_pure ⟨rfl,.so _ _ _ _ _ _ (dn m' sa sb (.inl (by lia)))⟩
    ·rw[if_neg (by simpa using c)]
     split
     ·exact wpS_pure ⟨rfl,.no _ _ _ _ _ m' (h1) (by lia) (by lia)⟩
     ·exact wpS_pure ⟨rfl,.mk _ _ _ _ _ m' (h1) (by lia) (by lia)⟩
   | false =>
    rw[if_neg (by simp)];refine wpS_bind (bh ea.1 ?_);have m':=m.push sa ea.2 fun y hy=>(show Le κ a[ia] b[ib] from e).tr (dh sb Le.rf eb.2 hy);rw[<- Array.toList_push] at m'
    by_cases c:ia+1+1=a.size
    ·rw[if_pos (by simpa using c)]
     exact wpS_pure ⟨rfl,.so _ _ _ _ _ _ (la m' sa sb hl c)⟩
    ·rw[if_neg (by simpa using c)]
     split
     ·exact wpS_pure ⟨rfl,.no _ _ _ _ _ m' (by lia) (by omega) (by lia)⟩
     ·exact wpS_pure ⟨rfl,.mk _ _ _ _ _ m' (by lia) (by omega) (by lia)⟩
  case po2 =>
   rintro c st' ⟨rfl,hh⟩
   cases hh with
   | so r out ia ib ac bc m=>exact wpS_pure ⟨sg,r,rfl,m⟩
   | no out ia ib ac bc m h1 h2 h3 =>
    dsimp -zeta only;refine wpS_bind (wpS_lift (wpAny_rule ⟨rfl,?_⟩));refine wpS_bind (wpS_mono (wpS_forRange
     (I:=fun y c st'=>SG st st'/\Y3 κ a b (x+1) c)
     (Q:=fun c st'=>SG st st'/\W3 κ a b (x+1) c) ?st3 ?en3
     ⟨sg,.mk out ia ib _ ac bc m h1 h2 h3⟩) ?po3)
    case en3 =>
     rintro c st' ⟨sg,⟨out,ia,ib,mg,ac,bc,m,h1,h2,h3⟩⟩;exact⟨sg,.no out ia ib mg ac bc m h1 h2 h3⟩
    case po3 =>
     rintro c st' ⟨sg,hh⟩
     cases hh with
     | so r out ia ib mg ac bc m=>exact wpS_pure ⟨sg,r,rfl,m⟩
     | no out ia ib mg ac bc m h1 h2 h3=>exact wpS_bind (wpS_modify (wpS_pure ⟨⟨sg.kd,sg.ar,sg.pn,sg.fl⟩,.mk _ _ _ _ m h1 h2 h3⟩))
    case st3 =>
     rintro y c st2 _ hy ⟨sg,⟨out,ia,ib,mg,ac,bc,m,h1,h2,h3⟩⟩;have eb:=bC h2;dsimp -zeta only
     extract_lets t1 o1 t2 i1 t3 j1 t4 g1 t5 a1 b1 j2 jp g2
     refine C3 (F:=jp ()) fun mg=>?_;dsimp -zeta only[jp];dsimp -zeta only[j2];dsimp -zeta only[b1,a1,t5,t4,j1,t3,i1,t2,o1,t1];refine wpS_bind (wt fun st3 s3=>?_);have sg2:=sg.trans s3;have hk2:kindOf st3=oneType':=sg2.kd.trans hk;refine wpS_bind (bh eb.1 ?_);refine wpS_bind (ig hO hk2 (hb _ (List.mem_of_getElem? eb.2)) (by omega) ha (sa.sublist ((List.take_sublist _ _).trans (List.drop_sublist _ _))) (by omega) fun k hkn u v=>?_);dsimp -zeta only;rw[List.take_of_length_le (by simp),List.drop_drop] at v;have m1:=m.app sa k fun x hx y hy=>(u x hx).tr (dh sb Le.rf eb.2 hy);rw[<- uO,<- Array.toList_append] at m1
     extract_lets ac2 jq o2 i2
     refine yU (F:=jq ()) (fun o' i'=>MI (Le κ) a.toList b.toList o'.toList i' ib/\(∀ x∈a.toList.drop i',Le κ b[ib] x)/\i'+1<a.size/\x+1<i'+ib) (fun c1=>?_) (fun c2=>?_) (fun kp c1 c2=>?_) (fun kp=>?_) fun o' ia' ⟨m1,q1,h1',h3'⟩=>?_
     ·have c1:ia+k+1=a.size:=by simpa [i2] using c1
      exact wpS_pure ⟨sg2,.so _ _ _ _ _ _ _ (la m1 sa sb hl c1)⟩
     ·have c2:ia+k=a.size:=by simpa [i2] using c2
      exact wpS_pure ⟨sg2,.so _ _ _ _ _ _ _ (dn m1 sa sb (.inr (by lia)))⟩
     ·have c1:ia+k+1≠a.size:=fun z=>c1 (by simpa [i2] using z)
      have c2:ia+k≠a.size:=fun z=>c2 (by simpa [i2] using z);exact⟨m1,v,show ia+k+1<a.size by omega,show x+1<ia+k+ib by lia⟩
     ·have k0:k=0:=by lia
      subst k0;exact⟨m,v,h1,h3⟩
     dsimp -zeta only[jq];refine wpS_bind (bh eb.1 ?_);have m2:=(m1.swap.push sb eb.2 q1).swap;rw[<- Array.toList_push] at m2
     extract_lets o3 ia3
     by_cases c3:ib+1=b.size
     ·rw[if_pos (by simpa using c3)]
      exact wpS_pure ⟨sg2,.so _ _ _ _ _ _ _ (dn m2 sa sb (.inl (by lia)))⟩
     rw[if_neg (by simpa using c3)];have ea':=bC (a:=a) (i:=ia') (by lia);refine wpS_bind (bh ea'.1 ?_);refine wpS_bind (ig hO hk2 (ha _ (List.mem_of_getElem? ea'.2)) (by omega) hb (sb.sublist ((List.take_sublist _ _).trans (List.drop_sublist _ _))) (by lia) fun k2 hk2n u2 v2=>?_);dsimp -zeta only;rw[List.take_of_length_le (by simp),List.drop_drop] at v2;have m3:=(m2.swap.app sb k2 fun x hx y hy=>(u2 x hx).tr (dh sa Le.rf ea'.2 hy)).swap;rw[<- uO,<- Array.toList_append] at m3
     extract_lets bc2 jr o4 j4
     refine zd (F:=jr ()) (fun o' j'=>MI (Le κ) a.toList b.toList o'.toList ia' j'/\(∀ x∈b.toList.drop j',Le κ a[ia'] x)/\j'<b.size/\ib<j') (fun c4=>?_) (fun kp c4=>?_) (fun kp=>?_) fun o'' ib' ⟨m3,q3,h4,h5⟩=>?_
     ·have c4:ib+1+k2=b.size:=by simpa [j4] using c4
      exact wpS_pure ⟨sg2,.so _ _ _ _ _ _ _ (dn m3 sa sb (.inl (by lia)))⟩
     ·have c4:ib+1+k2≠b.size:=fun z=>c4 (by simpa [j4] using z)
      exact⟨m3,v2,show ib+1+k2<b.size by omega,show ib<ib+1+k2 by lia⟩
     ·have k0:k2=0:=by lia
      subst k0;exact⟨m2,v2,by lia,by lia⟩
     dsimp -zeta only[jr];refine wpS_bind (bh ea'.1 ?_);have m4:=m3.push sa ea'.2 q3;rw[<- Array.toList_push] at m4
     extract_lets o5
     by_cases c:ia'+1+1=a.size
     ·rw[if_pos (by simpa [ia3] using c)]
      exact wpS_pure ⟨sg2,.so _ _ _ _ _ _ _ (la m4 sa sb hl c)⟩
     ·rw[if_neg (by simpa [ia3] using c)]
      split
      ·exact wpS_pure ⟨sg2,.no _ _ _ _ _ _ m4 (by lia) (by omega) (by lia)⟩
      ·exact wpS_pure ⟨sg2,.mk _ _ _ _ _ _ m4 (by lia) (by omega) (by omega)⟩
end
end Tm
end
section
namespace Tm
open PySem PyProof.Rows
noncomputable def HB:Array Keyed->Array Keyed->StateT SortSt Sem (Array Keyed):=sortPriv% PySem.Builtin.mergeHi
section
variable {α:Type}{A:List α}{n m:Nat}
theorem y_ (h:n<=A.length):A.reverse.drop (A.length - n)=(A.take n).reverse:=by
 rw[List.drop_reverse];congr 2
 lia
theorem Ht (h:n<=A.length) (hm:m<=n):(A.reverse.drop (A.length - n)).take (n - m)=((A.take n).drop m).reverse:=by
 rw[y_ h,List.take_reverse];congr 2;rw[List.length_take]
 lia
theorem Cr (h:n<A.length):A.reverse[A.length - (n+1)]?=A[n]?:=by
 rw[List.getElem?_reverse (by omega)];congr 1;omega
end
theorem yH (a:Array Keyed) (n:Nat):(a.extract 0 n).toList=a.toList.take n:=by
 rw[Array.toList_extract,List.extract_eq_take_drop,Nat.sub_zero,List.drop_zero]
theorem Gn (a:Array Keyed) (m n:Nat):((a.extract m n).reverse).toList=((a.toList.take n).drop m).reverse:=by
 rw[Array.toList_reverse,Array.toList_extract,List.extract_eq_take_drop,List.drop_take]
noncomputable abbrev Ge (κ:KeyKind) (p q:Keyed):Prop:=Le κ q p
noncomputable abbrev HI (κ:KeyKind) (a b out:Array Keyed) (na nb:Nat):Prop:=MI (Ge κ) a.toList.reverse b.toList.reverse out.toList (a.size - na) (b.size - nb)
section
variable {κ:KeyKind}{a b out:Array Keyed}{na nb:Nat}
theorem qa {r:List Keyed}{A B:List Keyed} (h:r.Perm (A.reverse++B.reverse)/\r.Pairwise (Ge κ)):MG (Le κ) A B r.reverse :=
 ⟨(List.reverse_perm r).trans (h.1.trans ((List.reverse_perm A).append (List.reverse_perm B))),List.pairwise_reverse.mpr h.2⟩
theorem uY (h:HI κ a b out na nb) (sa:a.toList.Pairwise (Le κ)) (sb:b.toList.Pairwise (Le κ)) (ha:na<=a.size) (hb:nb<=b.size) (c:na=0\/nb=0):MG (Le κ) a.toList b.toList (a.extract 0 na++b.extract 0 nb++out.reverse).toList:=by
 rw[Array.toList_append,Array.toList_append,Array.toList_reverse,yH,yH];rcases c with rfl|rfl
 ·have:=h.swap.done (List.pairwise_reverse.mpr sb) (by simp)
  rw[show b.size=b.toList.length from rfl,y_ hb] at this;have q:=qa this;rw[List.reverse_append,List.reverse_reverse] at q;exact⟨q.1.trans List.perm_append_comm,q.2⟩
 ·have:=h.done (List.pairwise_reverse.mpr sa) (by simp)
  rw[show a.size=a.toList.length from rfl,y_ ha] at this;have q:=qa this;rw[List.reverse_append,List.reverse_reverse] at q;rw[List.take_zero,List.append_nil];exact q
theorem E8 (h:HI κ a b out na nb) (sa:a.toList.Pairwise (Le κ)) (sb:b.toList.Pairwise (Le κ)) (ha:na<=a.size) (hb:1<=b.size) (hf:∀ y∈a.toList,Le κ b[0] y) (c:nb=1):MG (Le κ) a.toList b.toList (b.extract 0 nb++a.extract 0 na++out.reverse).toList:=by
 subst c;have e:b.toList.reverse.drop (b.size - 1)=[b[0]]:=by
  rw[show b.size=b.toList.length from rfl,y_ hb];have:=drop_one (bC (a:=b) (i:=0) hb).2;rw[List.drop_zero] at this;rw[this]
  rfl
 have:=h.swap.last (List.pairwise_reverse.mpr sb) (List.pairwise_reverse.mpr sa) (fun y hy x hx=>by
  rw[e] at hx;rw[List.mem_singleton.mp hx];exact hf y (List.mem_reverse.mp hy))
 have q:=qa this;rw[List.reverse_append,List.reverse_append,show b.size=b.toList.length from rfl,show a.size=a.toList.length from rfl,y_ hb,y_ ha,List.reverse_reverse,List.reverse_reverse,<- List.append_assoc] at q;rw[Array.toList_append,Array.toList_append,Array.toList_reverse,yH,yH];exact⟨q.1.trans List.perm_append_comm,q.2⟩
theorem HI.swap (h:HI κ a b out na nb):HI κ b a out nb na:=MI.swap h
theorem HI.push {n:Nat} (h:HI κ a b out (n+1) nb) (sa:a.toList.Pairwise (Le κ)) (hn:n<a.size) (hb:nb<=b.size) (hk:∀ y∈b.toList.take nb,Le κ y a[n]):HI κ a b (out.push a[n]) n nb:=by
 have:=MI.push h (List.pairwise_reverse.mpr sa) (p:=a[n]) ((Cr (A:=a.toList) hn).trans (bC hn).2) (fun y hy=>by
  rw[show b.size=b.toList.length from rfl,y_ hb] at hy;exact hk y (List.mem_reverse.mp hy))
 rw[show a.size - (n+1)+1=a.size - n by lia,<- Array.toList_push] at this;exact this
theorem HI.app {m:Nat} (h:HI κ a b out na nb) (sa:a.toList.Pairwise (Le κ)) (hn:na<=a.size) (hb:nb<=b.size) (hm:m<=na) (hk:∀ x∈(a.toList.take na).drop m,∀ y∈b.toList.take nb,Le κ y x):HI κ a b (out++(a.extract m na).reverse) m nb:=by
 have e:=Ht (A:=a.toList) hn hm;have:=MI.app h (List.pairwise_reverse.mpr sa) (na - m) (fun x hx y hy=>by
  rw[show a.size=a.toList.length from rfl,e] at hx;rw[show b.size=b.toList.length from rfl,y_ hb] at hy;exact hk x (List.mem_reverse.mp hx) y (List.mem_reverse.mp hy))
 rw[show a.size - na+(na - m)=a.size - m by lia,show a.size=a.toList.length from rfl,e,<- Gn,<- Array.toList_append] at this;exact this
theorem gI {A:List Keyed}{n:Nat}{p y:Keyed} (sA:A.Pairwise (Le κ)) (h:A[n]?=some p) (hy:y∈A.take (n+1)):Le κ y p:=by
 obtain⟨hn,rfl⟩:=List.getElem?_eq_some_iff.mp h;rw[List.take_add_one,h] at hy;rcases List.mem_append.mp hy with hy|hy
 ·obtain⟨i,hi,rfl⟩:=List.getElem_of_mem hy
  rw[List.length_take] at hi;rw[List.getElem_take];exact List.pairwise_iff_getElem.mp sA i n (by lia) hn (by omega)
 ·rw[List.mem_singleton.mp hy]
  exact Le.rf _
end
section
variable {prog:Program}{w:World}{A:Around}{E:Value->Shared->Prop}{s:Shared}{κ:KeyKind}
inductive U1 (κ:KeyKind) (a b:Array Keyed) (x:Nat):Option (Array Keyed)×Nat×Nat×Array Keyed×Nat->Prop
 | mk (out:Array Keyed) (n k mg:Nat) (m:HI κ a b out (n+1) (k+2)) (h1:n<a.size) (h2:k+1<b.size) (h3:x+(n+1)+(k+2)<a.size+b.size):U1 κ a b x (none,n+1,k+2,out,mg)
inductive V2 (κ:KeyKind) (a b:Array Keyed) (x:Nat):Option (Array Keyed)×Nat×Nat×Array Keyed×Nat×Nat->Prop
 | mk (out:Array Keyed) (n k ac bc:Nat) (m:HI κ a b out (n+1) (k+2)) (h1:n<a.size) (h2:k+1<b.size) (h3:x+(n+1)+(k+2)<a.size+b.size):V2 κ a b x (none,n+1,k+2,out,ac,bc)
inductive U2 (κ:KeyKind) (a b:Array Keyed) (x:Nat):Option (Array Keyed)×Nat×Nat×Array Keyed×Nat×Nat->Prop
 | so (r out:Array Keyed) (na nb ac bc:Nat) (m:MG (Le κ) a.toList b.toList r.toList):U2 κ a b x (some r,na,nb,out,ac,bc)
 | no (out:Array Keyed) (n k ac bc:Nat) (m:HI κ a b out (n+1) (k+2)) (h1:n<a.size) (h2:k+1<b.size) (h3:x+(n+1)+(k+2)<a.size+b.size):U2 κ a b x (none,n+1,k+2,out,ac,bc)
inductive V3 (κ:KeyKind) (a b:Array Keyed) (x:Nat):Option (Array Keyed)×Nat×Nat×Array Keyed×Nat×Nat×Nat->Prop
 | mk (out:Array Keyed) (n k mg ac bc:Nat) (m:HI κ a b out (n+1) (k+2)) (h1:n<a.size) (h2:k+1<b.size) (h3:x+(n+1)+(k+2)<a.size+b.size):V3 κ a b x (none,n+1,k+2,out,mg,ac,bc)
inductive U3 (κ:KeyKind) (a b:Array Keyed) (x:Nat):Option (Array Keyed)×Nat×Nat×Array Keyed×Nat×Nat×Nat->Prop
 | so (r out:Array Keyed) (na nb mg ac bc:Nat) (m:MG (Le κ) a.toList b.toList r.toList):U3 κ a b x (some r,na,nb,out,mg,ac,bc)
 | no (out:Array Keyed) (n k mg ac bc:Nat) (m:HI κ a b out (n+1) (k+2)) (h1:n<a.size) (h2:k+1<b.size) (h3:x+(n+1)+(k+2)<a.size+b.size):U3 κ a b x (none,n+1,k+2,out,mg,ac,bc)
set_option maxHeartbeats 0 in
theorem A3 (hO:κ.OneLt) {a b:Array Keyed}{st:SortSt}{Q:Array Keyed->SortSt->Prop} (hk:kindOf st=oneType') (ha:∀ p∈a.toList,dU κ p) (hb:∀ p∈b.toList,dU κ p) (sa:a.toList.Pairwise (Le κ)) (sb:b.toList.Pairwise (Le κ))
  (na:1<=a.size) (nb:1<=b.size) (hf:∀ y∈a.toList,Le κ b[0] y) (hl:∀ y∈b.toList,∀ x∈a.toList.drop (a.size - 1),Le κ y x) (h:∀ r st',SG st st'->MG (Le κ) a.toList b.toList r.toList->Q r st'):wpS (model prog w) A E s (HB a b) Q st:=by
 have el:=bC (a:=a) (i:=a.size - 1) (by omega);have m0:HI κ a b #[a[a.size - 1]] (a.size - 1) b.size:=by
  have m:HI κ a b #[] (a.size - 1+1) b.size:=by
   refine⟨?_,.nil,(fun x hx=>nomatch hx),fun x hx=>nomatch hx⟩;rw[show a.size - (a.size - 1+1)=0 by omega,Nat.sub_self];exact List.Perm.refl _
  exact m.push sa (by omega) (Nat.le_refl _) fun y hy=>hl y (List.mem_of_mem_take hy) _ (by
   have:=drop_one el.2;exact List.mem_of_mem_take (i:=1) (by rw[this];exact List.mem_singleton.mpr rfl))
 refine wpS_bind (wpS_lift (wpAny_rule ⟨rfl,?_⟩));refine wpS_bind (bh el.1 ?_);dsimp -zeta only
 by_cases c1:a.size - 1=0
 ·rw[if_pos (by simpa using c1)]
  exact wpS_pure (h _ _ (SG.refl st) (uY m0 sa sb (by lia) (Nat.le_refl _) (.inl c1)))
 rw[if_neg (by simpa using c1)]
 by_cases c2:b.size=1
 ·rw[if_pos (by simpa using c2)]
  exact wpS_pure (h _ _ (SG.refl st) (E8 m0 sa sb (by lia) nb hf c2))
 rw[if_neg (by simpa using c2)];refine wpS_bind (wpS_get ?_);generalize a[a.size - 1]=p0 at m0 ⊢;obtain⟨n0,en⟩:∃ n,a.size - 1=n+1:=⟨a.size - 2,by lia⟩;obtain⟨k0,ek⟩:∃ k,b.size=k+2:=⟨b.size - 2,by lia⟩;refine wpS_bind (wpS_mono (wpS_forRange
  (I:=fun x c st'=>SG st st'/\U1 κ a b x c)
  (Q:=fun c st'=>SG st st'/\∃ r,c.1=some r/\MG (Le κ) a.toList b.toList r.toList) ?st ?en ⟨SG.refl st,by rw[en,ek];exact .mk _ n0 k0 _ (by rw[<- en,<- ek];exact m0) (by lia) (by lia) (by omega)⟩) ?po)
 case en =>
  rintro c st' ⟨_,⟨out,n,k,mg,m,h1,h2,h3⟩⟩
  lia
 case po =>
  rintro c st' ⟨sg,r,e,m⟩;rw[e];exact wpS_pure (h r st' sg m)
 case st =>
  rintro x c st1 _ hx ⟨sg,⟨out,n,k,mg,m,h1,h2,h3⟩⟩;have hk1:kindOf st1=oneType':=sg.kd.trans hk;dsimp -zeta only;refine wpS_bind (wpS_mono (wpS_forRange
   (I:=fun y c st'=>st'=st1/\V2 κ a b (x+min y 1) c)
   (Q:=fun c st'=>st'=st1/\U2 κ a b (x+1) c) ?st2 ?en2
   ⟨rfl,.mk out n k 0 0 m h1 h2 (by lia)⟩) ?po2)
  case en2 =>
   rintro c st' ⟨rfl,⟨out,n,k,ac,bc,m,h1,h2,h3⟩⟩;exact⟨rfl,.no out n k ac bc m h1 h2 (by lia)⟩
  case st2 =>
   rintro y c st' _ hy ⟨rfl,⟨out,n,k,ac,bc,m,h1,h2,h3⟩⟩;have ea:=bC h1;have eb:=bC h2;dsimp -zeta only;refine wpS_bind (bh eb.1 (wpS_bind (bh ea.1 (wpS_bind (oq hO hk1 (hb _ (List.mem_of_getElem? eb.2)) (ha _ (List.mem_of_getElem? ea.2)) ?_)))));dsimp -zeta only
   cases e:κ.blt (key κ b[k+1]) (key κ a[n]) with
   | true =>
    rw[if_pos rfl];refine wpS_bind (bh ea.1 ?_);have m':=m.push sa h1 (by lia) fun y hy=>(gI sb eb.2 hy).tr (show Le κ b[k+1] a[n] from KeyOrd.kle_of_klt e)
    by_cases c:n=0
    ·rw[if_pos (by simpa using c)]
     exact wpS_pure ⟨rfl,.so _ _ _ _ _ _ (uY m' sa sb (by lia) (by lia) (.inl c))⟩
    ·rw[if_neg (by simpa using c)]
     obtain⟨n',rfl⟩:=Nat.exists_eq_add_one_of_ne_zero c
     split
     ·exact wpS_pure ⟨rfl,.no _ n' k _ _ m' (by lia) (by omega) (by lia)⟩
     ·exact wpS_pure ⟨rfl,.mk _ n' k _ _ m' (by lia) (by omega) (by lia)⟩
   | false =>
    rw[if_neg (by simp)];refine wpS_bind (bh eb.1 ?_);have m':=(m.swap.push sb h2 (by lia) fun y hy=>(gI sa ea.2 hy).tr (show Le κ a[n] b[k+1] from e)).swap
    by_cases c:k=0
    ·subst c
     rw[if_pos (by rfl)];exact wpS_pure ⟨rfl,.so _ _ _ _ _ _ (E8 m' sa sb (by lia) nb hf rfl)⟩
    ·rw[if_neg (by simpa using c)]
     obtain⟨k',rfl⟩:=Nat.exists_eq_add_one_of_ne_zero c
     split
     ·exact wpS_pure ⟨rfl,.no _ n k' _ _ m' (by omega) (by lia) (by lia)⟩
     ·exact wpS_pure ⟨rfl,.mk _ n k' _ _ m' (by omega) (by lia) (by omega)⟩
  case po2 =>
   rintro c st' ⟨rfl,hh⟩
   cases hh with
   | so r out na' nb' ac bc m=>exact wpS_pure ⟨sg,r,rfl,m⟩
   | no out n k ac bc m h1 h2 h3 =>
    refine wpS_bind (wpS_lift (wpAny_rule ⟨rfl,?_⟩));refine wpS_bind (wpS_mono (wpS_forRange
     (I:=fun y c st'=>SG st st'/\V3 κ a b (x+1) c)
     (Q:=fun c st'=>SG st st'/\U3 κ a b (x+1) c) ?st3 ?en3
     ⟨sg,.mk out n k _ ac bc m h1 h2 h3⟩) ?po3)
    case en3 =>
     rintro c st' ⟨sg,⟨out,n,k,mg,ac,bc,m,h1,h2,h3⟩⟩;exact⟨sg,.no out n k mg ac bc m h1 h2 h3⟩
    case po3 =>
     rintro c st' ⟨sg,hh⟩
     cases hh with
     | so r out na' nb' mg ac bc m=>exact wpS_pure ⟨sg,r,rfl,m⟩
     | no out n k mg ac bc m h1 h2 h3=>exact wpS_bind (wpS_modify (wpS_pure ⟨⟨sg.kd,sg.ar,sg.pn,sg.fl⟩,.mk _ n k _ m h1 h2 h3⟩))
    case st3 =>
     rintro y c st2 _ hy ⟨sg,⟨out,n,k,mg,ac,bc,m,h1,h2,h3⟩⟩;have eb:=bC h2;dsimp -zeta only
     extract_lets t1 n1 t2 k1 t3 o1 t4 g1 t5 a1 b1 j2 jp g2
     refine C3 (F:=jp ()) fun mg=>?_;dsimp -zeta only[jp];dsimp -zeta only[j2];dsimp -zeta only[b1,a1,t5,t4,o1,t3,k1,t2,n1,t1];refine wpS_bind (wt fun st3 s3=>?_);have sg2:=sg.trans s3;have hk2:kindOf st3=oneType':=sg2.kd.trans hk;refine wpS_bind (bh eb.1 ?_);refine wpS_bind (ig hO hk2 (hb _ (List.mem_of_getElem? eb.2)) (by lia) ha (sa.sublist ((List.take_sublist _ _).trans (List.drop_sublist _ _))) (by lia) fun ma hma u v=>?_);dsimp -zeta only;rw[List.drop_zero] at u v;have m1:=m.app sa (by lia) (by lia) hma fun x hx y hy=>(gI sb eb.2 hy).tr (v x hx)
     extract_lets kk ac2 jq o2 n2
     refine zd (F:=fun o i=>jq () i o) (fun o' ma'=>HI κ a b o' ma' (k+2)/\(∀ y∈a.toList.take ma',Le κ y b[k+1])/\1<=ma'/\ma'<=a.size/\x+1+ma'+(k+2)<a.size+b.size) (fun c1=>?_) (fun kp c1=>?_) (fun kp=>?_) fun o' ma' ⟨m1,q1,z1,z2,h3'⟩=>?_
     ·have c1:ma=0:=by simpa [n2] using c1
      exact wpS_pure ⟨sg2,.so _ _ _ _ _ _ _ (uY m1 sa sb (by lia) (by lia) (.inl c1))⟩
     ·have c1:ma≠0:=fun z=>c1 (by simpa [n2] using z)
      exact⟨m1,u,show 1<=ma by lia,show ma<=a.size by lia,show x+1+ma+(k+2)<a.size+b.size by lia⟩
     ·have e:ma=n+1:=by
       have kp:¬ n+1 - ma > 0:=kp;omega
      exact⟨m,e ▸ u,by lia,by lia,h3⟩
     obtain⟨n',rfl⟩:=Nat.exists_eq_add_one_of_ne_zero (Nat.ne_of_gt z1);dsimp -zeta only[jq];refine wpS_bind (bh eb.1 ?_);have m2:=(m1.swap.push sb (by omega) (by omega) q1).swap
     extract_lets o3 n5
     by_cases c3:k=0
     ·subst c3
      rw[if_pos (by rfl)];exact wpS_pure ⟨sg2,.so _ _ _ _ _ _ _ (E8 m2 sa sb (by omega) nb hf rfl)⟩
     rw[if_neg (by simpa using c3)];obtain⟨k',rfl⟩:=Nat.exists_eq_add_one_of_ne_zero c3;have hn':n'<a.size:=z2;have ea':=bC (a:=a) (i:=n') hn';refine wpS_bind (bh ea'.1 ?_);refine wpS_bind (ig hO hk2 (ha _ (List.mem_of_getElem? ea'.2)) (by lia) hb (sb.sublist ((List.take_sublist _ _).trans (List.drop_sublist _ _))) (by lia) fun mb hmb u2 v2=>?_);dsimp -zeta only;rw[List.drop_zero] at u2 v2;have m3:=(m2.swap.app sb (by lia) (by omega) hmb fun x hx y hy=>(gI sa ea'.2 hy).tr (v2 x hx)).swap
     extract_lets kk2 bc2 jr o4 n4
     refine yU (F:=fun o i=>jr () i o) (fun o' mb'=>HI κ a b o' (n'+1) mb'/\(∀ y∈b.toList.take mb',Le κ y a[n'])/\2<=mb'/\mb'<=k'+2) (fun c4=>?_) (fun c5=>?_) (fun kp c4 c5=>?_) (fun kp=>?_) fun o'' mb' ⟨m3,q3,y1,y2⟩=>?_
     ·have c4:mb=1:=by simpa [n4] using c4
      exact wpS_pure ⟨sg2,.so _ _ _ _ _ _ _ (E8 m3 sa sb (by omega) nb hf c4)⟩
     ·have c5:mb=0:=by simpa [n4] using c5
      exact wpS_pure ⟨sg2,.so _ _ _ _ _ _ _ (uY m3 sa sb (by omega) (by lia) (.inr c5))⟩
     ·have c4:mb≠1:=fun z=>c4 (by simpa [n4] using z)
      have c5:mb≠0:=fun z=>c5 (by simpa [n4] using z);exact⟨m3,u2,show 2<=mb by lia,show mb<=k'+2 by lia⟩
     ·have e:mb=k'+2:=by
       have kp:¬ k'+1+1 - mb > 0:=kp;omega
      exact⟨m2,show ∀ y∈b.toList.take (k'+2),Le κ y a[n'] from e ▸ u2,show 2<=k'+2 by lia,Nat.le_refl _⟩
     dsimp -zeta only[jr];refine wpS_bind (bh ea'.1 ?_);have hkb:mb'<=b.size:=by lia
     have m4:=m3.push sa hn' hkb q3
     extract_lets o5
     by_cases c:n'=0
     ·rw[if_pos (by simpa [n5] using c)]
      exact wpS_pure ⟨sg2,.so _ _ _ _ _ _ _ (uY m4 sa sb (by lia) hkb (.inl c))⟩
     ·rw[if_neg (by simpa [n5] using c)]
      obtain⟨n2,rfl⟩:=Nat.exists_eq_add_one_of_ne_zero c;obtain⟨k3,rfl⟩:∃ k3,mb'=k3+2:=⟨mb' - 2,by omega⟩
      split
      ·exact wpS_pure ⟨sg2,.no _ n2 k3 _ _ _ m4 (by lia) (by lia) (by lia)⟩
      ·exact wpS_pure ⟨sg2,.mk _ n2 k3 _ _ _ m4 (by lia) (by lia) (by omega)⟩
end
end Tm
end
section
namespace Tm
open PySem PyProof.Rows
theorem nX (s0:Nat):∀ (r:List Keyed) (k:Nat) (xs:Array Keyed),s0+k+r.length<=xs.size ->
  ((r.zipIdx k).foldl (fun a p=>a.setIfInBounds (s0+p.2) p.1) xs).toList=xs.toList.take (s0+k)++(r++xs.toList.drop (s0+k+r.length))
 | [],k,xs,_=>by simp
 | p::r,k,xs,h=>by
  rw[List.length_cons] at h;rw[List.zipIdx_cons,List.foldl_cons,nX s0 r (k+1) _ (by rw[Array.size_setIfInBounds];lia)];dsimp only;have e:(xs.setIfInBounds (s0+k) p).toList=xs.toList.set (s0+k) p:=by simp
  have hl:s0+k<xs.toList.length:=by simp;omega
  rw[e,show s0+(k+1)=s0+k+1 by lia,List.take_add_one,List.take_set_of_le (Nat.le_refl _),List.getElem?_set_self hl,List.drop_set_of_lt (by lia),List.length_cons];rw[show s0+k+(r.length+1)=s0+k+1+r.length by lia];simp only[Option.toList_some,List.append_assoc,List.cons_append,List.nil_append]
section
variable {α:Type}{X:List α}{s n m:Nat}
theorem vw (h:s+n<=X.length) (hm:m<=n):X.drop (s+m)=((X.drop s).take n).drop m++X.drop (s+n):=by
 conv=>lhs;rw[<- List.drop_drop,<- List.take_append_drop n (X.drop s)]
 rw[List.drop_append_of_le_length (by rw[List.length_take,List.length_drop];lia),List.drop_drop]
theorem DF (hm:m<=n):X.take (s+m)=X.take s++((X.drop s).take n).take m:=by
 rw[List.take_add,List.take_take,Nat.min_eq_left hm]
end
section
variable {prog:Program}{w:World}{A:Around}{E:Value->Shared->Prop}{s:Shared}{st:SortSt}
theorem yN {p:Array (Nat×Nat×Nat)}{Q:PUnit->SortSt->Prop} (h:∀ st1,kindOf st1=kindOf st->arrOf st1=arrOf st->pendingOf st1=p->failedOf st1=failedOf st->Q ⟨⟩ st1):wpS (model prog w) A E s (set (SortSt.mk' (kindOf st) (arrOf st) p (gallopOf st) (failedOf st))) Q st :=
 wpS_modify (f:=fun _=>_) (h _ rfl rfl rfl rfl)
theorem BM {f:Array Keyed->Array Keyed}{Q:PUnit->SortSt->Prop} (h:∀ st1,kindOf st1=kindOf st->arrOf st1=f (arrOf st)->pendingOf st1=pendingOf st->failedOf st1=failedOf st->Q ⟨⟩ st1):wpS (model prog w) A E s (modify fun s=>SortSt.mk' (kindOf s) (f (arrOf s)) (pendingOf s) (gallopOf s) (failedOf s)) Q st :=
 wpS_modify (h _ rfl rfl rfl rfl)
end
noncomputable def GU:Nat->StateT SortSt Sem Bool:=sortPriv% PySem.Builtin.mergeAt
section
variable {prog:Program}{w:World}{A:Around}{E:Value->Shared->Prop}{s:Shared}{κ:KeyKind}
theorem Ae (hO:κ.OneLt) {i sa na pw nb pw2:Nat}{st:SortSt}{Q:Bool->SortSt->Prop} (hk:kindOf st=oneType') (hfl:failedOf st=none) (hA:∀ p∈(arrOf st).toList,dU κ p) (e1:(pendingOf st)[i]?=some (sa,na,pw)) (e2:(pendingOf st)[i+1]?=some (sa+na,nb,pw2))
  (h1:1<=na) (h2:1<=nb) (hs:sa+na+nb<=(arrOf st).size) (s1:(((arrOf st).toList.drop sa).take na).Pairwise (Le κ)) (s2:(((arrOf st).toList.drop (sa+na)).take nb).Pairwise (Le κ))
  (h:∀ st' M,kindOf st'=oneType'->failedOf st'=none->pendingOf st'=((pendingOf st).setIfInBounds i (sa,na+nb,pw)).eraseIdxIfInBounds (i+1)->(arrOf st').toList=(arrOf st).toList.take sa++(M++(arrOf st).toList.drop (sa+na+nb)) ->
   M.Perm (((arrOf st).toList.drop sa).take na++((arrOf st).toList.drop (sa+na)).take nb)->M.Pairwise (Le κ)->Q true st'):wpS (model prog w) A E s (GU i) Q st:=by
 refine wpS_bind (wpS_get ?_);rw[e1,e2];refine wpS_bind (yN fun st1 k1 a1 p1 f1=>?_);rw[show (sortPriv% PySem.Builtin.SortState.a) st=arrOf st from rfl];rw[hk] at k1;rw[hfl] at f1;generalize arrOf st=xs at hA hs s1 s2 h a1 ⊢;have eb:=bC (a:=xs) (i:=sa+na) (by lia);have el:=bC (a:=xs) (i:=sa+na - 1) (by omega);have xl:xs.toList.length=xs.size:=rfl;have lb:(((xs.toList.drop (sa+na)).take nb))[0]?=some xs[sa+na]:=by
  rw[List.getElem?_take_of_lt (by lia),List.getElem?_drop];exact eb.2
 have ll:(((xs.toList.drop sa).take na))[na - 1]?=some xs[sa+na - 1]:=by
  rw[List.getElem?_take_of_lt (by omega),List.getElem?_drop,show sa+(na - 1)=sa+na - 1 by lia];exact el.2
 have hb0:∀ y∈(xs.toList.drop (sa+na)).take nb,Le κ xs[sa+na] y:=fun y hy=>dh s2 Le.rf lb hy;have hal:∀ x∈(xs.toList.drop sa).take na,Le κ x xs[sa+na - 1]:=fun x hx=>gI s1 ll (by
  rw[show na - 1+1=na by lia,List.take_take,Nat.min_self];exact hx)
 have whole:xs.toList=xs.toList.take sa++((xs.toList.drop sa).take na++(xs.toList.drop (sa+na)).take nb++xs.toList.drop (sa+na+nb)):=by
  rw[List.append_assoc,<- List.drop_drop (i:=nb) (j:=sa+na),List.take_append_drop,<- List.drop_drop (i:=na) (j:=sa),List.take_append_drop,List.take_append_drop]
 have same:(((xs.toList.drop sa).take na++(xs.toList.drop (sa+na)).take nb)).Pairwise (Le κ)->Q true st1:=fun so=>h st1 _ k1 f1 p1 (by rw[a1];exact whole) (List.Perm.refl _) so;refine wpS_bind (bh eb.1 ?_);refine wpS_bind (ig hO k1 (hA _ (List.mem_of_getElem? eb.2)) (by lia) hA s1 (by lia) fun k hkn u v=>?_);dsimp only
 by_cases c1:na - k=0
 ·rw[if_pos (by simpa using c1)]
  have e:k=na:=by lia
  subst e;exact wpS_pure (same (List.pairwise_append.mpr ⟨s1,s2,fun x hx y hy=>(u x hx).tr (hb0 y hy)⟩))
 rw[if_neg (by simpa using c1)];rw[show sa+k+(na - k) - 1=sa+na - 1 by lia];refine wpS_bind (bh el.1 ?_);refine wpS_bind (ig hO k1 (hA _ (List.mem_of_getElem? el.2)) (by omega) hA s2 (by lia) fun m hmn u2 v2=>?_);dsimp only
 by_cases c2:m=0
 ·rw[if_pos (by simpa using c2)]
  subst c2;exact wpS_pure (same (List.pairwise_append.mpr ⟨s1,s2,fun x hx y hy=>(hal x hx).tr (v2 y hy)⟩))
 rw[if_neg (by simpa using c2)];have ex:(xs.extract (sa+k) (sa+na)).toList=((xs.toList.drop sa).take na).drop k:=by
  rw[Array.toList_extract,List.extract_eq_take_drop,List.drop_take,List.drop_drop];congr 1
  lia
 have ey:(xs.extract (sa+na) (sa+na+m)).toList=((xs.toList.drop (sa+na)).take nb).take m:=by
  rw[uO,List.take_take,Nat.min_eq_left hmn]
 have zx:(xs.extract (sa+k) (sa+na)).size=na - k:=by rw[Array.size_extract];lia
 have zy:(xs.extract (sa+na) (sa+na+m)).size=m:=by rw[Array.size_extract];lia
 have ax:∀ p∈(xs.extract (sa+k) (sa+na)).toList,dU κ p:=fun p hp=>hA p (by rw[ex] at hp;exact List.mem_of_mem_drop (List.mem_of_mem_take (List.mem_of_mem_drop hp)));have ay:∀ p∈(xs.extract (sa+na) (sa+na+m)).toList,dU κ p:=fun p hp=>hA p (by rw[ey] at hp;exact List.mem_of_mem_drop (List.mem_of_mem_take (List.mem_of_mem_take hp)));have sx:(xs.extract (sa+k) (sa+na)).toList.Pairwise (Le κ):=by rw[ex];exact s1.sublist (List.drop_sublist _ _)
 have sy:(xs.extract (sa+na) (sa+na+m)).toList.Pairwise (Le κ):=by rw[ey];exact s2.sublist (List.take_sublist _ _)
 have hf:∀ y∈(xs.extract (sa+k) (sa+na)).toList,Le κ ((xs.extract (sa+na) (sa+na+m))[0]'(by lia)) y:=fun y hy=>by
  rw[Array.getElem_extract];rw[ex] at hy;exact v y hy
 have hl:∀ y∈(xs.extract (sa+na) (sa+na+m)).toList,∀ x∈(xs.extract (sa+k) (sa+na)).toList.drop ((xs.extract (sa+k) (sa+na)).size - 1),Le κ y x:=fun y hy x hx=>by
  rw[ex,zx,List.drop_drop,show k+(na - k - 1)=na - 1 by lia] at hx;have e3:=drop_one ll;rw[List.take_of_length_le (by rw[List.length_drop,List.length_take,List.length_drop];omega)] at e3;rw[e3] at hx;rw[List.mem_singleton.mp hx];rw[ey] at hy;rw[List.take_take,Nat.min_eq_left hmn] at hy;exact u2 y hy
 have fin:∀ (r:Array Keyed) (st2:SortSt),SG st1 st2->MG (Le κ) (xs.extract (sa+k) (sa+na)).toList (xs.extract (sa+na) (sa+na+m)).toList r.toList ->
   wpS (model prog w) A E s (do
    modify fun s=>SortSt.mk' (kindOf s) ((fun z=>List.foldl (fun a p=>a.setIfInBounds (sa+k+p.2) p.1) z r.toList.zipIdx) (arrOf s)) (pendingOf s) (gallopOf s) (failedOf s)
    let v <- get
    pure (failedOf v).isNone) Q st2:=fun r st2 sg mg=>by
  refine wpS_bind (BM (f:=fun z=>List.foldl (fun a p=>a.setIfInBounds (sa+k+p.2) p.1) z r.toList.zipIdx) fun st3 k3 a3 p3 f3=>wpS_bind (wpS_get ?_));rw[show (failedOf st3).isNone=true by rw[f3,sg.fl,f1];rfl];rw[ex,ey] at mg;have rl:r.toList.length=na - k+m:=by
   rw[mg.1.length_eq,List.length_append,List.length_drop,List.length_take,List.length_take,List.length_take,List.length_drop,List.length_drop]
   lia
  have xin:∀ {x},x∈r.toList->x∈((xs.toList.drop sa).take na).drop k\/x∈((xs.toList.drop (sa+na)).take nb).take m:=fun hx=>List.mem_append.mp (mg.1.mem_iff.mp hx);have q1:(((xs.toList.drop sa).take na).take k++((xs.toList.drop sa).take na).drop k).Pairwise (Le κ):=by rw[List.take_append_drop];exact s1
  have q2:(((xs.toList.drop (sa+na)).take nb).take m++((xs.toList.drop (sa+na)).take nb).drop m).Pairwise (Le κ):=by rw[List.take_append_drop];exact s2
  obtain⟨q3,_,q4⟩:=List.pairwise_append.mp q1;obtain⟨_,q5,q6⟩:=List.pairwise_append.mp q2;have u':∀ x∈((xs.toList.drop sa).take na).take k,Le κ x xs[sa+na]:=fun x hx=>u x (by rwa [List.take_take,Nat.min_eq_left hkn] at hx);refine wpS_pure (h st3 (((xs.toList.drop sa).take na).take k++(r.toList++((xs.toList.drop (sa+na)).take nb).drop m)) (k3.trans (sg.kd.trans k1)) (f3.trans (sg.fl.trans f1)) (p3.trans (sg.pn.trans p1)) ?_ ?_ ?_)
  ·rw[a3,sg.ar,a1]
   show (List.foldl _ xs (r.toList.zipIdx 0)).toList=_;rw[nX (sa+k) r.toList 0 xs (by lia),Nat.add_zero,rl,DF (n:=na) hkn,show sa+k+(na - k+m)=sa+na+m by lia,vw (s:=sa+na) (n:=nb) (by omega) hmn];simp only[List.append_assoc]
  ·refine ((mg.1.append_right _).append_left _).trans (List.Perm.of_eq ?_)
   rw[List.append_assoc,List.take_append_drop,<- List.append_assoc,List.take_append_drop]
  ·refine List.pairwise_append.mpr ⟨q3,List.pairwise_append.mpr ⟨mg.2,q5,fun x hx y hy=>?_⟩,fun x hx y hy=>?_⟩
   ·rcases xin hx with z|z
    ·exact (hal x (List.mem_of_mem_drop z)).tr (v2 y hy)
    ·exact q6 x z y hy
   ·rcases List.mem_append.mp hy with hy|hy
    ·rcases xin hy with z|z
     ·exact q4 x hx y z
     ·exact (u' x hx).tr (hb0 y (List.mem_of_mem_take z))
    ·exact (u' x hx).tr (hb0 y (List.mem_of_mem_drop hy))
 by_cases c3:na - k<=m
 ·rw[if_pos c3]
  exact wpS_bind (Br hO k1 ax ay sx sy (by lia) (by lia) hf hl fin)
 ·rw[if_neg c3]
  exact wpS_bind (A3 hO k1 ax ay sx sy (by lia) (by omega) hf hl fin)
end
end Tm
end
section
namespace Tm
open PySem PyProof.Rows
noncomputable def qL (κ:KeyKind) (xs:Array Keyed) (lo hi:Nat):Prop:=∀ i j,lo<=i->i<=j->j<hi->κ.kle (KK κ xs i) (KK κ xs j)
noncomputable def Ci (κ:KeyKind) (xs:Array Keyed) (lo hi:Nat):Prop:=∀ i j,lo<=i->i<=j->j<hi->κ.kle (KK κ xs j) (KK κ xs i)
structure CB (st:SortSt) (lo:Nat) (st':SortSt):Prop where
 kd:kindOf st'=kindOf st
 pn:pendingOf st'=pendingOf st
 fl:failedOf st'=failedOf st
 pm:(arrOf st').Perm (arrOf st)
 fr:∀ i<lo,(arrOf st')[i]?=(arrOf st)[i]?
theorem CB.refl (st:SortSt) (lo:Nat):CB st lo st:=⟨rfl,rfl,rfl,Array.Perm.refl _,fun _ _=>rfl⟩
theorem CB.sz {st st':SortSt}{lo:Nat} (h:CB st lo st'):(arrOf st').size=(arrOf st).size:=h.pm.size_eq
theorem CB.E6 {st st':SortSt}{lo i j:Nat} (h:CB st lo st') (hi:lo<=i) (hj:j<=(arrOf st).size):CB st lo (setArr st' (mirror (arrOf st') i j ((j - i) / 2))) :=
 ⟨h.kd,h.pn,h.fl,(mirror_perm _ _ _ _).trans h.pm,fun k hk=>(getElem?_mirror_all (i:=i) (j:=j) (by rw[h.sz];exact hj) k).trans ((if_neg (by lia)).trans (h.fr k hk))⟩
section
variable {prog:Program}{w:World}{A:Around}{E:Value->Shared->Prop}{s:Shared}{κ:KeyKind}
theorem CB.has {st st':SortSt}{lo:Nat} (h:CB st lo st') (hA:∀ p∈(arrOf st).toList,dU κ p):∀ p∈(arrOf st').toList,dU κ p:=fun p hp=>hA p ((Array.perm_iff_toList_perm.mp h.pm).mem_iff.mp hp)
theorem jx (hO:κ.OneLt) {st:SortSt}{i j:Nat}{Q:Option Bool->SortSt->Prop} (hk:kindOf st=oneType') (hA:∀ p∈(arrOf st).toList,dU κ p) (hi:i<(arrOf st).size) (hj:j<(arrOf st).size)
  (h:Q (some (κ.blt (KK κ (arrOf st) i) (KK κ (arrOf st) j))) st):wpS (model prog w) A E s (ltAt' i j) Q st:=by
 have ei:=bC hi;have ej:=bC hj;rw[fI ei.1,fI ej.1] at h;rw[ltAt'_eq];exact wpS_bind (wpS_get (wpS_bind (bh ei.1 (wpS_bind (bh ej.1 (oq hO hk (hA _ (List.mem_of_getElem? ei.2)) (hA _ (List.mem_of_getElem? ej.2)) h))))))
theorem xA {xs:Array Keyed}{lo:Nat}:qL κ xs lo (lo+1):=fun i j h1 h2 h3=>by
 have:i=j:=by lia
 rw[this];exact KeyOrd.kle_refl _
theorem xn {xs:Array Keyed}{lo n:Nat} (hn:1<=n) (h:qL κ xs lo (lo+n)) (e:κ.kle (KK κ xs (lo+n - 1)) (KK κ xs (lo+n))):qL κ xs lo (lo+(n+1)):=fun i j h1 h2 h3=>by
 by_cases c:j<lo+n
 ·exact h i j h1 h2 c
 ·have ej:j=lo+n:=by lia
  subst ej
  by_cases c2:i=lo+n
  ·rw[c2];exact KeyOrd.kle_refl _
  ·exact KeyOrd.kle_trans (h i (lo+n - 1) h1 (by lia) (by omega)) e
theorem gX {xs:Array Keyed}{lo n:Nat} (hn:1<=n) (h:Ci κ xs lo (lo+n)) (e:κ.kle (KK κ xs (lo+n)) (KK κ xs (lo+n - 1))):Ci κ xs lo (lo+(n+1)):=fun i j h1 h2 h3=>by
 by_cases c:j<lo+n
 ·exact h i j h1 h2 c
 ·have ej:j=lo+n:=by lia
  subst ej
  by_cases c2:i=lo+n
  ·rw[c2];exact KeyOrd.kle_refl _
  ·exact KeyOrd.kle_trans e (h i (lo+n - 1) h1 (by lia) (by lia))
theorem nQ {st1:SortSt}{lo nrem a:Nat}{f:Nat->Option (Option Nat)×Nat->StateT SortSt Sem (ForInStep (Option (Option Nat)×Nat))}
  (hf:∀ x n,n<nrem->1<=n->∀ {R:ForInStep (Option (Option Nat)×Nat)->SortSt->Prop},(κ.klt (KK κ (arrOf st1) (lo+n)) (KK κ (arrOf st1) (lo+n - 1))->R (.done (none,n)) st1) ->
   (κ.kle (KK κ (arrOf st1) (lo+n - 1)) (KK κ (arrOf st1) (lo+n))->R (.yield (none,n+1)) st1)->wpS (model prog w) A E s (f x (none,n)) R st1)
  (ha:1<=a) (han:a<=nrem) (hs:qL κ (arrOf st1) lo (lo+a)) :
  wpS (model prog w) A E s (forIn [a:nrem] ((none:Option (Option Nat)),a) f) (fun c st'=>st'=st1/\∃ n,c=(none,n)/\1<=n/\n<=nrem/\qL κ (arrOf st1) lo (lo+n)/\(n=nrem\/n<nrem/\κ.klt (KK κ (arrOf st1) (lo+n)) (KK κ (arrOf st1) (lo+n - 1)))) st1:=by
 refine wpS_forRange (I:=fun x c st'=>st'=st1/\c=(none,x)/\qL κ (arrOf st1) lo (lo+x)) (fun x c st' hax hxn=>?_) (fun c st'=>?_) ⟨rfl,rfl,hs⟩
 ·rintro ⟨rfl,rfl,h⟩
  exact hf x x hxn (by lia) (fun e=>⟨rfl,x,rfl,by omega,by lia,h,.inr ⟨hxn,e⟩⟩) fun e=>⟨rfl,rfl,xn (by omega) h e⟩
 ·rintro ⟨rfl,rfl,h⟩
  rw[Nat.max_eq_right han] at h ⊢;exact⟨rfl,nrem,rfl,by lia,Nat.le_refl _,h,.inl rfl⟩
set_option hygiene false in
local macro_rules|`(tactic| walk_at "asc")=>`(tactic| (
 refine wpS_bind (jx hO hk1 hA1 (by omega) (by omega) ?_)
 cases e:κ.blt (KK κ (arrOf st1) (lo+n)) (KK κ (arrOf st1) (lo+n - 1)) with
 | true=>exact wpS_pure (r1 e)
 | false=>exact wpS_pure (r2 e)))
theorem Dy (hO:κ.OneLt) {lo nrem:Nat}{st:SortSt}{Q:Option Nat->SortSt->Prop} (hk:kindOf st=oneType') (hA:∀ p∈(arrOf st).toList,dU κ p) (hn:lo+nrem<=(arrOf st).size) (h1:1<=nrem)
  (h:∀ m st',CB st lo st'->1<=m->m<=nrem->qL κ (arrOf st') lo (lo+m)->Q (some m) st'):wpS (model prog w) A E s (countRun' lo nrem) Q st:=by
 refine wpS_bind (wpS_mono (nQ (κ:=κ) (lo:=lo) (st1:=st) (fun x n hx hn1 R r1 r2=>?_) (Nat.le_refl 1) h1 xA) ?_)
 ·have hk1:=hk
  have hA1:=hA;generalize st=st1 at hk1 hA1 hn r1 r2 ⊢;walk_at "asc"
 ·rintro c st' ⟨rfl,n,rfl,hn1,hn2,hs,hc⟩
  dsimp -zeta only
  extract_lets r0 n0 n9 q9 jp
  dsimp -zeta only[r0,n0]
  by_cases c1:n=nrem
  ·rw[if_pos (by simpa using c1)]
   exact wpS_pure (h n _ (CB.refl _ _) hn1 hn2 hs)
  rw[if_neg (by simpa using c1)];obtain⟨c2,e2⟩:=hc.resolve_left c1;have key:∀ st3,CB st' lo st3->Ci κ (arrOf st3) lo (lo+(n+1))->wpS (model prog w) A E s (jp ()) Q st3:=by
   intro st3 cb3 hd3;dsimp -zeta only[jp];dsimp -zeta only[n9,q9]
   clear_value jp n9 q9
   clear jp n9 q9 hs hc e2;generalize st'=st at *;refine wpS_bind (wpS_lift (wpAny_rule ⟨rfl,?_⟩));refine wpS_bind (wpS_mono (wpS_forRange (I:=fun x c st'=>CB st lo st'/\∃ q,c=(none,x,q)/\Ci κ (arrOf st') lo (lo+x)/\q+1<=x/\∀ i,lo+x - (q+1)<=i->i<lo+x->KK κ (arrOf st') i=KK κ (arrOf st') (lo+x - 1))
    (Q:=fun c st'=>CB st lo st'/\∃ m q,c=(none,m,q)/\1<=m/\m<=nrem/\Ci κ (arrOf st') lo (lo+m)/\q+1<=m/\∀ i,lo+m - (q+1)<=i->i<lo+m->KK κ (arrOf st') i=KK κ (arrOf st') (lo+m - 1)) ?a ?b ⟨cb3,0,rfl,hd3,by lia,fun i z1 z2=>by congr 1;lia⟩) ?c)
   case b =>
    rintro c st' ⟨cb,q,rfl,hd,hq,he⟩;rw[Nat.max_eq_right (by lia)] at hd hq he ⊢;exact⟨cb,nrem,q,rfl,by omega,Nat.le_refl _,hd,hq,he⟩
   case a =>
    rintro x c st4 hax hxn ⟨cb,q,rfl,hd,hq,he⟩;have z:=cb.sz;dsimp only;refine wpS_bind (jx hO (cb.kd.trans hk) (cb.has hA) (by lia) (by lia) ?_)
    cases e:κ.blt (KK κ (arrOf st4) (lo+x)) (KK κ (arrOf st4) (lo+x - 1)) with
    | true =>
     dsimp only;rw[if_pos rfl]
     by_cases cq:q > 0
     ·rw[if_pos cq]
      have me:=KK_mirror_equal (κ:=κ) (xs:=arrOf st4) (i:=lo+x - (q+1)) (j:=lo+x) (by omega) he;refine wpS_bind (wpS_reverse (wpS_pure ⟨cb.E6 (by omega) (by omega),0,rfl,gX (by lia) (fun i j z1 z2 z3=>?_) ?_,by lia,fun i z1 z2=>by congr 1;lia⟩))
      ·show κ.kle (KK κ (mirror _ _ _ _) j) (KK κ (mirror _ _ _ _) i)
       rw[me,me];exact hd i j z1 z2 z3
      ·show κ.kle (KK κ (mirror _ _ _ _) _) (KK κ (mirror _ _ _ _) _)
       rw[me,me];exact KeyOrd.kle_of_klt e
     ·rw[if_neg cq]
      exact wpS_pure ⟨cb,0,rfl,gX (by omega) hd (KeyOrd.kle_of_klt e),by omega,fun i z1 z2=>by congr 1;omega⟩
    | false =>
     dsimp only;rw[if_neg (by simp)];refine wpS_bind (jx hO (cb.kd.trans hk) (cb.has hA) (by omega) (by omega) ?_)
     cases e3:κ.blt (KK κ (arrOf st4) (lo+x - 1)) (KK κ (arrOf st4) (lo+x)) with
     | true =>
      dsimp only;rw[if_pos rfl];exact wpS_pure ⟨cb,x,q,rfl,by lia,by lia,hd,hq,he⟩
     | false =>
      dsimp only;rw[if_neg (by simp)];have eq:KK κ (arrOf st4) (lo+x)=KK κ (arrOf st4) (lo+x - 1):=KeyOrd.kle_antisymm e3 e;refine wpS_pure ⟨cb,q+1,rfl,gX (by omega) hd (by rw[eq];exact KeyOrd.kle_refl _),by lia,fun i z1 z2=>?_⟩;rw[show lo+(x+1) - 1=lo+x by lia]
      by_cases ci:i=lo+x
      ·rw[ci]
      ·rw[eq]
       exact he i (by lia) (by lia)
   case c =>
    rintro c st4 ⟨cb,n2,q,rfl,hn3,hn4,hd4,hq,he⟩;have z:=cb.sz;dsimp -zeta only
    extract_lets s5 n5 q5 jp2
    have key2:∀ st4,CB st lo st4->Ci κ (arrOf st4) lo (lo+n2)->wpS (model prog w) A E s (jp2 ()) Q st4:=by
     intro st4 cb4 hd4;dsimp -zeta only[jp2];dsimp -zeta only[q5,n5,s5];refine wpS_bind (wpS_reverse ?_);have cb5:=cb4.E6 (i:=lo) (j:=lo+n2) (Nat.le_refl _) (by lia);have hs5:qL κ (mirror (arrOf st4) lo (lo+n2) ((lo+n2 - lo) / 2)) lo (lo+n2):=fun i j h1 h2 h3=>by
      rw[KK_mirror (by rw[cb4.sz];lia),KK_mirror (by rw[cb4.sz];omega),if_pos ⟨h1,by lia⟩,if_pos ⟨by lia,h3⟩];exact hd4 _ _ (by omega) (by omega) (by omega)
     have hk1:kindOf (setArr st4 (mirror (arrOf st4) lo (lo+n2) ((lo+n2 - lo) / 2)))=oneType':=cb5.kd.trans hk;have hA1:=cb5.has hA;have z1:=cb5.sz;have hs5:qL κ (arrOf (setArr st4 (mirror (arrOf st4) lo (lo+n2) ((lo+n2 - lo) / 2)))) lo (lo+n2):=hs5;generalize setArr st4 (mirror (arrOf st4) lo (lo+n2) ((lo+n2 - lo) / 2))=st1 at cb5 hk1 hA1 z1 hs5 ⊢;refine wpS_bind (wpS_mono (nQ (κ:=κ) (lo:=lo) (st1:=st1) (fun x n hx hn1 R r1 r2=>?_) hn3 hn4 hs5) ?_)
     ·walk_at "asc"
     ·rintro c st' ⟨rfl,m,rfl,q1,q2,q3,_⟩
      exact wpS_pure (h m _ cb5 q1 q2 q3)
    clear_value jp2
    by_cases cq:q > 0
    ·rw[if_pos cq]
     have me:=KK_mirror_equal (κ:=κ) (xs:=arrOf st4) (i:=lo+n2 - (q+1)) (j:=lo+n2) (by omega) he;refine wpS_bind (wpS_reverse (key2 _ (cb.E6 (i:=lo+n2 - (q+1)) (j:=lo+n2) (by lia) (by omega)) fun i j z1 z2 z3=>?_));show κ.kle (KK κ (mirror _ _ _ _) j) (KK κ (mirror _ _ _ _) i);rw[me,me];exact hd4 i j z1 z2 z3
    ·rw[if_neg cq]
     exact key2 _ cb hd4
  clear_value jp
  by_cases c3:n > 1
  ·rw[if_pos c3]
   refine wpS_bind (jx hO hk hA (by lia) (by lia) ?_)
   cases e:κ.blt (KK κ (arrOf st') lo) (KK κ (arrOf st') (lo+n - 1)) with
   | true =>
    dsimp only;rw[if_pos rfl];exact wpS_pure (h n _ (CB.refl _ _) hn1 hn2 hs)
   | false =>
    dsimp only;rw[if_neg (by simp)];have al:∀ k,lo<=k->k<lo+n->KK κ (arrOf st') k=KK κ (arrOf st') (lo+n - 1):=fun k z1 z2 =>
     KeyOrd.kle_antisymm (hs k _ z1 (by lia) (by omega)) (KeyOrd.kle_trans e (hs lo k (Nat.le_refl _) z1 z2))
    have me:=KK_mirror_equal (κ:=κ) (xs:=arrOf st') (i:=lo) (j:=lo+n) (by lia) al;refine wpS_bind (wpS_reverse (key _ ((CB.refl st' lo).E6 (i:=lo) (j:=lo+n) (Nat.le_refl _) (by omega)) (gX hn1 (fun i j z1 z2 z3=>?_) ?_)))
    ·show κ.kle (KK κ (mirror _ _ _ _) j) (KK κ (mirror _ _ _ _) i)
     rw[me,me,al i z1 (by lia),al j (by lia) z3];exact KeyOrd.kle_refl _
    ·show κ.kle (KK κ (mirror _ _ _ _) _) (KK κ (mirror _ _ _ _) _)
     rw[me,me];exact KeyOrd.kle_of_klt e2
  ·rw[if_neg c3]
   refine key _ (CB.refl st' lo) (gX hn1 (fun i j z1 z2 z3=>?_) (KeyOrd.kle_of_klt e2));rw[show i=j by lia];exact KeyOrd.kle_refl _
end
end Tm
end
section
namespace Tm
open PySem PyProof.Rows
section
variable {prog:Program}{w:World}{A:Around}{E:Value->Shared->Prop}{s:Shared}{κ:KeyKind}
theorem Ee (hO:κ.OneLt) {lo n ok:Nat}{st:SortSt}{Q:Bool->SortSt->Prop} (hk:kindOf st=oneType') (hA:∀ p∈(arrOf st).toList,dU κ p) (hn:lo+n<=(arrOf st).size) (hok:ok<=n) (h1:1<=n) (hs:qL κ (arrOf st) lo (lo+ok))
  (h:∀ st',CB st lo st'->qL κ (arrOf st') lo (lo+n)->Q true st'):wpS (model prog w) A E s (binarySort' lo n ok) Q st:=by
 refine wpS_bind (wpS_mono (wpS_forRange (I:=fun k c st'=>c=(none,())/\CB st lo st'/\qL κ (arrOf st') lo (lo+min k n)) (Q:=fun c st'=>c=(none,())/\CB st lo st'/\qL κ (arrOf st') lo (lo+n)) ?a ?b ?g) ?c)
 case g =>
  refine⟨rfl,CB.refl _ _,fun i j z1 z2 z3=>?_⟩
  by_cases c:ok=0
  ·rw[show i=j by lia];exact KeyOrd.kle_refl _
  ·exact hs i j z1 z2 (by lia)
 case c =>
  rintro c st' ⟨rfl,cb,so⟩;exact wpS_pure (h st' cb so)
 case b =>
  rintro c st' ⟨e,cb,so⟩;rw[show min (max (max ok 1) n) n=n by lia] at so;exact⟨e,cb,so⟩
 case a =>
  rintro k c st' hak hkn ⟨rfl,cb,so⟩;rw[Nat.min_eq_left (Nat.le_of_lt hkn)] at so;have z:=cb.sz;dsimp only;refine wpS_bind (wpS_mono (wpS_forRange (I:=fun x c st''=>st''=st'/\∃ l r,c=(none,l,r)/\l<=r/\r<=k/\r+x<=k+l/\(∀ i<l,κ.kle (KK κ (arrOf st') (lo+i)) (KK κ (arrOf st') (lo+k)))/\(∀ i,r<=i->i<k->κ.kle (KK κ (arrOf st') (lo+k)) (KK κ (arrOf st') (lo+i))))
   (Q:=fun c st''=>st''=st'/\∃ l,c=(none,l,l)/\l<=k/\(∀ i<l,κ.kle (KK κ (arrOf st') (lo+i)) (KK κ (arrOf st') (lo+k)))/\(∀ i,l<=i->i<k->κ.kle (KK κ (arrOf st') (lo+k)) (KK κ (arrOf st') (lo+i)))) ?d ?e ⟨rfl,0,k,rfl,by lia,by lia,by lia,fun i hi=>by lia,fun i z1 z2=>by lia⟩) ?f)
  case e =>
   rintro c st'' ⟨rfl,l,r,rfl,a1,a2,a3,a4,a5⟩;have:l=r:=by lia
   subst this;exact⟨rfl,l,rfl,a2,a4,a5⟩
  case d =>
   rintro x c st'' _ hxk ⟨rfl,l,r,rfl,a1,a2,a3,a4,a5⟩;dsimp only
   by_cases cl:l ≥ r
   ·rw[if_pos cl]
    have:l=r:=by lia
    subst this;exact wpS_pure ⟨rfl,l,rfl,a2,a4,a5⟩
   ·rw[if_neg cl]
    refine wpS_bind (jx hO (cb.kd.trans hk) (cb.has hA) (by lia) (by lia) ?_)
    cases e:κ.blt (KK κ (arrOf st'') (lo+k)) (KK κ (arrOf st'') (lo+(l+r) / 2)) with
    | true=>exact wpS_pure ⟨rfl,l,(l+r) / 2,rfl,by lia,by lia,by lia,a4,fun i z1 z2=>KeyOrd.kle_trans (KeyOrd.kle_of_klt e) (so _ _ (by lia) (by lia) (by lia))⟩
    | false=>exact wpS_pure ⟨rfl,(l+r) / 2+1,r,rfl,by omega,by omega,by lia,fun i z1=>KeyOrd.kle_trans (so _ (lo+(l+r) / 2) (by lia) (by lia) (by lia)) e,a5⟩
  case f =>
   rintro c st'' ⟨rfl,l,rfl,a2,a4,a5⟩;show wpS _ _ _ _ (do moveDown' (lo+k) (lo+l);pure (ForInStep.yield (none,()))) _ _;rw[moveDown'_eq];have hz:lo+k<(arrOf st'').size:=by lia
   refine wpS_bind (wpS_modify (wpS_pure ⟨rfl,⟨cb.kd,cb.pn,cb.fl,(bubble_perm _ _ _).trans cb.pm,fun i hi=>?_⟩,fun i j z1 z2 z3=>?_⟩))
   ·rw[<- cb.fr i hi]
    exact (getElem?_bubble hz _ (by omega) i).trans ((if_neg (by omega)).trans (if_neg (by omega)))
   ·show κ.kle (KK κ (bubble _ _ _) i) (KK κ (bubble _ _ _) j)
    have hi4:∀ i,lo<=i->i<lo+l->κ.kle (KK κ (arrOf st'') i) (KK κ (arrOf st'') (lo+k)):=fun i z1 z2=>by
     have:=a4 (i - lo) (by lia)
     rwa [show lo+(i - lo)=i by omega] at this
    have hi5:∀ i,lo+l<=i->i<lo+k->κ.kle (KK κ (arrOf st'') (lo+k)) (KK κ (arrOf st'') i):=fun i z1 z2=>by
     have:=a5 (i - lo) (by lia) (by omega)
     rwa [show lo+(i - lo)=i by omega] at this
    rw[KK_bubble hz (by omega),KK_bubble hz (by omega),show lo+k - (lo+k - (lo+l))=lo+l by lia]
    repeat' split
    all_goals first
     | (exfalso;omega)
     | exact KeyOrd.kle_refl _
     | exact hi4 _ (by omega) (by omega)
     | exact hi5 _ (by omega) (by omega)
     | exact so _ _ (by lia) (by lia) (by lia)
end
noncomputable def Runs (κ:KeyKind) (X:List Keyed):Nat->List (Nat×Nat×Nat)->Nat->Prop
 | s,[],e=>s=e
 | s,r::l,e=>r.1=s/\1<=r.2.1/\((X.drop s).take r.2.1).Pairwise (Le κ)/\Runs κ X (s+r.2.1) l e
section
variable {κ:KeyKind}{X X':List Keyed}
theorem iV:∀ {P:List (Nat×Nat×Nat)}{s e:Nat},Runs κ X s P e->s+P.length<=e
 | [],s,e,h=>Nat.le_of_eq h
 | r::l,s,e,h=>by
  have:=iV h.2.2.2;have:=h.2.1;rw[List.length_cons]
  lia
theorem fP:∀ {P P':List (Nat×Nat×Nat)}{s e:Nat},Runs κ X s (P++P') e↔∃ m,Runs κ X s P m/\Runs κ X m P' e
 | [],P',s,e=>⟨fun h=>⟨s,rfl,h⟩,fun ⟨m,h1,h2⟩=>by cases h1;exact h2⟩
 | r::l,P',s,e=>by
  rw[List.cons_append];constructor
  ·rintro ⟨h1,h2,h3,h4⟩
   obtain⟨m,q1,q2⟩:=fP.mp h4;exact⟨m,⟨h1,h2,h3,q1⟩,q2⟩
  ·rintro ⟨m,⟨h1,h2,h3,h4⟩,h5⟩
   exact⟨h1,h2,h3,fP.mpr ⟨m,h4,h5⟩⟩
theorem mW:∀ {P:List (Nat×Nat×Nat)}{s e:Nat},X.take e=X'.take e->Runs κ X s P e->Runs κ X' s P e
 | [],s,e,_,h=>h
 | r::l,s,e,q,h=>by
  obtain⟨h1,h2,h3,h4⟩:=h;have:=iV h4;refine⟨h1,h2,?_,mW q h4⟩;have g:∀ Y:List Keyed,(Y.drop s).take r.2.1=((Y.take e).drop s).take r.2.1:=fun Y=>by
   rw[List.drop_take,List.take_take,Nat.min_eq_left (by lia)]
  rw[g X',<- q,<- g X];exact h3
theorem rN:∀ {P:List (Nat×Nat×Nat)}{s e:Nat},X.drop s=X'.drop s->Runs κ X s P e->Runs κ X' s P e
 | [],s,e,_,h=>h
 | r::l,s,e,q,h=>by
  obtain⟨h1,h2,h3,h4⟩:=h;exact⟨h1,h2,by rw[<- q];exact h3,rN (by rw[<- List.drop_drop,<- List.drop_drop,q]) h4⟩
theorem oN:∀ {P P':List (Nat×Nat×Nat)}{s e:Nat},P.map (fun r=>(r.1,r.2.1))=P'.map (fun r=>(r.1,r.2.1))->Runs κ X s P e->Runs κ X s P' e
 | [],[],s,e,_,h=>h
 | [],_::_,s,e,q,_=>by cases q
 | _::_,[],s,e,q,_=>by cases q
 | r::l,r'::l',s,e,q,h=>by
  rw[List.map_cons,List.map_cons,List.cons.injEq,Prod.mk.injEq] at q;obtain⟨⟨q1,q2⟩,q3⟩:=q;obtain⟨h1,h2,h3,h4⟩:=h;refine⟨q1 ▸ h1,q2 ▸ h2,q2 ▸ h3,?_⟩;have:=oN q3 h4
  rwa [q2] at this
end
theorem vn {κ:KeyKind}{xs:Array Keyed}{lo n:Nat} (h:qL κ xs lo (lo+n)) (hz:lo+n<=xs.size):((xs.toList.drop lo).take n).Pairwise (Le κ):=by
 rw[List.pairwise_iff_getElem];intro i j hi hj hij;rw[List.length_take,List.length_drop] at hi hj;have:=h (lo+i) (lo+j) (by lia) (by lia) (by lia);rw[fI (bC (a:=xs) (i:=lo+i) (by omega)).1,fI (bC (a:=xs) (i:=lo+j) (by omega)).1] at this;simp only[List.getElem_take,List.getElem_drop,Array.getElem_toList];exact this
theorem CB.tk {st st':SortSt}{lo:Nat} (h:CB st lo st'):(arrOf st).toList.take lo=(arrOf st').toList.take lo:=by
 refine List.ext_getElem? fun i=>?_;rw[List.getElem?_take,List.getElem?_take]
 split
 ·rw[Array.getElem?_toList,Array.getElem?_toList]
  exact (h.fr i (by assumption)).symm
 ·rfl
section
variable {prog:Program}{w:World}{A:Around}{E:Value->Shared->Prop}{s:Shared}{κ:KeyKind}
theorem oJ (hO:κ.OneLt) {st:SortSt}{i e:Nat}{ext:List (Nat×Nat×Nat)}{Q:Bool->SortSt->Prop} (hk:kindOf st=oneType') (hfl:failedOf st=none) (hA:∀ p∈(arrOf st).toList,dU κ p) (hr:Runs κ (arrOf st).toList 0 ((pendingOf st).toList++ext) e)
  (he:e<=(arrOf st).size) (hi:i+1<(pendingOf st).size) (h:∀ st',kindOf st'=oneType'->failedOf st'=none->(arrOf st').Perm (arrOf st)->Runs κ (arrOf st').toList 0 ((pendingOf st').toList++ext) e->(pendingOf st').size+1=(pendingOf st).size->Q true st') :
  wpS (model prog w) A E s (GU i) Q st:=by
 have hp:(pendingOf st).toList=(pendingOf st).toList.take i++(pendingOf st)[i]::(pendingOf st)[i+1]::(pendingOf st).toList.drop (i+2):=by
  conv=>lhs;rw[<- List.take_append_drop i (pendingOf st).toList]
  rw[List.drop_eq_getElem_cons (by simp;omega),List.drop_eq_getElem_cons (by simp;omega)];simp
 have il:((pendingOf st).toList.take i).length=i:=by rw[List.length_take];simp;lia
 have e1:(pendingOf st)[i]?=some (pendingOf st)[i]:=getElem?_pos (pendingOf st) i (by omega);have e2:(pendingOf st)[i+1]?=some (pendingOf st)[i+1]:=getElem?_pos (pendingOf st) (i+1) hi;obtain⟨P1,P2,r1,r2,hp,il,e1,e2⟩:∃ P1 P2 r1 r2,(pendingOf st).toList=P1++r1::r2::P2/\P1.length=i/\(pendingOf st)[i]?=some r1/\(pendingOf st)[i+1]?=some r2:=⟨_,_,_,_,hp,il,e1,e2⟩;rw[hp,List.append_assoc] at hr;obtain⟨a,q1,q2⟩:=fP.mp hr;obtain⟨sa,na,pw⟩:=r1;obtain⟨sb,nb,pw2⟩:=r2;obtain⟨z1,z2,z3,z4,z5,z6,z7⟩:=q2;dsimp only at z1 z2 z3 z4 z5 z6 z7;subst z1;subst z4;have zl:=iV z7;refine Ae hO hk hfl hA e1 e2 z2 z5 (by lia) z3 z6 fun st' M k' f' p' a' pm so=>?_;have ml:M.length=na+nb:=by
  rw[pm.length_eq,List.length_append,List.length_take,List.length_take,List.length_drop,List.length_drop];simp
  lia
 have tl:((arrOf st).toList.take sa).length=sa:=by rw[List.length_take];simp;lia
 have pt':(pendingOf st').toList=P1++(sa,na+nb,pw)::P2:=by
  rw[p'];have:(((pendingOf st).setIfInBounds i (sa,na+nb,pw)).eraseIdxIfInBounds (i+1)).toList=((pendingOf st).toList.set i (sa,na+nb,pw)).eraseIdx (i+1):=by
   rw[Array.eraseIdxIfInBounds,dif_pos (by simp;omega)];simp
  rw[this,hp];rw[List.set_append_right _ _ (by lia),il,Nat.sub_self];rw[List.eraseIdx_append_of_length_le (by lia),il,show i+1 - i=1 by lia]
  rfl
 refine h st' k' f' ?_ ?_ ?_
 ·rw[Array.perm_iff_toList_perm,a']
  conv=>rhs;rw[<- List.take_append_drop sa (arrOf st).toList]
  refine List.Perm.append_left _ ?_;have e3:=vw (X:=(arrOf st).toList) (s:=sa) (n:=na) (m:=0) (by simp;lia) (Nat.zero_le _);have e4:=vw (X:=(arrOf st).toList) (s:=sa+na) (n:=nb) (m:=0) (by simp;lia) (Nat.zero_le _);rw[Nat.add_zero,List.drop_zero] at e3 e4;rw[e3,e4,<- List.append_assoc];exact pm.append_right _
 ·rw[pt',List.append_assoc]
  refine fP.mpr ⟨sa,mW ?_ q1,rfl,by show 1<=na+nb;lia,?_,?_⟩
  ·rw[a',List.take_append_of_le_length (by lia),List.take_take,Nat.min_self]
  ·rw[a',List.drop_append_of_le_length (by lia),List.drop_of_length_le (Nat.le_of_eq tl),List.nil_append,List.take_append_of_le_length (by show na+nb<=_;lia),List.take_of_length_le (by show M.length<=na+nb;lia)]
   exact so
  ·show Runs κ _ (sa+(na+nb)) _ e
   rw[<- Nat.add_assoc];refine rN ?_ z7;rw[a',<- List.append_assoc,List.drop_append,List.drop_of_length_le (l:=(arrOf st).toList.take sa++M) (by rw[List.length_append];lia),List.nil_append,List.length_append,tl,ml,show sa+na+nb - (sa+(na+nb))=0 by lia,List.drop_zero]
 ·have l1:=congrArg List.length pt'
  have l2:=congrArg List.length hp;simp only[List.length_append,List.length_cons,Array.length_toList] at l1 l2
  lia
end
end Tm
end
section
namespace Tm
open PySem PyProof.Rows
structure TI (κ:KeyKind) (st:SortSt) (ext:List (Nat×Nat×Nat)) (e:Nat) (st':SortSt):Prop where
 kd:kindOf st'=oneType'
 fl:failedOf st'=none
 pm:(arrOf st').Perm (arrOf st)
 ru:Runs κ (arrOf st').toList 0 ((pendingOf st').toList++ext) e
section
variable {κ:KeyKind}{st st' st'':SortSt}{e lo n:Nat}
theorem TI.has {ext:List (Nat×Nat×Nat)} (h:TI κ st ext e st') (hA:∀ p∈(arrOf st).toList,dU κ p):∀ p∈(arrOf st').toList,dU κ p:=fun p hp=>hA p ((Array.perm_iff_toList_perm.mp h.pm).mem_iff.mp hp)
theorem TI.cb (h:TI κ st [] lo st') (c:CB st' lo st''):TI κ st [] lo st'' :=
 ⟨c.kd.trans h.kd,c.fl.trans h.fl,c.pm.trans h.pm,by rw[c.pn];exact mW c.tk h.ru⟩
theorem TI.add (h:TI κ st [] lo st') (hs:qL κ (arrOf st') lo (lo+n)) (hn:1<=n) (hz:lo+n<=(arrOf st).size):TI κ st [(lo,n,0)] (lo+n) st':=by
 refine⟨h.kd,h.fl,h.pm,?_⟩;have:=h.ru;rw[List.append_nil] at this;exact fP.mpr ⟨lo,this,rfl,hn,vn hs (by rw[h.pm.size_eq];exact hz),rfl⟩
end
section
variable {prog:Program}{w:World}{A:Around}{E:Value->Shared->Prop}{s:Shared}{κ:KeyKind}
theorem uG {st:SortSt}{f:Array (Nat×Nat×Nat)->Array (Nat×Nat×Nat)}{Q:PUnit->SortSt->Prop} (h:∀ st1,kindOf st1=kindOf st->arrOf st1=arrOf st->pendingOf st1=f (pendingOf st)->failedOf st1=failedOf st->Q ⟨⟩ st1) :
  wpS (model prog w) A E s (modify fun s=>SortSt.mk' (kindOf s) (arrOf s) (f (pendingOf s)) (gallopOf s) (failedOf s)) Q st:=wpS_modify (h _ rfl rfl rfl rfl)
theorem xG (l:List (Nat×Nat×Nat)) (pw:Nat):∀ k,(l.modify k fun x=>(x.1,x.2.1,pw)).map (fun r=>(r.1,r.2.1))=l.map fun r=>(r.1,r.2.1):=by
 induction l with
 | nil=>intro k;cases k <;> rfl
 | cons a l ih =>
  intro k
  cases k with
  | zero=>rfl
  | succ k=>rw[List.modify_succ_cons,List.map_cons,List.map_cons,ih]
set_option hygiene false in
local macro_rules|`(tactic| walk_at "sr")=>`(tactic| (
 refine wpS_bind (wpS_get ?_);have push:∀ st6:SortSt,TI κ st [(lo,n,0)] (lo+n) st6->∀ {R:ForInStep (Option PUnit×Nat)->SortSt->Prop},(∀ st7,TI κ st [] (lo+n) st7->R (.yield (none,lo+n)) st7) ->
   wpS (model prog w) A E s (do
    modify fun s=>SortSt.mk' (kindOf s) (arrOf s) ((fun p=>p.push (lo,n,0)) (pendingOf s)) (gallopOf s) (failedOf s)
    pure (ForInStep.yield ((none:Option PUnit),lo+n))) R st6:=fun st6 t6 R r=>by
  refine wpS_bind (uG (f:=fun p=>p.push (lo,n,0)) fun st7 k7 a7 p7 f7=>wpS_pure (r st7 ⟨k7.trans t6.kd,f7.trans t6.fl,by rw[a7];exact t6.pm,?_⟩));rw[a7,p7,Array.toList_push,List.append_nil];exact t6.ru
 cases hbk:(pendingOf st5).back? with
 | none=>exact push st5 t5 fun st7 t7=>⟨lo+n,rfl,by omega,by omega,t7⟩
 | some r =>
  refine wpS_bind (wpS_mono (wpS_forRange (I:=fun _ c st'=>c=(none,())/\TI κ st [(lo,n,0)] (lo+n) st') (Q:=fun c st'=>c=(none,())/\TI κ st [(lo,n,0)] (lo+n) st') ?a ?b ⟨rfl,t5⟩) ?c)
  case b=>exact fun c st' z=>z
  case c =>
   rintro c st' ⟨rfl,t6⟩;refine wpS_bind (uG (f:=fun p=>p.modify (p.size - 1) _) fun st7 k7 a7 p7 f7=>?_);refine push st7 ⟨k7.trans t6.kd,f7.trans t6.fl,by rw[a7];exact t6.pm,?_⟩ fun st8 t8=>⟨lo+n,rfl,by omega,by omega,t8⟩;rw[a7,p7];refine oN ?_ t6.ru;rw[List.map_append,List.map_append,Array.toList_modify,xG]
  case a =>
   rintro y c st' _ _ ⟨rfl,t6⟩;refine wpS_bind (wpS_get ?_);have pe:(pendingOf st').size=((sortPriv% PySem.Builtin.SortState.pending) st').size:=rfl
   by_cases cp:(pendingOf st').size > 1
   ·have eg:(if (pendingOf st').size > 1 then (pendingOf st')[(pendingOf st').size - 2]? else none)=some (pendingOf st')[(pendingOf st').size - 2]:=by
     rw[if_pos cp];exact getElem?_pos (pendingOf st') _ (by omega)
    rw[eg];dsimp only
    split
    ·exact wpS_pure ⟨rfl,t6⟩
    ·refine wpS_bind (oJ hO t6.kd t6.fl (t6.has hA) t6.ru (by rw[t6.pm.size_eq];omega) (by omega) fun st7 k7 f7 p7 r7 _=>?_)
     exact wpS_pure ⟨rfl,k7,f7,p7.trans t6.pm,r7⟩
   ·rw[if_neg cp]
    exact wpS_pure ⟨rfl,t6⟩))
set_option maxHeartbeats 0 in
theorem CY (hO:κ.OneLt) {st:SortSt}{Q:Unit->SortSt->Prop} (hk:kindOf st=oneType') (hfl:failedOf st=none) (hp:pendingOf st=#[]) (hA:∀ p∈(arrOf st).toList,dU κ p) (h2:2<=(arrOf st).size)
  (h:∀ st',(arrOf st').Perm (arrOf st)->failedOf st'=none->(arrOf st').toList.Pairwise (Le κ)->Q () st'):wpS (model prog w) A E s sortRuns' Q st:=by
 refine wpS_bind (wpS_get ?_);dsimp only;rw[show (sortPriv% PySem.Builtin.SortState.a) st=arrOf st from rfl];generalize (sortPriv% PySem.Builtin.minRun) (arrOf st).size (arrOf st).size 0=mr;refine wpS_bind (wpS_mono (wpS_forRange (I:=fun x c st'=>∃ lo,c=(none,lo)/\x<=lo/\lo<=(arrOf st).size/\TI κ st [] lo st') (Q:=fun c st'=>c.1=none/\TI κ st [] (arrOf st).size st') ?st ?en ⟨0,rfl,Nat.le_refl _,by lia,hk,hfl,Array.Perm.refl _,by rw[hp];rfl⟩) ?po)
 case en =>
  rintro c st' ⟨lo,rfl,h1,h3,t⟩;have:lo=(arrOf st).size:=by lia
  subst this;exact⟨rfl,t⟩
 case st =>
  rintro x c st' _ hx ⟨lo,rfl,h1,h3,t⟩;dsimp only
  by_cases c1:lo ≥ (arrOf st).size
  ·rw[if_pos c1]
   have:lo=(arrOf st).size:=by lia
   subst this;exact wpS_pure ⟨rfl,t⟩
  rw[if_neg c1];have z:=t.pm.size_eq;refine wpS_bind (Dy hO t.kd (t.has hA) (by lia) (by omega) fun m st1 cb1 m1 m2 s1=>?_);have t1:=t.cb cb1;dsimp only
  split
  ·refine wpS_bind (wpS_lift (wpAny_rule ⟨rfl,?_⟩))
   refine wpS_bind (Ee hO t1.kd (t1.has hA) (by rw[t1.pm.size_eq];lia) (by omega) (by lia) s1 fun st5 cb5 s5=>?_);have t5:=(t1.cb cb5).add s5 (by omega) (by omega);rw[if_neg (by simp)];generalize hn:min ((arrOf st).size - lo) mr=n at t5 ⊢;walk_at "sr"
  ·have t5:=t1.add s1 m1 (by lia)
   generalize st1=st5 at t5 ⊢;generalize hn:m=n at t5 ⊢;walk_at "sr"
 case po =>
  rintro ⟨c,l⟩ st' ⟨e,t⟩
  cases e;dsimp only;have pl:=iV t.ru;rw[List.append_nil,Nat.zero_add,Array.length_toList] at pl;refine wpS_bind (wpS_mono (wpS_forRange (I:=fun x c st'=>c=(none,())/\TI κ st [] (arrOf st).size st'/\(pendingOf st').size+x<=(arrOf st).size+1) (Q:=fun c st'=>c=(none,())/\TI κ st [] (arrOf st).size st'/\(pendingOf st').size<=1) ?a ?b ⟨rfl,t,by lia⟩) ?c)
  case b =>
   rintro c st' ⟨rfl,t,hl⟩;exact⟨rfl,t,by lia⟩
  case a =>
   rintro x c st' _ hx ⟨rfl,t,hl⟩;refine wpS_bind (wpS_get ?_);have pe:(pendingOf st').size=((sortPriv% PySem.Builtin.SortState.pending) st').size:=rfl
   by_cases cp:(pendingOf st').size<=1
   ·rw[if_pos cp]
    exact wpS_pure ⟨rfl,t,cp⟩
   ·rw[if_neg cp]
    refine wpS_bind (oJ hO t.kd t.fl (t.has hA) t.ru (by rw[t.pm.size_eq];exact Nat.le_refl _) (by (repeat' split) <;> omega) fun st7 k7 f7 p7 r7 l7=>?_);exact wpS_pure ⟨rfl,⟨k7,f7,p7.trans t.pm,r7⟩,by lia⟩
  case c =>
   rintro c st' ⟨rfl,t,hl⟩;refine wpS_pure (h st' t.pm t.fl ?_);have ru:=t.ru;have z:=t.pm.size_eq;rw[List.append_nil] at ru;have hl':(pendingOf st').toList.length<=1:=hl
   match hP:(pendingOf st').toList,hl' with
   | [],_ =>
    rw[hP] at ru;have:0=(arrOf st).size:=ru
    lia
   | [r],_ =>
    rw[hP] at ru;obtain⟨_,_,r3,r4⟩:=ru;have r4:0+r.2.1=(arrOf st).size:=r4;rw[List.drop_zero,List.take_of_length_le (by show (arrOf st').size<=_;lia)] at r3;exact r3
end
end Tm
end
section
namespace Tm
open PySem PyProof.Rows
section
variable {prog:Program}{w:World}{A:Around}{E:Value->Shared->Prop}{s:Shared}
theorem toK {κ:KeyKind}{xs:Array Keyed}{n:Nat} (h:xs.toList.Pairwise (Le κ)) (hn:n<=xs.size):SortedToK κ xs n:=fun i j hij hj=>by
 have ei:=bC (a:=xs) (i:=i) (by lia);have ej:=bC (a:=xs) (i:=j) (by lia);rw[fI ei.1,fI ej.1];rcases Nat.eq_or_lt_of_le hij with rfl|hij
 ·exact Le.rf _
 ·have:=List.pairwise_iff_getElem.mp h i j (by show i<xs.size;omega) (by show j<xs.size;omega) hij
  rwa [Array.getElem_toList,Array.getElem_toList] at this
theorem vc {a:Addr}{vs:List Value}{ss:List Str}{c:Nat}{P:PySem.Fin->Shared->Prop} (here:s.heap.get? a=some (seqObj "list" vs.toArray c)) (fit:vs.length<=sizeLine) (hS:StrsAre vs ss)
  (fin:∀ st':SortSt,(arrOf st').Perm (pairsOf vs)->SortedToK strKind (arrOf st') (pairsOf vs).size->P (.done (.ret .none)) { s with heap:=sortedHeap s.heap a vs ((arrOf st').map (·.2)) }) :
  wpAny (model prog w) A (Builtin.«list.sort» ⟨[.ref a],[]⟩) P E s:=by
 have zs:vs.toArray.size=vs.length:=List.size_toArray;obtain⟨e,now⟩:∃ e,(s.heap.update a (Obj.mapSeq fun _=>#[])).get? a=some (seqObj "list" #[] e):=⟨_,get?_update_seq here fun _=>#[]⟩;have now':(((s.heap.update a (Obj.mapSeq fun _=>#[])).push (seqObj "tuple" vs.toArray 0)).push (seqObj "list" #[] 0)).get? a=some (seqObj "list" #[] e):=Heap.get?_push_of_some _ (Heap.get?_push_of_some _ now);rw[list_sort_plain];refine wpAny_bind (listItems_at here rfl (wpAny_bind (listUpdate_at here rfl ?_ (by rw[zs];exact fit) (Nat.zero_le _))));refine wpAny_bind (seqEpoch_at now rfl (wpAny_bind (wpAny_newTuple ?_ fit)));refine wpAny_bind (wpAny_newList (wpAny_holding ?_) (Nat.zero_le _));have last:∀ st':SortSt,(arrOf st').Perm (pairsOf vs)->SortedToK strKind (arrOf st') (pairsOf vs).size->P (.done (.ret .none)) { s with heap:=(((s.heap.update a (Obj.mapSeq fun _=>#[])).push (seqObj "tuple" vs.toArray 0)).push (seqObj "list" #[] 0)).update a (Obj.mapSeq fun _=>(arrOf st').map (·.2)) }:=fin;show wpAny (model prog w) A _ P E { s with heap:=(((s.heap.update a (Obj.mapSeq fun _=>#[])).push (seqObj "tuple" vs.toArray 0)).push (seqObj "list" #[] 0)) };generalize ((s.heap.update a (Obj.mapSeq fun _=>#[])).push (seqObj "tuple" vs.toArray 0)).push (seqObj "list" #[] 0)=g at now' last ⊢;dsimp only;have zp:=pairsOf_size vs;have done:∀ st:SortSt,(arrOf st).Perm (pairsOf vs)->SortedToK strKind (arrOf st) (pairsOf vs).size->failedOf st=none->wpAny (model prog w) A (do
   let touched:=(<- seqEpoch a) != e
   Builtin.List.listUpdate (.ref a) fun _=>(arrOf st).map (·.2)
   if let some x:=failedOf st then rule "list.sort.comparison-raised";throw x
   if touched then rule "list.sort.modified";raiseError "ValueError" "list modified during sort"
   ret .none) P E { s with heap:=g }:=fun st pm up e2=>by
  refine wpAny_bind (seqEpoch_at now' rfl (wpAny_bind (listUpdate_at now' rfl ?_ (Nat.zero_le _) (by show ((arrOf st).map (·.2)).size<=_;rw[Array.size_map,pm.size_eq,zp];exact Nat.le_succ_of_le fit))));rw[e2];simp only[bne_self_eq_false,Bool.false_eq_true,if_false];exact wpAny_pure (last st pm up)
 by_cases h2:vs.toArray.size<2
 ·rw[if_pos h2,if_pos h2]
  refine wpAny_bind (wpAny_pure ?_);rw[StateT.run_pure];refine wpAny_bind (wpAny_pure ?_);exact done (SortSt.mk' general' (pairsOf vs) #[] 7 none) (Array.Perm.refl _) (fun i j hij hj=>by rw[show i=j by lia];exact KeyOrd.kle_refl _) rfl
 ·rw[if_neg h2,if_neg h2]
  obtain⟨v1,v2,rest,rfl⟩:∃ v1 v2 rest,vs=v1::v2::rest:=by
   match vs,h2 with
   | [],h2=>simp at h2
   | [_],h2=>simp at h2
   | v1::v2::rest,_=>exact⟨v1,v2,rest,rfl⟩
  rw[keyKind_strs hS];refine wpAny_bind (wpAny_pure ?_);refine wpAny_bind (wpAny_mono (CY (κ:=strKind) strKind_oneLt (st:=SortSt.mk' oneType' (pairsOf (v1::v2::rest)) #[] 7 none) (Q:=fun _ st'=>(arrOf st').Perm (pairsOf (v1::v2::rest))/\failedOf st'=none/\(arrOf st').toList.Pairwise (Le strKind)) rfl rfl rfl hS.keysOf (by show 2<=(pairsOf _).size;rw[zp];simp) fun st' b1 b2 b3=>⟨b1,b2,b3⟩) ?_ fun _ _ z=>z);rintro ⟨⟨⟩,st⟩ s' ⟨rfl,b1,b2,b3⟩;exact done st b1 (toK b3 (Nat.le_of_eq b1.size_eq.symm)) b2
theorem qm {l:Addr}{vs:List Value}{ss:List Str}{Q:Value->Shared->Prop} (hl:s.heap.IsList l vs.toArray) (hS:StrsAre vs ss) (fit:vs.length<=sizeLine)
  (fin:∀ (out:Array Value) (ss':List Str),StrsAre out.toList ss'->ss'.Perm ss->sortedS ss'=true->Q (.ref (s.heap.objs.size+1)) { s with heap:=sortedAll s.heap vs out }) :
  wpAny (model prog w) A (call (.builtin "sorted") [.ref l]) Q E s:=by
 refine Calls.call_function_entry kind_sorted plain_sorted entry_sorted (args_sorted1 (.ref l)) (?_:wpAny _ _ _ _ _ _);unfold Builtin.«sorted»;refine wpAny_bind (m:=checkCount "sorted" 1 1 _) (wpAny_pure (wpAny_bind (collect_list hl (wpAny_bind (wpAny_newList ?_)))));have sz:((s.heap.push (seqObj "list" #[] 0)).update s.heap.objs.size (Obj.mapSeq (·++vs.toArray))).objs.size=s.heap.objs.size+1:=(Heap.size_update ..).trans (size_push' ..);have at1:(((s.heap.push (seqObj "list" #[] 0)).update s.heap.objs.size (Obj.mapSeq (·++vs.toArray))).push (seqObj "list" vs.toArray 0)).get? (s.heap.objs.size+1)=some (seqObj "list" vs.toArray 0):=by
  rw[<- sz];exact Heap.get?_push_size _ rfl
 show wpAny _ _ _ _ _ { s with heap:=(((s.heap.push (seqObj "list" #[] 0)).update s.heap.objs.size (Obj.mapSeq (·++vs.toArray))).push (seqObj "list" vs.toArray 0)) };rw[sz];refine wpAny_bind (wpAny_holding (wpAny_call_entry slot_list_sort ⟨_,at1,rfl⟩ entry_list_sort (vc at1 fit hS fun st' b1 b2=>⟨_,rfl,?_⟩) (args_list_sort _)));obtain⟨ss',q1,q2,q3⟩:=sorted_out_str hS b1 b2;exact wpAny_pure ⟨_,rfl,fin _ ss' q1 q2 q3⟩
end
end Tm
end
section
namespace L2
open PySem PySem.Spec PyProof.Rows
open Builtin Builtin.Str in
variable {X:Cx}
noncomputable def Ca (K:PySem.W.Frag):List V->Hp->VK->Prop:=fun xs H Q=>∃ (a:Addr) (ss:List Str),xs=[.ref a]/\aP K H a (ss.map V.str)/\∀ (p:Addr) (ss':List Str),H p=none->ss'.Perm ss->ss'.Pairwise (fun a b=>¬ b.cps.toList<a.cps.toList)->Q (.ref p) (upd H p (.lst (ss'.map V.str)))
theorem mS (K:PySem.W.Frag) (hK:X.K=K:=by rfl):cv X (.builtin "sorted") (Ca K):=by
 subst hK;intro pins s σ H xs us Q I r h;obtain⟨a,ss,rfl,ha,q⟩:=h;obtain⟨u,rfl,ru⟩:=vals1 r
 cases ru;obtain⟨its,rv,pl,hz⟩:=I.list ha;have sa:=gJ rv;have hl:=rv.length;rw[List.length_map] at hl hz;refine Tm.qm pl.isList sa (by omega) fun out ss' a1 a2 a3=>?_;obtain⟨e,he⟩:=sortedAll_at s.heap its out;have hf:H (s.heap.objs.size+1)=none:=I.hok.fresh (Nat.le_succ _);have v1:=eT a1;refine⟨.ref (s.heap.objs.size+1),_,I.laid (o:=.lst (ss'.map V.str)) (t':=s.toks) (fun b o q=>sortedAll_old q) (Nat.le_succ _) ⟨?_,out.toList,e,v1,?_⟩,rfl,q _ ss' hf a2 (dk a3)⟩
 ·rw[List.length_map,a2.length_eq]
  omega
 ·exact he
end L2
end
section
namespace Lw
open PySem L2 PyProof.Rows
section
variable {P:Program}{w:World}{K:PySem.W.Frag}{mg:Str->Option Value}{base h:Heap}
noncomputable def fw (fd:FuncData) (ps:List Str):Prop:=∀ us:List Value,us.length=ps.length->bindArgs fd ⟨us,[]⟩=pure (ps.zip us)
theorem Hj {fd:FuncData} (h:bindArgs fd ⟨[],[]⟩=pure (([]:List Str).zip [])):fw fd []:=fun us hl=>match us,hl with|[],_=>h
theorem Fg {fd:FuncData}{p0:Str} (h:∀ a0:Value,bindArgs fd ⟨[a0],[]⟩=pure (([p0]:List Str).zip [a0])):fw fd [p0]:=fun us hl=>match us,hl with|[a0],_=>h a0
theorem GW {fd:FuncData}{p0 p1:Str} (h:∀ a0 a1:Value,bindArgs fd ⟨[a0,a1],[]⟩=pure (([p0,p1]:List Str).zip [a0,a1])):fw fd [p0,p1]:=fun us hl=>match us,hl with|[a0,a1],_=>h a0 a1
theorem GF {fd:FuncData}{p0 p1 p2:Str} (h:∀ a0 a1 a2:Value,bindArgs fd ⟨[a0,a1,a2],[]⟩=pure (([p0,p1,p2]:List Str).zip [a0,a1,a2])):fw fd [p0,p1,p2]:=fun us hl=>match us,hl with|[a0,a1,a2],_=>h a0 a1 a2
theorem FO {fd:FuncData}{p0 p1 p2 p3:Str} (h:∀ a0 a1 a2 a3:Value,bindArgs fd ⟨[a0,a1,a2,a3],[]⟩=pure (([p0,p1,p2,p3]:List Str).zip [a0,a1,a2,a3])):fw fd [p0,p1,p2,p3]:=fun us hl=>match us,hl with|[a0,a1,a2,a3],_=>h a0 a1 a2 a3
theorem GV {fd:FuncData}{p0 p1 p2 p3 p4:Str} (h:∀ a0 a1 a2 a3 a4:Value,bindArgs fd ⟨[a0,a1,a2,a3,a4],[]⟩=pure (([p0,p1,p2,p3,p4]:List Str).zip [a0,a1,a2,a3,a4])):fw fd [p0,p1,p2,p3,p4]:=fun us hl=>match us,hl with|[a0,a1,a2,a3,a4],_=>h a0 a1 a2 a3 a4
noncomputable def fq (K:PySem.W.Frag) (mg:Str->Option Value) (x:Str) (st:Stmt) (ps:List Str):Prop:=∃ f fd,cJ K x x st f fd/\mg x=some (.ref f)/\fw fd ps
noncomputable def pF (K:PySem.W.Frag) (C:Addr) (m qual:Str) (st:Stmt) (ps:List Str):Prop:=∃ f fd,cJ K m qual st f fd/\Meth K C m f/\fw fd ps
noncomputable def A_ (K:PySem.W.Frag) (C:Addr) (qual:Str) (st:Stmt) (ps:List Str):Prop:=∃ f fd,cJ K "__init__" qual st f fd/\Mk K C f/\fw fd ps
section
variable {x m qual:Str}{st:Stmt}{f C:Addr}{ps:List Str}{oc:Value}{od an:Option Addr}{osl:Array (Option Value)}{kV doc pm cdv ct:Value}
theorem hU (X:K.In h) (G:h.Ns mainGlobals mg) (a:PySem.W.nsIn K mainGlobals x=some (some (.ref f))) (l:K.lookup f=some ⟨oc,od,.func (PySem.W.fnOf x x (dA st) (cQ st) (ao st) .none kV doc pm an cdv ct),osl⟩)
  (c:PySem.W.codeIn K cdv x=true) (k:PySem.W.keepIn K (.ref f)=true) (b:fw (PySem.W.fnOf x x (dA st) (cQ st) (ao st) .none kV doc pm an cdv ct) ps):fq K mg x st ps :=
 ⟨_,_,pX l c k,PySem.W.mg_of X G a,b⟩
theorem i_ (a:PySem.W.findIn K (.ref C) m=some (some (.ref f))) (i:PySem.W.isFn K (.ref f)=true) (l:K.lookup f=some ⟨oc,od,.func (PySem.W.fnOf m qual (dA st) (cQ st) (ao st) .none kV doc pm an cdv ct),osl⟩)
  (c:PySem.W.codeIn K cdv qual=true) (k:PySem.W.keepIn K (.ref f)=true) (b:fw (PySem.W.fnOf m qual (dA st) (cQ st) (ao st) .none kV doc pm an cdv ct) ps):pF K C m qual st ps :=
 ⟨_,_,pX l c k,⟨a,i,k⟩,b⟩
theorem lZ (a:PySem.W.findIn K (.ref C) "__init__"=some (some (.ref f))) (i:PySem.W.isFn K (.ref f)=true) (l:K.lookup f=some ⟨oc,od,.func (PySem.W.fnOf "__init__" qual (dA st) (cQ st) (ao st) .none kV doc pm an cdv ct),osl⟩)
  (c:PySem.W.codeIn K cdv qual=true) (k:PySem.W.keepIn K (.ref f)=true) (mk:PySem.W.makesIn K C=true) (kc:PySem.W.keepIn K (.ref C)=true) (b:fw (PySem.W.fnOf "__init__" qual (dA st) (cQ st) (ao st) .none kV doc pm an cdv ct) ps):A_ K C qual st ps :=
 ⟨_,_,pX l c k,⟨mk,a,i,kc⟩,b⟩
theorem fq.df {CX:kQ}{k:Nat}{sp:Sp} (t:fq K mg x st ps) (h:∀ f fd,cJ K x x st f fd->aR P w K mg base CX k f fd ps sp):bU P w K mg base CX k x ps sp:=by
 obtain⟨f,fd,F,hm,hb⟩:=t;exact⟨f,fd,h f fd F,hm,F.kp,.all hb⟩
theorem pF.df {CX:kQ}{k:Nat}{sp:Sp} (t:pF K C m qual st ps) (cl:pH K C) (h:∀ f fd,cJ K m qual st f fd->aR P w K mg base CX k f fd ps sp):ck P w K mg base CX k C m ps sp:=by
 obtain⟨f,fd,F,hm,hb⟩:=t;exact⟨f,fd,h f fd F,cl,hm,.all hb⟩
theorem A_.df {k:Nat}{sp:Sp} (t:A_ K C qual st ps) (hx:mg x=some (.ref C)) (h:∀ f fd,cJ K "__init__" qual st f fd->aR P w K mg base aT k f fd ps sp):gd P w K mg base k x C ps sp:=by
 obtain⟨f,fd,F,hm,hb⟩:=t;exact⟨f,fd,h f fd F,hm,hx,.all hb⟩
end
theorem iF {x:Str}{C:Addr}{bmB:List Value}{newId:String} (I:K.In base) (hm:mg x=some (.ref C)) (q:PySem.W.excIn K C bmB newId=true):OwnCls x C bmB newId mg base:=by
 refine⟨hm,?_⟩;unfold PySem.W.excIn at q
 split at q
 case h_2=>cases q
 case h_1 dd c sl at_ =>
  split at q
  case h_2=>cases q
  case h_1 D tl s0 s1 s2 s3 nw s5 em es =>
   simp only[Bool.and_eq_true,beq_iff_eq,Bool.not_eq_true'] at q;obtain⟨⟨⟨⟨⟨e1,e2⟩,e3⟩,e4⟩,e5⟩,e6⟩:=q;subst e1 e2;obtain⟨c1,c2,c3,c4,c5,c6,c7,c8,c9,c10,c11⟩:=c;dsimp only at em e3 e5 e6;subst em e3
   cases sl with
   | mk l =>
    dsimp only at es;subst es;exact⟨tl,c4,c1,c5,c2,c6,c7,c8,c9,c10,dd,s0,s1,s2,s3,s5,_,I _ _ at_,.of_isNs (PySem.W.isNs_of_in I e5),PySem.W.nsMap_none_of_in I e5 e6,PySem.W.tail_of_in I e4⟩
theorem qH {A C:Addr}{b:Bool} (e1:PySem.W.subIn K (.ref C) (.type "BaseException")=some true) (e2:PySem.W.isClsIn K C=true) (e3:PySem.W.typeIn K (.ref C)=some (.type "type")) (e4:PySem.W.subIn K (.ref A) (.ref C)=some b):PySem.W.exmOne K (.ref A) (.ref C)=some b:=by
 unfold PySem.W.exmOne;rw[e1,if_pos (by decide)];show (if ((PySem.W.clsIn K C).isSome && PySem.W.typeIn K (.ref C) == some (.type "type"))=true then PySem.W.subIn K (.ref A) (.ref C) else none)=some b;rw[e3,show (PySem.W.clsIn K C).isSome=true from e2,if_pos (by decide),e4]
end
end Lw
end
section
namespace Lw
open PySem L2
noncomputable abbrev Nm:=List Nat
section
variable {β:Type}
noncomputable def aq (m:List (Nm×β)) (n:Nm):Option β:=(m.find? fun p=>decide (p.1=n)).map (·.2)
noncomputable def dj (m:List (Nm×β)) (n:Nm) (v:β):List (Nm×β):=if (m.any fun p=>decide (p.1=n))=true then m.map (fun p=>if p.1=n then (p.1,v) else p) else m++[(n,v)]
noncomputable def cW (m:List (Nm×β)) (n:Nm):List (Nm×β):=m.filter fun p=>decide (p.1≠n)
noncomputable def aM (f:β->V) (m:List (Nm×β)):List (Key×V):=m.map fun p=>(.inr (tx p.1),f p.2)
theorem iB {a b:Nm}:((Sum.inr (tx a):Key)=Sum.inr (tx b))↔a=b:=by
 constructor
 ·intro h;exact mI.mp (Sum.inr.inj h)
 ·rintro rfl;rfl
theorem cx (f:β->V) (n:Nm):∀ m:List (Nm×β),dr (aM f m) (.inr (tx n))=(aq m n).map f
 | []=>rfl
 | p::r=>by
  have ih:=cx f n r;unfold aM at ih ⊢;rw[List.map_cons];unfold aq at ih ⊢
  by_cases e:p.1=n
  ·rw[cR (p:=(Sum.inr (tx p.1),f p.2)) (iB.mpr e),List.find?_cons_of_pos (by simp[e])]
   rfl
  ·rw[aS (p:=(Sum.inr (tx p.1),f p.2)) (fun z=>e (iB.mp z)),List.find?_cons_of_neg (by simp[e]),ih]
theorem Ar (f:β->V) (n:Nm) (m:List (Nm×β)):((aM f m).any fun kv=>decide (kv.1=.inr (tx n)))=m.any fun p=>decide (p.1=n):=by
 unfold aM;rw[List.any_map];congr 1
 funext p
 simp only[Function.comp,decide_eq_decide];exact iB
theorem l_ (f:β->V) (n:Nm) (v:β) (m:List (Nm×β)):putK (aM f m) (.inr (tx n)) (f v)=aM f (dj m n v):=by
 unfold putK dj;rw[Ar]
 by_cases e:(m.any fun p=>decide (p.1=n))=true
 ·rw[if_pos e,if_pos e]
  unfold aM;rw[List.map_map,List.map_map];congr 1
  funext p
  simp only[Function.comp]
  by_cases h:p.1=n
  ·rw[if_pos h,if_pos (iB.mpr h)]
  ·rw[if_neg h,if_neg (fun z=>h (iB.mp z))]
 ·rw[if_neg e,if_neg e]
  unfold aM;rw[List.map_append]
  rfl
theorem mV (f:β->V) (n:Nm) (m:List (Nm×β)):iG (aM f m) (.inr (tx n))=aM f (cW m n):=by
 unfold iG cW aM;rw[List.filter_map];congr 1;congr 1
 funext p
 simp only[Function.comp,decide_eq_decide];exact not_congr iB
theorem cg (p:Nm×β) (r:List (Nm×β)) (j:Nm):aq (p::r) j=if p.1=j then some p.2 else aq r j:=by
 unfold aq
 by_cases e:p.1=j
 ·rw[if_pos e,List.find?_cons_of_pos (by simp[e])];rfl
 ·rw[if_neg e,List.find?_cons_of_neg (by simp[e])]
theorem nM (m:List (Nm×β)) (n:Nm):(m.any fun p=>decide (p.1=n))=(aq m n).isSome:=by
 induction m with
 | nil=>rfl
 | cons p r ih =>
  rw[List.any_cons,cg,ih]
  by_cases e:p.1=n
  ·simp[e]
  ·simp[e]
theorem ug (m:List (Nm×β)) (n j:Nm) (v:β):aq (m.map fun p=>if p.1=n then (p.1,v) else p) j=(aq m j).map fun x=>if j=n then v else x:=by
 induction m with
 | nil=>rfl
 | cons p r ih =>
  rw[List.map_cons,cg,cg,ih]
  by_cases e:p.1=n
  ·rw[if_pos e]
   by_cases ej:p.1=j
   ·have:j=n:=ej.symm.trans e
    simp[ej,this]
   ·simp[ej]
  ·rw[if_neg e]
   by_cases ej:p.1=j
   ·have:¬ j=n:=fun z=>e (ej.trans z)
    simp[ej,this]
   ·simp[ej]
theorem tj (m:List (Nm×β)) (n j:Nm) (v:β) (h:aq m n=none):aq (m++[(n,v)]) j=if j=n then some v else aq m j:=by
 induction m with
 | nil =>
  rw[List.nil_append,cg]
  by_cases e:n=j
  ·simp[e]
  ·have:¬ j=n:=fun z=>e z.symm
   simp[e,this]
 | cons p r ih =>
  rw[cg] at h
  by_cases e:p.1=n
  ·rw[if_pos e] at h;cases h
  ·rw[if_neg e] at h
   rw[List.cons_append,cg,cg,ih h]
   by_cases ej:p.1=j
   ·have:¬ j=n:=fun z=>e (ej.trans z)
    simp[ej,this]
   ·simp[ej]
theorem di (m:List (Nm×β)) (n j:Nm) (v:β):aq (dj m n v) j=if j=n then some v else aq m j:=by
 unfold dj;rw[nM]
 cases e:aq m n with
 | none =>
  rw[if_neg (by simp)];exact tj m n j v e
 | some x =>
  rw[if_pos (show (some x).isSome=true from rfl),ug]
  by_cases ej:j=n
  ·subst ej;simp[e]
  ·simp[ej]
theorem cZ (m:List (Nm×β)) (n j:Nm):aq (cW m n) j=if j=n then none else aq m j:=by
 induction m with
 | nil=>unfold cW aq;simp
 | cons p r ih =>
  unfold cW at ih ⊢
  by_cases e:p.1=n
  ·rw[List.filter_cons_of_neg (by simp[e]),ih,cg]
   by_cases ej:j=n
   ·simp[ej]
   ·have:¬ p.1=j:=fun z=>ej (z.symm.trans e)
    simp[ej,this]
  ·rw[List.filter_cons_of_pos (by simp[e]),cg,cg,ih]
   by_cases ej:p.1=j
   ·have:¬ j=n:=fun z=>e (ej.trans z)
    simp[ej,this]
   ·simp[ej]
theorem jK (m:List (Nm×β)) (n:Nm) (v:β):(dj m n v).length<=m.length+1:=by
 unfold dj
 split
 ·rw[List.length_map];omega
 ·rw[List.length_append];simp
theorem iw (m:List (Nm×β)) (n:Nm):(cW m n).length<=m.length:=List.length_filter_le _ _
theorem ir (f:β->V) (m:List (Nm×β)):(aM f m).length=m.length:=List.length_map _
theorem mem_keys (m:List (Nm×β)) (n:Nm):n∈m.map (·.1)↔(aq m n).isSome=true:=by
 rw[<- nM,List.any_eq_true,List.mem_map];constructor
 ·rintro ⟨p,hp,rfl⟩;exact⟨p,hp,by simp⟩
 ·rintro ⟨p,hp,e⟩;exact⟨p,hp,of_decide_eq_true e⟩
end
noncomputable abbrev Mp:=List (Nm×Nm)
noncomputable abbrev Nd:=List (Nm×Nat)
noncomputable def sV (x:Nm):V:=.str (tx x)
noncomputable def nV (i:Nat):V:=.int i
noncomputable def oV:Option Nm->V
 | none=>.non
 | some v=>sV v
theorem dQ {a b:Option Nm}:oV a=oV b↔a=b:=by
 cases a <;> cases b <;> simp[oV,sV,mI]
theorem c_ (o:Option Nm):((o.map sV).getD .non)=oV o:=by cases o <;> rfl
theorem gw (a b:Option Nm):xO (oV a) (oV b)=true:=by cases a <;> cases b <;> rfl
noncomputable def bq (l:Nm):List Nm:=(List.range (l.length+1)).map fun k=>l.take k
noncomputable def bP (m:Mp) (n:Nm):Option Nm->Mp
 | none=>cW m n
 | some v=>dj m n v
noncomputable def bF (m:Mp) (a:Nat×Nat×Nd) (b:Nm):Nat×Nat×Nd :=
 if (m.all fun p=>!b.isPrefixOf p.1)=true then (a.1,a.2.1,cW a.2.2 b) else (a.1+1,a.2.1+1,dj a.2.2 b (a.2.1+1))
structure LR where
 made:Nat
 st:Nat
 m:Mp
 nd:Nd
noncomputable def bu (m:Mp) (nd:Nd) (st:Nat) (n:Nm) (to:Option Nm):LR :=
 if aq m n=to then ⟨0,st,m,nd⟩ else
  let r:=(bq n).foldl (bF (bP m n to)) (0,st,nd)
  ⟨r.1,r.2.1,bP m n to,r.2.2⟩
theorem bX (m:Mp) (n:Nm) (to:Option Nm) (j:Nm):aq (bP m n to) j=if j=n then to else aq m j:=by
 cases to with
 | none=>exact cZ m n j
 | some v=>exact di m n j v
noncomputable def gQ (m:Mp) (nd:Nd):Prop:=∀ b:Nm,(aq nd b).isSome=true↔∃ p∈m,b <+: p.1
noncomputable def bT (a1 a2 a3:Addr) (st:Nat) (a5:Addr):List (Key×V) :=
 [(.inr ("maps":Str),.ref a1),(.inr ("nodes":Str),.ref a2),(.inr ("parents":Str),.ref a3),(.inr ("stamp":Str),nV st),(.inr ("made":Str),.ref a5)]
theorem eI {a b:Str} (h:a≠b):¬ (Sum.inr a:Key)=Sum.inr b:=fun z=>h (Sum.inr.inj z)
section
variable (a1 a2 a3:Addr) (st:Nat) (a5:Addr)
theorem Df:¬ ((Sum.inr ("maps":Str):Key)=Sum.inr ("nodes":Str)):=eI (by decide +kernel)
theorem CT:¬ ((Sum.inr ("maps":Str):Key)=Sum.inr ("parents":Str)):=eI (by decide +kernel)
theorem AN:¬ ((Sum.inr ("maps":Str):Key)=Sum.inr ("stamp":Str)):=eI (by decide +kernel)
theorem C9:¬ ((Sum.inr ("maps":Str):Key)=Sum.inr ("made":Str)):=eI (by decide +kernel)
theorem Dw:¬ ((Sum.inr ("nodes":Str):Key)=Sum.inr ("parents":Str)):=eI (by decide +kernel)
theorem AI:¬ ((Sum.inr ("nodes":Str):Key)=Sum.inr ("stamp":Str)):=eI (by decide +kernel)
theorem D0:¬ ((Sum.inr ("nodes":Str):Key)=Sum.inr ("made":Str)):=eI (by decide +kernel)
theorem BU:¬ ((Sum.inr ("parents":Str):Key)=Sum.inr ("stamp":Str)):=eI (by decide +kernel)
theorem Ek:¬ ((Sum.inr ("parents":Str):Key)=Sum.inr ("made":Str)):=eI (by decide +kernel)
theorem zE:¬ ((Sum.inr ("stamp":Str):Key)=Sum.inr ("made":Str)):=eI (by decide +kernel)
theorem cy:dr (bT a1 a2 a3 st a5) (.inr ("maps":Str))=some (.ref a1):=cR rfl
theorem dR:dr (bT a1 a2 a3 st a5) (.inr ("nodes":Str))=some (.ref a2):=by
 unfold bT;rw[aS Df];exact cR rfl
theorem nG:dr (bT a1 a2 a3 st a5) (.inr ("parents":Str))=some (.ref a3):=by
 unfold bT;rw[aS CT,aS Dw];exact cR rfl
theorem jR:dr (bT a1 a2 a3 st a5) (.inr ("stamp":Str))=some (nV st):=by
 unfold bT;rw[aS AN,aS AI,aS BU];exact cR rfl
theorem eL:dr (bT a1 a2 a3 st a5) (.inr ("made":Str))=some (.ref a5):=by
 unfold bT;rw[aS C9,aS D0,aS Ek,aS zE];exact cR rfl
theorem oe (st':Nat):putK (bT a1 a2 a3 st a5) (.inr ("stamp":Str)) (nV st')=bT a1 a2 a3 st' a5:=by
 unfold putK bT;rw[if_pos (by simp)];simp only[List.map_cons,List.map_nil,if_neg AN,if_neg AI,if_neg BU,if_pos,if_neg (Ne.symm zE)]
end
end Lw
end
namespace Lw
open PySem L2 PyProof.Rows
local macro_rules|`(tactic| walk_at "rd")=>`(tactic| simp only[↓Bn,↓zB,↓xm,↓AH,↓zH,↓Hs,↓Hh,↓Hz,↓HD,↓Hn,↓Hw,↓Hf,↓Hx,↓HF,↓Fl,↓FG,↓Fx,↓Fm,↓Gw,↓Gk,↓FY,↓F8,↓Fp,↓HG,↓FP,↓mM,↓kj,Bs,Av,Di,GS,Ep,BV,xi,pB,kx,tC,Cp,rI,xf,rU,Fy,uk,tB,Al,vZ,uT,wA,rL,mF,Cm,iK,qy,uu,kj,mM,uD,rZ,Ba,Ap,qU,wC,qu,vO,uR,Ex,Ag,FN,FW,lW,BX,GO,AA,B5,zR,mi,vy,sY,Bh,z_,pK,vi,jU,yG,L2.start,pick,mY,qX,Ef,
 CM,GX,Dq,za,CL,zg,GQ,GG,mD,zV,zu,rD,CF,Au,A2,DC,F6,CU,Cf,El,vQ,zc,DL,ou,pC,wy,DK,AF,rJoin,ze,D_,xE,DU,ER,
 List.map_cons,List.map_nil,List.length_cons,List.length_nil,List.replicate_zero,List.append_nil,List.nil_append,List.cons_append,List.getElem?_cons_zero,List.getElem?_cons_succ,List.set_cons_zero,List.set_cons_succ,Option.some.injEq,V.int.injEq,V.str.injEq,V.ref.injEq,V.bl.injEq,List.cons.injEq,reduceCtorEq,
 and_true,true_and,exists_eq_left',exists_eq_left,exists_eq_right,exists_and_left,exists_const,if_true,if_false,Nat.reduceSub,List.replicate,Nat.sub_self,Nat.reduceAdd])
seal PE mf PS PA PT Cs PG yP PI Et
variable {P:Program}{w:World}{K:PySem.W.Frag}{mg:Str->Option Value}{base:Heap}
section
noncomputable def top (i:Nat):Stmt:=PySem.Challenge.pw_eldermap_k04_whole_differences.main.body.getD i (.Pass ⟨0,0,0,0⟩)
section
noncomputable def isNm (l:List Nat):Bool:=l.all fun c=>decide (97<=c/\c<=122)
noncomputable abbrev ya:Stmt:=top 42
theorem Ds:az ["_law_name"] ["_law_name"] (ao ya):=by walk_at "s"
noncomputable def wJ:Sp:=fun vs H Q _=>∃ l:List Nat,vs=[.str (tx l)]/\l.length<=1000/\∀ H',Kp H H' []->Q (.bl (isNm l)) H'
theorem nA:(["_law_sign"]:List Str).Nodup:=by decide +kernel
theorem HS:(Str.ofString "abcdefghijklmnopqrstuvwxyz").cps.toList=(List.range 26).map (·+97):=by decide +kernel
theorem Bc {f:Addr}{fd:FuncData} (B:Bl mg) (F:cJ K "_law_is_name" "_law_is_name" ya f fd):aR P w K mg base aT 1 f fd ["_law_name"] wJ:=by
 have sc:=Ds;walk_at "f"
 ·obtain⟨x,rfl,_⟩:=h
  rfl
 ·obtain⟨l,rfl,hx,k⟩:=h
  have hu0:=hr.cL;have hs:=sizeLine_eq;refine⟨_,(ak (aw (fV (vk hu0) (cI (N':=["_law_sign"]) (ix:=[none]) rfl ?S (qE (pv 0)) (fun cl C fp s H=>(aI (i:=0) nA rfl (by walk_at "o"))) (fun cl C fp s H=>(eY (aG mO (pv 0) au (by with_unfolding_all rfl)))) (fun cl C fp s H=>(pv 0))) (bw ae) (aH _)))),?_⟩
  case S=>exact nL.is (N:=["_law_name"]) (osc:=ao ya) (by decide +kernel)
  walk_at "rd";refine kR (fun c=>if 97<=c/\c<=122 then none else some (sgn c)) (by omega) (fun c hc R R' h1 h2=>?_) ?_
  ·refine⟨Wk.set rfl,?_⟩
   walk_at "rd";refine⟨⟨#[c]⟩,rfl,?_⟩;rw[show (!!(Builtin.Str.occurrences (Str.ofString "abcdefghijklmnopqrstuvwxyz") ⟨#[c]⟩ 0 (Str.ofString "abcdefghijklmnopqrstuvwxyz").length 1).isEmpty)=!decide (97<=c/\c<=122) by
    rw[StrLaws.found_one,HS];congr 1;rw[decide_eq_decide];simp only[List.mem_map,List.mem_range];constructor
    ·rintro ⟨a,ha,rfl⟩;omega
    ·intro h;exact⟨c - 97,by omega,by omega⟩]
   by_cases hcc:97<=c/\c<=122
   ·rw[if_neg (by simp[hcc])];exact h2 (if_pos hcc)
   ·rw[if_pos (by simp[hcc])];exact h1 _ (if_neg hcc)
  ·intro d hd
   refine⟨Nat.zero_le _,fun p hp=>⟨_,aP.of (by rw[ah (ag (aa) hp),aa]),aP.of aa,?_⟩⟩;have e:decide (l.filterMap (fun c=>if 97<=c/\c<=122 then none else some (sgn c))=[])=isNm l:=by
    rw[Bool.eq_iff_iff,decide_eq_true_eq,List.filterMap_eq_nil_iff];unfold isNm;rw[List.all_eq_true];refine⟨fun h c hc=>?_,fun h c hc=>?_⟩
    ·have:=h c hc
     by_cases q:97<=c/\c<=122
     ·exact decide_eq_true q
     ·rw[if_neg q] at this;cases this
    ·exact if_pos (of_decide_eq_true (h c hc))
   rw[e];have hp':H p=none:=by
    cases q:H p with
    | none=>rfl
    | some o=>rw[ah (ag q hd),q] at hp;cases hp
   exact k _ (((Kp.refl H []).new hd).new hp')
noncomputable abbrev xJ:Stmt:=top 37
theorem Ed:az ["_law_name"] ["_law_name"] (ao xJ):=by walk_at "s"
theorem sT:(["_law_k","_law_name"]:List Str).Nodup:=by decide +kernel
noncomputable def rE:Sp:=fun vs H Q _=>∃ l:List Nat,vs=[.str (tx l)]/\l.length<=1000/\∀ p,H p=none->Q (.ref p) (upd H p (.lst ((bq l).map fun b=>.str (tx b))))
theorem Ce {f:Addr}{fd:FuncData} (B:Bl mg) (F:cJ K "_law_beginnings_of" "_law_beginnings_of" xJ f fd):aR P w K mg base aT 1 f fd ["_law_name"] rE:=by
 have sc:=Ed;walk_at "f"
 ·obtain⟨x,rfl,_⟩:=h
  rfl
 ·obtain⟨l,rfl,hx,k⟩:=h
  have hs:=sizeLine_eq;refine⟨_,(ak (aw (cI (N':=["_law_k","_law_name"]) (ix:=[none,some 0]) rfl ?S (ip rfl B.rng (iW (aC eC (nY n_ rfl B.len boot_len (iW (pv 0) ae)) aj) ae)) (fun cl C fp s H=>(aI (i:=0) sT rfl (by walk_at "o"))) (fun cl C fp s H=>dZ) (fun cl C fp s H=>(dM qg (pv 1) fj (fh (pv 0))))))),?_⟩
  case S=>exact nL.is (N:=["_law_name"]) (osc:=ao xJ) (by decide +kernel)
  walk_at "rd";have hl:=fQ l;refine⟨_,⟨by omega,rfl⟩,by omega,by omega,?_⟩;rw[hl,show ((l.length:Int)+1).toNat=l.length+1 by omega];refine ox (fun i=>some (.str (tx (l.take i)))) (by omega) (fun i hi R R' h1 h2=>?_) ?_
  ·refine⟨Wk.set rfl,?_⟩
   walk_at "rd";rw[jk (by omega)];exact⟨by rw[fQ,List.length_take];omega,h1 _ rfl⟩
  ·intro d hd
   have e:(List.range (l.length+1)).filterMap (fun i=>some (V.str (tx (l.take i))))=(bq l).map fun b=>V.str (tx b):=by
    unfold bq;rw[List.filterMap_eq_map',List.map_map]
    rfl
   rw[e];exact k d hd
end
end
section
section
noncomputable abbrev yi:Stmt:=top 38
theorem DY:az ["_law_hall","_law_values","_law_nodes","_law_name","_law_to","_law_made","_law_part"] ["_law_hall","_law_values","_law_nodes","_law_name","_law_to"] (ao yi):=by walk_at "s"
theorem oF:(["_law_one","_law_part"]:List Str).Nodup:=by decide +kernel
noncomputable def sj:Sp:=fun vs H Q _=>∃ (h v q a1 a2 a3 a5:Addr) (m:Mp) (nd:Nd) (st:Nat) (n:Nm) (to:Option Nm),vs=[.ref h,.ref v,.ref q,sV n,oV to] /\
 H h=some (.dK (bT a1 a2 a3 st a5))/\H v=some (.dK (aM sV m))/\H q=some (.dK (aM nV nd))/\h≠v/\h≠q/\v≠q/\n.length<=1000/\m.length<=1000/\nd.length<=1000000 /\
 (aq m n≠to->∀ b∈bq n,((bP m n to).all fun p=>!b.isPrefixOf p.1)=true->(aq nd b).isSome=true) /\
 ∀ H',H' h=some (.dK (bT a1 a2 a3 (bu m nd st n to).st a5))->H' v=some (.dK (aM sV (bu m nd st n to).m))->H' q=some (.dK (aM nV (bu m nd st n to).nd))->Kp H H' [h,v,q]->Q (nV (bu m nd st n to).made) H'
theorem oU (n:Nm) (i:Nat) (b:Nm) (h:(bq n)[i]?=some b):b=n.take i/\i<=n.length:=by
 unfold bq at h;rw[List.getElem?_map] at h
 cases e:(List.range (n.length+1))[i]? with
 | none=>rw[e] at h;cases h
 | some j =>
  rw[e] at h;obtain⟨hi,hj⟩:=List.getElem?_eq_some_iff.mp e;rw[List.length_range] at hi;rw[List.getElem_range] at hj;subst hj;exact⟨(Option.some.inj h).symm,by omega⟩
theorem vF (n:Nm) (i:Nat) (hi:i<=n.length):n.take i∉(bq n).take i:=by
 intro hm;obtain⟨j,hj,e⟩:=List.getElem_of_mem hm;rw[List.length_take] at hj;have hj':j<i:=by omega
 have e2:(bq n)[j]?=some (n.take i):=by
  rw[<- e,List.getElem_take];exact List.getElem?_eq_getElem _
 obtain⟨e3,_⟩:=oU n j _ e2;have:=congrArg List.length e3;rw[List.length_take,List.length_take] at this;omega
theorem jY (n:Nm):(bq n).length=n.length+1:=by unfold bq;simp
theorem eZ (M:Mp) (b:Nm):∀ (l:List Nm) (a:Nat×Nat×Nd),b∉l->aq (l.foldl (bF M) a).2.2 b=aq a.2.2 b
 | [],_,_=>rfl
 | c::l,a,h=>by
  rw[List.foldl_cons,eZ M b l _ fun z=>h (List.mem_cons_of_mem _ z)];have hc:¬ b=c:=fun z=>h (by rw[z];exact List.mem_cons_self);unfold bF
  split
  ·rw[cZ,if_neg hc]
  ·rw[di,if_neg hc]
theorem ju (M:Mp):∀ (l:List Nm) (a:Nat×Nat×Nd),(l.foldl (bF M) a).2.2.length<=a.2.2.length+l.length
 | [],_=>Nat.le_refl _
 | c::l,a=>by
  rw[List.foldl_cons,List.length_cons];refine Nat.le_trans (ju M l _) ?_;unfold bF
  split
  ·have:=iw a.2.2 c
   dsimp only;omega
  ·have:=jK a.2.2 c (a.2.1+1)
   dsimp only;omega
theorem Du (m:Mp):(aM sV m).map (fun kv=>kV kv.1)=m.map fun p=>V.str (tx p.1):=by
 unfold aM;rw[List.map_map]
 rfl
noncomputable def CC (b:Nm):V->Option V
 | .str y=>if b.isPrefixOf y.cps.toList=true then some (.str y) else none
 | _=>none
theorem iY (b y:Nm):CC b (.str (tx y))=if b.isPrefixOf y=true then some (.str (tx y)) else none:=by
 show (if b.isPrefixOf (tx y).cps.toList=true then _ else _)=_;rw[fg]
theorem r_ (b:Nm) (m:Mp):(m.map fun p=>V.str (tx p.1)).filterMap (CC b)=[]↔(m.all fun p=>!b.isPrefixOf p.1)=true:=by
 rw[List.filterMap_eq_nil_iff,List.all_eq_true];constructor
 ·intro h p hp
  have:=h _ (List.mem_map.mpr ⟨p,hp,rfl⟩);rw[iY] at this
  cases e:b.isPrefixOf p.1 with
  | true=>rw[e,if_pos rfl] at this;cases this
  | false=>rfl
 ·intro h y hy
  obtain⟨p,hp,rfl⟩:=List.mem_map.mp hy;have:=h p hp;rw[iY]
  cases e:b.isPrefixOf p.1 with
  | true=>rw[e] at this;cases this
  | false=>rfl
theorem _root_.L2.bN.k' {H:Hp}{a:Addr}{kvs:List (Key×V)}{k:Key}{o:Option V} (e:H a=some (.dK kvs)) (h:dr kvs k=o):bN H a (kV k) o:=h ▸ bN.k e
structure Gv (H:Hp) (h v q p a1 a2 a3 a5:Addr) (n:Nm) (M:Mp) (to:V) (acc:Nat×Nat×Nd) (σ:L2.St) (H2:Hp):Prop where
 ls:∃ part,σ=[some (.ref h),some (.ref v),some (.ref q),some (sV n),some to,some (nV acc.1),part]
 lp:H2 p=some (.lst ((bq n).map fun b=>V.str (tx b)))
 lh:H2 h=some (.dK (bT a1 a2 a3 acc.2.1 a5))
 lv:H2 v=some (.dK (aM sV M))
 lq:H2 q=some (.dK (aM nV acc.2.2))
 kp:Kp H H2 [h,v,q]
theorem BR {f:Addr}{fd:FuncData} (B:Bl mg) (c_law_beginnings_of:bU P w K mg base aT 1 "_law_beginnings_of" ["_law_name"] rE) (F:cJ K "_law_set" "_law_set" yi f fd) :
  aR P w K mg base aT 2 f fd ["_law_hall","_law_values","_law_nodes","_law_name","_law_to"] sj:=by
 have sc:=DY;walk_at "f"
 ·obtain⟨_,_,_,_,_,_,_,_,_,_,_,_,rfl,_⟩:=h
  rfl
 ·obtain⟨h,v,q,a1,a2,a3,a5,m,nd,st,n,to,rfl,hh,hv,hq,n1,n2,n3,l1,l2,l3,hpop,k⟩:=h
  have hu0:=hr.cL;have hu:=d_ hr;have hs:=sizeLine_eq;refine⟨_,(af (eX (aG dg (b_ hu (pv 1) (pv 3) ⟨rfl,rfl,rfl,rfl⟩) (pv 4) (aH _)) (ak (aw aj)) aJ)
   (af (dW (eX (dN (fB (pv 4))) (ak (aZ (ot (pv 1) (pv 3) ⟨rfl,rfl,rfl,rfl⟩))) (ak (gF hu (pv 1) (pv 3) (pv 4) rfl))))
   (af (aA (i:=5) sc.nd rfl (by walk_at "o") aj)
   (af (dv PassesOwn.never rfl (bI K (bJ c_law_beginnings_of hr (ai (pv 3) ae))) (aI (i:=6) sc.nd rfl (by walk_at "o")) (ak (eX (aG (xQ K hu0) (cI (N':=["_law_one","_law_part"]) (ix:=[none,some 6]) rfl ?S1 (bI K (eO (dI rfl) rfl B.lst boot_list (ai (pv 1) ae))) (fun cl C fp s H=>(aI (i:=0) oF rfl (by walk_at "o"))) (fun cl C fp s H=>(eY (cF (eG K PySem.F.plainAttrs_str PySem.F.slot_str_startswith PySem.F.type_str_startswith ky (pv 0) (ai (pv 1) ae))))) (fun cl C fp s H=>(pv 0))) (bw ae) (aH _)) (ak (aZ (ot (pv 2) (pv 6) ⟨rfl,rfl,rfl,rfl⟩))) (af (aA (i:=5) sc.nd rfl (by walk_at "o") (aC eC (pv 5) aj))
     (af (gF hu (pv 0) au (aC eC (bB hu (pv 0) au (fun _ _=>rfl)) aj) rfl)
     (ak (gF hu (pv 2) (pv 6) (bB hu (pv 0) au (fun _ _=>rfl)) rfl)))))))
   (ak (aw (pv 5))))))),?_⟩
  case S1=>exact nL.is (N:=["_law_hall","_law_values","_law_nodes","_law_name","_law_to","_law_made","_law_part"]) (osc:=ao yi) (by decide +kernel)
  walk_at "rd";refine⟨.inl ⟨_,.inl hv⟩,_,bN.k (k:=.inr (tx n)) hv,?_⟩;rw[cx,c_];refine⟨gw _ _,?_⟩
  by_cases e:aq m n=to
  ·have e2:bu m nd st n to=⟨0,st,m,nd⟩:=by unfold bu;rw[if_pos e]
   rw[e2] at k;rw[if_pos (by simp[e])];exact k H hh hv hq (Kp.refl _ _)
  ·have e2:bu m nd st n to=⟨((bq n).foldl (bF (bP m n to)) (0,st,nd)).1,((bq n).foldl (bF (bP m n to)) (0,st,nd)).2.1,bP m n to,((bq n).foldl (bF (bP m n to)) (0,st,nd)).2.2⟩:=by unfold bu;rw[if_neg e]
   rw[e2] at k;have hpop:=hpop e;rw[if_neg (by simp[dQ,e])];have M1:∀ o:HO,Kp H (upd H v o) [h,v,q]:=fun o=>(Kp.refl H _).set (by simp);have E1:∀ o:HO,upd H v o h=some (.dK (bT a1 a2 a3 st a5))/\upd H v o q=some (.dK (aM nV nd)):=fun o=>⟨by rw[ah n1];exact hh,by rw[ah (Ne.symm n3)];exact hq⟩;have M2:(bP m n to).length<=1001:=by
    cases to with
    | none=>have:=iw m n;show (cW m n).length<=_;omega
    | some x=>have:=jK m n x;show (dj m n x).length<=_;omega
   refine⟨fun σ' H1=>σ'=[some (.ref h),some (.ref v),some (.ref q),some (.str (tx n)),some (oV to),none,none]/\H1 h=some (.dK (bT a1 a2 a3 st a5))/\H1 q=some (.dK (aM nV nd))/\H1 v=some (.dK (aM sV (bP m n to)))/\Kp H H1 [h,v,q],?_,?_⟩
   ·cases to with
    | none =>
     rw[if_pos (by simp[oV])];have hsome:∃ x,aq m n=some x:=by
      cases q:aq m n with
      | none=>exact absurd q e
      | some x=>exact⟨x,rfl⟩
     obtain⟨x,hx⟩:=hsome;refine⟨.inl ⟨_,.inl hv⟩,_,hv,.inr (tx n),rfl,sV x,by rw[cx,hx];rfl,?_⟩;rw[mV];obtain⟨hh1,hq1⟩:=E1 (.dK (aM sV (cW m n)));exact⟨rfl,hh1,hq1,aa,M1 _⟩
    | some x =>
     rw[if_neg (by simp[oV,sV])];refine⟨_,mJ.k (k:=.inr (tx n)) hv (by rw[ir];omega),?_⟩;have pe:upd H v (.dK (putK (aM sV m) (.inr (tx n)) (oV (some x))))=upd H v (.dK (aM sV (dj m n x))):=by
      show upd H v (.dK (putK (aM sV m) (.inr (tx n)) (sV x)))=_;rw[l_]
     rw[pe];obtain⟨hh1,hq1⟩:=E1 (.dK (aM sV (dj m n x)));exact⟨rfl,hh1,hq1,aa,M1 _⟩
   rintro _ H1 ⟨rfl,hh1,hq1,hv1,kp1⟩;walk_at "rd";refine⟨n,rfl,l1,fun p hp=>⟨p,rfl,⟨_,aP.of aa⟩,?_⟩⟩;have pne:∀ {a:Addr}{o:HO},H1 a=some o->a≠p:=fun ha=>ag ha hp;refine cC (K:=K) (a:=p) (xs:=(bq n).map fun b=>V.str (tx b)) (fun i σ H2=>Gv H h v q p a1 a2 a3 a5 n (bP m n to) (oV to) (((bq n).take i).foldl (bF (bP m n to)) (0,st,nd)) σ H2)
    ⟨⟨none,rfl⟩,aa,by rw[ah (pne hh1)];exact hh1,by rw[ah (pne hv1)];exact hv1,by rw[ah (pne hq1)];exact hq1,kp1.new (kp1.free hp (by
     simp only[List.mem_cons,List.not_mem_nil,or_false,not_or];exact⟨Ne.symm (pne hh1),Ne.symm (pne hv1),Ne.symm (pne hq1)⟩))⟩
    (fun i σ H2 I=>aP.of I.lp) ?_ ?_
   ·rintro i y σ H2 hi ⟨⟨part,rfl⟩,hp2,hh2,hv2,hq2,kp2⟩
    generalize hacc:((bq n).take i).foldl (bF (bP m n to)) (0,st,nd)=acc at hh2 hq2 ⊢;rw[List.getElem?_map] at hi
    cases eb:(bq n)[i]? with
    | none=>rw[eb] at hi;cases hi
    | some bb =>
     rw[eb] at hi;have hy:y=V.str (tx bb):=(Option.some.inj hi).symm;subst hy;obtain⟨eb2,hin⟩:=oU n i bb eb;have enext:((bq n).take (i+1)).foldl (bF (bP m n to)) (0,st,nd)=bF (bP m n to) acc bb:=by
      rw[List.take_add_one,eb,List.foldl_append,hacc]
      rfl
     walk_at "rd";refine⟨_,.inl hv2,fun p1 hp1=>⟨⟨_,aP.of aa⟩,?_⟩⟩;rw[Du];refine eU (xs:=(bP m n to).map fun p=>V.str (tx p.1)) (CC bb) (aP.of aa) (by rw[List.length_map];omega) (fun y hy R R' g1 g2=>?_) ?_
     ·obtain⟨pp,hpp,rfl⟩:=List.mem_map.mp hy
      refine⟨Wk.set rfl,?_⟩;walk_at "rd";refine⟨rfl,?_⟩;rw[pQ]
      cases eq:bb.isPrefixOf pp.1 with
      | true=>rw[if_pos rfl];exact g1 _ (by rw[iY,eq];rfl)
      | false=>rw[if_neg Bool.false_ne_true];exact g2 (by rw[iY,eq];rfl)
     ·intro d hd
      refine⟨Nat.zero_le _,fun p2 hpp2=>⟨_,aP.of (by rw[ah (ag aa hpp2),aa]),aP.of aa,?_⟩⟩;have F4:∀ a o,H2 a=some o->upd (upd (upd H2 p1 (.lst ((bP m n to).map fun p=>V.str (tx p.1)))) d (.lst (((bP m n to).map fun p=>V.str (tx p.1)).filterMap (CC bb)))) p2 (.lst []) a=some o:=fun a o ha=>by
       have x1:upd H2 p1 (.lst ((bP m n to).map fun p=>V.str (tx p.1))) a=some o:=by rw[ah (ag ha hp1)];exact ha
       have x2:upd (upd H2 p1 (.lst ((bP m n to).map fun p=>V.str (tx p.1)))) d (.lst (((bP m n to).map fun p=>V.str (tx p.1)).filterMap (CC bb))) a=some o:=by rw[ah (ag x1 hd)];exact x1
       rw[ah (ag x2 hpp2)];exact x2
      generalize upd (upd (upd H2 p1 (.lst ((bP m n to).map fun p=>V.str (tx p.1)))) d (.lst (((bP m n to).map fun p=>V.str (tx p.1)).filterMap (CC bb)))) p2 (.lst [])=H4 at F4 ⊢;have hp4:=F4 _ _ hp2;have hh4:=F4 _ _ hh2;have hv4:=F4 _ _ hv2;have hq4:=F4 _ _ hq2;have kp4:Kp H H4 [h,v,q]:=fun c o e n=>F4 _ _ (kp2 c o e n);have pq:p≠q:=Ne.symm (pne hq1);have ph:p≠h:=Ne.symm (pne hh1);have hl2:acc.2.2.length<=nd.length+(n.length+1):=by
       have:=ju (bP m n to) ((bq n).take i) (0,st,nd);rw[hacc,List.length_take,jY] at this;have e0:((0,st,nd):Nat×Nat×Nd).2.2.length=nd.length:=rfl;omega
      by_cases em:((bP m n to).all fun p=>!bb.isPrefixOf p.1)=true
      ·have estep:bF (bP m n to) acc bb=(acc.1,acc.2.1,cW acc.2.2 bb):=by unfold bF;rw[if_pos em]
       have hsome:∃ z,aq acc.2.2 bb=some z:=by
        rw[<- hacc,eZ _ _ _ _ (by rw[eb2];exact vF n i hin)];have:=hpop bb (List.mem_of_getElem? eb) em;exact Option.isSome_iff_exists.mp this
       obtain⟨z,hz⟩:=hsome;rw[if_pos (decide_eq_true ((r_ _ _).mpr em))];refine⟨.inl ⟨_,.inl hq4⟩,_,hq4,.inr (tx bb),rfl,nV z,by rw[cx,hz];rfl,?_⟩;rw[mV];rw[enext,estep];exact⟨⟨_,rfl⟩,by rw[ah pq];exact hp4,by rw[ah n2];exact hh4,by rw[ah n3];exact hv4,aa,kp4.set (by simp)⟩
      ·have estep:bF (bP m n to) acc bb=(acc.1+1,acc.2.1+1,dj acc.2.2 bb (acc.2.1+1)):=by unfold bF;rw[if_neg em]
       rw[if_neg (fun z=>em ((r_ _ _).mp (of_decide_eq_true z)))];refine⟨acc.1,rfl,_,bN.k' (k:=.inr ("stamp":Str)) hh4 (jR _ _ _ _ _),acc.2.1,rfl,_,mJ.k (k:=.inr ("stamp":Str)) hh4 (by show 5<sizeLine;omega),_,bN.k' (k:=.inr ("stamp":Str)) aa (by rw[show (V.int ((acc.2.1:Int)+1))=nV (acc.2.1+1) from rfl,oe];exact jR _ _ _ _ _),_,mJ.k (k:=.inr (tx bb)) (by rw[ah (Ne.symm n2)];exact hq4) (by rw[ir];omega),?_⟩;rw[l_,enext,estep];refine⟨⟨_,rfl⟩,by rw[ah pq,ah ph];exact hp4,?_,by rw[ah n3,ah (Ne.symm n1)];exact hv4,aa,(kp4.set (by simp)).set (by simp)⟩;rw[ah n2,aa,show (V.int ((acc.2.1:Int)+1))=nV (acc.2.1+1) from rfl,oe]
   ·rintro σ H2 ⟨⟨part,rfl⟩,hp2,hh2,hv2,hq2,kp2⟩
    rw[List.length_map,List.take_length] at hh2 hq2 ⊢;walk_at "rd";exact k H2 hh2 hv2 hq2 kp2
end
end
section
local macro_rules|`(tactic| walk_at "rd")=>`(tactic| simp only[Bs,Av,BV,xi,pB,kx,tC,Cp,rI,xf,rU,Fy,uk,tB,Al,vZ,uT,wA,rL,mF,Cm,iK,qy,uu,kj,mM,uD,rZ,Ba,qU,wC,qu,uR,Ex,FN,FW,lW,BX,GO,AA,mi,vy,sY,Bh,z_,pK,vi,jU,yG,L2.start,pick,mY,
 List.map_cons,List.map_nil,List.length_cons,List.length_nil,List.replicate_zero,List.append_nil,List.nil_append,List.cons_append,List.getElem?_cons_zero,List.getElem?_cons_succ,List.set_cons_zero,List.set_cons_succ,Option.some.injEq,V.int.injEq,V.str.injEq,V.ref.injEq,V.bl.injEq,List.cons.injEq,reduceCtorEq,
 and_true,true_and,exists_eq_left',exists_eq_left,exists_eq_right,exists_and_left,exists_const,if_true,if_false,Nat.reduceSub,List.replicate,Nat.sub_self,Nat.reduceAdd])
section
noncomputable def wX (a b:Nm):Bool:=!decide (b<a)
noncomputable def ft (l:List Nm):List Nm:=l.mergeSort wX
theorem tQ (a b:Nm):(wX a b || wX b a)=true:=by
 unfold wX
 by_cases h:b<a
 ·have:¬ a<b:=fun z=>List.lt_irrefl _ (List.lt_trans h z)
  simp[this]
 ·simp[h]
theorem sO (a b c:Nm) (h1:wX a b=true) (h2:wX b c=true):wX a c=true:=by
 unfold wX at *;simp only[Bool.not_eq_true',decide_eq_false_iff_not,List.not_lt] at *;exact List.le_trans h1 h2
theorem oP {a b:Nm} (h1:¬ b<a) (h2:¬ a<b):a=b:=by
 rw[List.not_lt] at h1 h2;exact List.le_antisymm h1 h2
theorem bH (l:List Nm):(ft l).Perm l:=List.mergeSort_perm l wX
theorem jW (l:List Nm):(ft l).Pairwise fun a b=>¬ b<a:=by
 have:=List.pairwise_mergeSort (le:=wX) sO tQ l;refine this.imp fun {a b} h=>?_;unfold wX at h
 simpa using h
theorem sX {l:List Nm}{ss:List Str} (h1:ss.Perm (l.map tx)) (h2:ss.Pairwise fun a b=>¬ b.cps.toList<a.cps.toList):ss=(ft l).map tx:=by
 have e:ss=(ss.map fun x=>x.cps.toList).map tx:=by
  rw[List.map_map];exact (List.map_id' ss).symm.trans (List.map_congr_left fun x _=>gY x)
 rw[e];congr 1;refine List.Perm.eq_of_pairwise (le:=fun a b:Nm=>¬ b<a) (fun a b _ _ p q=>oP p q) ?_ (jW l) ?_
 ·rw[List.pairwise_map];exact h2
 ·refine List.Perm.trans ?_ (bH l).symm
  have:=h1.map fun x=>x.cps.toList;rw[List.map_map] at this;have e2:l.map ((fun x:Str=>x.cps.toList) ∘ tx)=l:=by
   conv=>rhs;rw[<- List.map_id' l]
   apply List.map_congr_left;intro a _;simp
  rw[e2] at this;exact this
noncomputable def dF (m1 m2:Mp):List Nm:=m1.map (·.1)++(m2.map (·.1)).filter fun n=>(aq m1 n).isNone
noncomputable def aW (m1 m2:Mp):List Nm:=(ft (dF m1 m2)).filter fun n=>decide (aq m1 n≠aq m2 n)
noncomputable def cB {β:Type} (m1 m2:List (Nm×β)):List Nm:=m1.map (·.1)++(m2.map (·.1)).filter fun n=>(aq m1 n).isNone
noncomputable def eS {β:Type} [DecidableEq β] (m1 m2:List (Nm×β)):List Nm:=(ft (cB m1 m2)).filter fun n=>decide (aq m1 n≠aq m2 n)
theorem zi {β:Type} (f:β->V) (m:List (Nm×β)):(aM f m).map (fun kv=>kV kv.1)=(m.map (·.1)).map sV:=by
 unfold aM;rw[List.map_map,List.map_map]
 rfl
structure GJ {β:Type} (f:β->V):Prop where
 inj:∀ o o':Option β,(o.map f).getD .non=(o'.map f).getD .non↔o=o'
 sc:∀ o o':Option β,xO ((o.map f).getD .non) ((o'.map f).getD .non)=true
theorem Ey:GJ sV:=⟨fun o o'=>by rw[c_,c_];exact dQ,fun o o'=>by rw[c_,c_];exact gw o o'⟩
theorem EO:GJ nV:=⟨fun o o'=>by cases o <;> cases o' <;> simp[nV,Int.ofNat_inj],fun o o'=>by cases o <;> cases o' <;> rfl⟩
noncomputable abbrev wj:Stmt:=top 39
theorem EA:az ["_law_old","_law_new","_law_names"] ["_law_old","_law_new"] (ao wj):=by walk_at "s"
theorem oG:(["_law_name","_law_old"]:List Str).Nodup:=by decide +kernel
theorem iS:(["_law_name","_law_old","_law_new"]:List Str).Nodup:=by decide +kernel
noncomputable def lK:Sp:=fun vs H Q _=>∃ (a b:Addr) (β:Type) (_:DecidableEq β) (f:β->V) (m1 m2:List (Nm×β)),vs=[.ref a,.ref b]/\H a=some (.dK (aM f m1))/\H b=some (.dK (aM f m2))/\m1.length<=500000/\m2.length<=500000/\GJ f /\
 ∀ p H',H p=none->H' p=some (.lst ((eS m1 m2).map sV))->Kp H H' []->Q (.ref p) H'
theorem qF {a b:Addr}{m1 m2:Mp}{H:Hp}{Q:VK}{E:_} (ha:H a=some (.dK (aM sV m1))) (hb:H b=some (.dK (aM sV m2))) (l1:m1.length<=500000) (l2:m2.length<=500000)
  (k:∀ p H',H p=none->H' p=some (.lst ((aW m1 m2).map sV))->Kp H H' []->Q (.ref p) H'):lK [.ref a,.ref b] H Q E:=⟨a,b,Nm,inferInstance,sV,m1,m2,rfl,ha,hb,l1,l2,Ey,k⟩
theorem AD {a b:Addr}{m1 m2:Nd}{H:Hp}{Q:VK}{E:_} (ha:H a=some (.dK (aM nV m1))) (hb:H b=some (.dK (aM nV m2))) (l1:m1.length<=500000) (l2:m2.length<=500000)
  (k:∀ p H',H p=none->H' p=some (.lst ((eS m1 m2).map sV))->Kp H H' []->Q (.ref p) H'):lK [.ref a,.ref b] H Q E:=⟨a,b,Nat,inferInstance,nV,m1,m2,rfl,ha,hb,l1,l2,EO,k⟩
theorem Ak {f:Addr}{fd:FuncData} (B:Bl mg) (F:cJ K "_law_changes" "_law_changes" wj f fd):aR P w K mg base aT 1 f fd ["_law_old","_law_new"] lK:=by
 have sc:=EA;walk_at "f"
 ·obtain⟨_,_,_,_,_,_,_,rfl,_⟩:=h
  rfl
 ·obtain⟨a,b,β,dβ,f,m1,m2,rfl,ha,hb,l1,l2,fo,k⟩:=h
  have hu:=d_ hr;have hs:=sizeLine_eq;refine⟨_,(af (aA (i:=2) sc.nd rfl (by walk_at "o") (bg (mS K) rfl B.srt boot_sorted (ai (aC zL (eO (dI rfl) rfl B.lst boot_list (ai (pv 0) ae)) (cI (N':=["_law_name","_law_old"]) (ix:=[none,some 0]) rfl ?S1 (bI K (eO (dI rfl) rfl B.lst boot_list (ai (pv 1) ae))) (fun cl C fp s H=>(aI (i:=0) oG rfl (by walk_at "o"))) (fun cl C fp s H=>(eY (dN (tZ hu (pv 0) (pv 1))))) (fun cl C fp s H=>(pv 0)))) ae)))
   (ak (aw (cI (N':=["_law_name","_law_old","_law_new"]) (ix:=[none,some 0,some 1]) rfl ?S2 (bI K (pv 2)) (fun cl C fp s H=>(aI (i:=0) iS rfl (by walk_at "o"))) (fun cl C fp s H=>(eY (aG dY (b_ hu (pv 1) (pv 0) ⟨rfl,rfl,rfl,rfl⟩) (b_ hu (pv 2) (pv 0) ⟨rfl,rfl,rfl,rfl⟩) (aH _)))) (fun cl C fp s H=>(pv 0)))))),?_⟩
  case S1=>exact nL.is (N:=["_law_old","_law_new","_law_names"]) (osc:=ao wj) (by decide +kernel)
  case S2=>exact nL.is (N:=["_law_old","_law_new","_law_names"]) (osc:=ao wj) (by decide +kernel)
  walk_at "rd";refine⟨_,.inl ha,fun p hp=>⟨_,.inl (by rw[ah (ag hb hp)];exact hb),fun p1 hp1=>⟨⟨_,aP.of aa⟩,?_⟩⟩⟩;rw[zi,zi] at *;have F1:=((aV.refl H).new (o:=.lst ((m1.map (·.1)).map sV)) hp).new (o:=.lst ((m2.map (·.1)).map sV)) hp1;have P1:=((aV.refl _).new (o:=.lst ((m2.map (·.1)).map sV)) hp1) p _ (aa (H:=H) (o:=.lst ((m1.map (·.1)).map sV)));have P2:=aa (H:=upd H p (.lst ((m1.map (·.1)).map sV))) (a:=p1) (o:=.lst ((m2.map (·.1)).map sV));generalize upd (upd H p (.lst ((m1.map (·.1)).map sV))) p1 (.lst ((m2.map (·.1)).map sV))=H1 at F1 P1 P2 ⊢;refine eU (iL fun n=>(aq m1 n).isNone) (aP.of P2) (by rw[List.length_map,List.length_map];omega) (fun y hy R R' g1 g2=>?_) ?_
  ·obtain⟨nm,hnm,rfl⟩:=List.mem_map.mp hy
   refine⟨Wk.set rfl,?_⟩;simp only[tB,mD,kx,pick,List.map_cons,List.map_nil,List.set_cons_zero,List.getElem?_cons_zero,List.getElem?_cons_succ,Option.some.injEq,exists_eq_left',V.ref.injEq,V.bl.injEq];refine⟨a,_,rfl,bN.k (k:=.inr (tx nm)) (F1 _ _ ha),?_⟩;rw[cx]
   cases e:aq m1 nm with
   | none=>exact g1 _ (by show iL _ (.str (tx nm))=_;rw[fY,e];rfl)
   | some z=>exact g2 (by show iL _ (.str (tx nm))=_;rw[fY,e];rfl)
  ·intro d hd
   rw[show (m2.map (·.1)).map sV=(m2.map (·.1)).map fun y=>V.str (tx y) from rfl,lj] at *;have h1:((m2.map (·.1)).filter fun n=>(aq m1 n).isNone).length<=m2.length:=by
    have:=List.length_filter_le (fun n=>(aq m1 n).isNone) (m2.map (·.1));rw[List.length_map] at this;exact this
   have ll:(cB m1 m2).length<=1000000:=by
    unfold cB;rw[List.length_append,List.length_map];exact Nat.le_trans (Nat.add_le_add l1 (Nat.le_trans h1 l2)) (by decide)
   refine⟨p,d,_,_,rfl,rfl,by rw[ah (ag P1 hd)];exact P1,aa,by
    simp only[List.length_map];exact Nat.le_trans (Nat.add_le_add (Nat.le_refl _) h1) (by omega),fun p2 hp2=>⟨p2,(cB m1 m2).map tx,rfl,aP.of (by
     rw[aa];unfold cB;simp only[List.map_append,List.map_map]
     rfl),fun p3 ss' hp3 sp1 sp2=>?_⟩⟩
   rw[sX sp1 sp2];refine⟨p3,rfl,⟨_,aP.of aa⟩,?_⟩;have F2:=((((aV.refl H1).new (o:=.lst (((m2.map (·.1)).filter fun n=>(aq m1 n).isNone).map fun y=>V.str (tx y))) hd).new (o:=.lst ((m1.map (·.1)).map sV++(((m2.map (·.1)).filter fun n=>(aq m1 n).isNone).map fun y=>V.str (tx y)))) hp2).new (o:=.lst (((ft (cB m1 m2)).map tx).map V.str)) hp3);have P3:=aa (H:=upd (upd H1 d (.lst (((m2.map (·.1)).filter fun n=>(aq m1 n).isNone).map fun y=>V.str (tx y)))) p2 (.lst ((m1.map (·.1)).map sV++(((m2.map (·.1)).filter fun n=>(aq m1 n).isNone).map fun y=>V.str (tx y))))) (a:=p3) (o:=.lst (((ft (cB m1 m2)).map tx).map V.str));generalize upd (upd (upd H1 d _) p2 _) p3 (.lst (((ft (cB m1 m2)).map tx).map V.str))=H3 at F2 P3 ⊢;rw[List.map_map] at P3;have F3:=F1.trans F2;refine eU (iL fun n=>decide (aq m1 n≠aq m2 n)) (aP.of P3) (by rw[List.length_map,(bH _).length_eq];omega) (fun y hy R R' g1 g2=>?_) ?_
   ·obtain⟨nm,hnm,rfl⟩:=List.mem_map.mp hy
    refine⟨Wk.set rfl,?_⟩;walk_at "rd";refine⟨.inl ⟨_,.inl (F3 _ _ ha)⟩,_,bN.k (k:=.inr (tx nm)) (F3 _ _ ha),.inl ⟨_,.inl (F3 _ _ hb)⟩,_,bN.k (k:=.inr (tx nm)) (F3 _ _ hb),?_⟩;rw[cx,cx];refine⟨fo.sc _ _,?_⟩;have g1:iL (fun n=>decide (aq m1 n≠aq m2 n)) (.str (tx nm))=some (.str (tx nm))->R (.str (tx nm)) H3:=g1 _;have g2:iL (fun n=>decide (aq m1 n≠aq m2 n)) (.str (tx nm))=none->R' H3:=g2;rw[fY] at g1 g2
    by_cases e:aq m1 nm=aq m2 nm
    ·rw[if_neg (by simp[e])];exact g2 (by simp[e])
    ·rw[if_pos (by simp[fo.inj,e])];exact g1 (by simp[e])
   ·intro d2 hd2
    rw[show (ft (cB m1 m2)).map (V.str ∘ tx)=(ft (cB m1 m2)).map fun y=>V.str (tx y) from rfl,lj];exact k d2 _ (F3.free hd2) aa (F3.new hd2).kp
end
end
section
section
noncomputable def pV:Option Nat->V
 | none=>.non
 | some i=>.int i
structure f_ (H:Hp) (h a1 a2 a3 a5:Addr) (ms:List Mp) (ns:List Nd) (par:List (Option Nat)) (st:Nat) (made:List Nat) (mas nas:List Addr):Prop where
 hh:H h=some (.dK (bT a1 a2 a3 st a5))
 h1:H a1=some (.lst (mas.map V.ref))
 h2:H a2=some (.lst (nas.map V.ref))
 h3:H a3=some (.lst (par.map pV))
 h5:H a5=some (.lst (made.map nV))
 lm:mas.length=ms.length
 ln:nas.length=ns.length
 mm:∀ (i:Nat) a m,mas[i]?=some a->ms[i]?=some m->H a=some (.dK (aM sV m))
 nn:∀ (i:Nat) a m,nas[i]?=some a->ns[i]?=some m->H a=some (.dK (aM nV m))
 ne:[h,a1,a2,a3,a5].Nodup
 am:∀ a∈mas,a≠h
 an:∀ a∈nas,a≠h
theorem f_.same {H H':Hp}{h a1 a2 a3 a5:Addr}{ms:List Mp}{ns:List Nd}{par:List (Option Nat)}{st:Nat}{made:List Nat}{mas nas:List Addr} (A:f_ H h a1 a2 a3 a5 ms ns par st made mas nas) (e:aV H H'):f_ H' h a1 a2 a3 a5 ms ns par st made mas nas :=
 ⟨e _ _ A.hh,e _ _ A.h1,e _ _ A.h2,e _ _ A.h3,e _ _ A.h5,A.lm,A.ln,fun i a m x y=>e _ _ (A.mm i a m x y),fun i a m x y=>e _ _ (A.nn i a m x y),A.ne,A.am,A.an⟩
noncomputable abbrev wq:Stmt:=top 40
theorem B_:az ["_law_hall","_law_values","_law_nodes","_law_parent"] ["_law_hall","_law_values","_law_nodes","_law_parent"] (ao wq):=by walk_at "s"
noncomputable def nh:Sp:=fun vs H Q _=>∃ (h a1 a2 a3 a5 v q:Addr) (ms:List Mp) (ns:List Nd) (par:List (Option Nat)) (st:Nat) (made:List Nat) (mas nas:List Addr) (m:Mp) (nd:Nd) (p:Option Nat),vs=[.ref h,.ref v,.ref q,pV p] /\
 f_ H h a1 a2 a3 a5 ms ns par st made mas nas/\H v=some (.dK (aM sV m))/\H q=some (.dK (aM nV nd))/\v≠h/\q≠h/\ms.length<=100000/\ns.length<=100000/\par.length<=100000 /\
 ∀ H',f_ H' h a1 a2 a3 a5 (ms++[m]) (ns++[nd]) (par++[p]) st made (mas++[v]) (nas++[q])->Kp H H' [a1,a2,a3]->Q (nV ms.length) H'
theorem xp {f:Addr}{fd:FuncData} (B:Bl mg) (F:cJ K "_law_note" "_law_note" wq f fd):aR P w K mg base aT 1 f fd ["_law_hall","_law_values","_law_nodes","_law_parent"] nh:=by
 have sc:=B_;walk_at "f"
 ·obtain⟨_,_,_,_,_,_,_,_,_,_,_,_,_,_,_,_,_,rfl,_⟩:=h
  rfl
 ·obtain⟨h,a1,a2,a3,a5,v,q,ms,ns,par,st,made,mas,nas,m,nd,p,rfl,HL,hv,hq,vh,qh,l1,l2,l3,k⟩:=h
  have hu:=d_ hr;have hs:=sizeLine_eq;refine⟨_,(af (aZ (eG K PySem.F.plainAttrs_list PySem.F.slot_list_append PySem.F.type_list_append bo (bB hu (pv 0) au (fun _ _=>rfl)) (ai (pv 1) ae)))
   (af (aZ (eG K PySem.F.plainAttrs_list PySem.F.slot_list_append PySem.F.type_list_append bo (bB hu (pv 0) au (fun _ _=>rfl)) (ai (pv 2) ae)))
   (af (aZ (eG K PySem.F.plainAttrs_list PySem.F.slot_list_append PySem.F.type_list_append bo (bB hu (pv 0) au (fun _ _=>rfl)) (ai (pv 3) ae)))
   (ak (aw (aC ff (bg (aX K) rfl B.len boot_len (ai (bB hu (pv 0) au (fun _ _=>rfl)) ae)) aj)))))),?_⟩
  walk_at "rd";obtain⟨hh,h1,h2,h3,h5,lm,ln,mm,nn,ne,am,an⟩:=HL;simp only[List.nodup_cons,List.mem_cons,List.not_mem_nil,or_false,not_or,List.nodup_nil,not_false_eq_true,and_true] at ne;obtain⟨⟨x01,x02,x03,x05⟩,⟨x12,x13,x15⟩,⟨x23,x25⟩,x35⟩:=ne;refine⟨_,bN.k' (k:=.inr ("maps":Str)) hh (cy _ _ _ _ _),.inl ⟨rfl,_,aP.of h1⟩,a1,rfl,_,h1,by rw[List.length_map];omega,
   _,bN.k' (k:=.inr ("nodes":Str)) (by rw[ah x01];exact hh) (dR _ _ _ _ _),.inl ⟨rfl,_,aP.of (by rw[ah (Ne.symm x12)];exact h2)⟩,a2,rfl,_,(by rw[ah (Ne.symm x12)];exact h2),by rw[List.length_map];omega,
   _,bN.k' (k:=.inr ("parents":Str)) (by rw[ah x02,ah x01];exact hh) (nG _ _ _ _ _),.inl ⟨rfl,_,aP.of (by rw[ah (Ne.symm x23),ah (Ne.symm x13)];exact h3)⟩,a3,rfl,_,(by rw[ah (Ne.symm x23),ah (Ne.symm x13)];exact h3),by rw[List.length_map];omega,
   _,bN.k' (k:=.inr ("maps":Str)) (by rw[ah x03,ah x02,ah x01];exact hh) (cy _ _ _ _ _),_,.inl ⟨_,aP.of (by rw[ah x13,ah x12,aa]),rfl⟩,?_⟩
  have kp:Kp H (upd (upd (upd H a1 (.lst (mas.map V.ref++[.ref v]))) a2 (.lst (nas.map V.ref++[.ref q]))) a3 (.lst (par.map pV++[pV p]))) [a1,a2,a3]:=(((Kp.refl H _).set (by simp)).set (by simp)).set (by simp);have old:∀ {a:Addr}{kvs:List (Key×V)},H a=some (.dK kvs)->a∉[a1,a2,a3]:=fun ha=>by
   simp only[List.mem_cons,List.not_mem_nil,or_false,not_or];exact⟨bV ha h1 (by intro z;cases z),bV ha h2 (by intro z;cases z),bV ha h3 (by intro z;cases z)⟩
  have e:((List.map V.ref mas++[V.ref v]).length:Int) - 1=(ms.length:Int):=by
   rw[List.length_append,List.length_map,lm];simp
  rw[e];refine k _ ⟨kp _ _ hh (old hh),by rw[ah x13,ah x12,aa,List.map_append];rfl,by rw[ah x23,aa,List.map_append];rfl,by rw[aa,List.map_append];rfl,kp _ _ h5 (by
   simp only[List.mem_cons,List.not_mem_nil,or_false,not_or];exact⟨Ne.symm x15,Ne.symm x25,Ne.symm x35⟩),by simp[lm],by simp[ln],fun i a m' e1 e2=>?_,fun i a m' e1 e2=>?_,?_,fun a ha=>(List.mem_append.mp ha).elim (am a) (fun z=>by rw[List.mem_singleton.mp z];exact vh),fun a ha=>(List.mem_append.mp ha).elim (an a) (fun z=>by rw[List.mem_singleton.mp z];exact qh)⟩ kp
  ·by_cases hi:i<mas.length
   ·rw[List.getElem?_append_left hi] at e1
    rw[List.getElem?_append_left (by omega)] at e2;have:=mm i a m' e1 e2;exact kp _ _ this (old this)
   ·rw[List.getElem?_append_right (by omega)] at e1 e2
    have hi0:i - mas.length=0:=by
     have:=(List.getElem?_eq_some_iff.mp e1).1;simp at this;omega
    rw[hi0] at e1;rw[show i - ms.length=0 by omega] at e2;simp only[List.getElem?_cons_zero,Option.some.injEq] at e1 e2;subst e1 e2;exact kp _ _ hv (old hv)
  ·by_cases hi:i<nas.length
   ·rw[List.getElem?_append_left hi] at e1
    rw[List.getElem?_append_left (by omega)] at e2;have:=nn i a m' e1 e2;exact kp _ _ this (old this)
   ·rw[List.getElem?_append_right (by omega)] at e1 e2
    have hi0:i - nas.length=0:=by
     have:=(List.getElem?_eq_some_iff.mp e1).1;simp at this;omega
    rw[hi0] at e1;rw[show i - ns.length=0 by omega] at e2;simp only[List.getElem?_cons_zero,Option.some.injEq] at e1 e2;subst e1 e2;exact kp _ _ hq (old hq)
  ·simp only[List.nodup_cons,List.mem_cons,List.not_mem_nil,or_false,not_or,List.nodup_nil,not_false_eq_true,and_true]
   exact⟨⟨x01,x02,x03,x05⟩,⟨x12,x13,x15⟩,⟨x23,x25⟩,x35⟩
noncomputable abbrev pL:Stmt:=top 36
theorem xu:az [] [] (ao pL):=by walk_at "s"
noncomputable def nI:Sp:=fun vs H Q _=>vs=[]/\∀ h a1 a2 a3 a5 m0 n0 H',f_ H' h a1 a2 a3 a5 [[]] [[]] [none] 0 [] [m0] [n0]->aV H H'->(∀ a∈[h,a1,a2,a3,a5,m0,n0],H a=none)->Q (.ref h) H'
theorem wB {f:Addr}{fd:FuncData} (F:cJ K "_law_start" "_law_start" pL f fd):aR P w K mg base aT 1 f fd [] nI:=by
 have sc:=xu;walk_at "f"
 ·obtain⟨rfl,_⟩:=h
  rfl
 ·obtain⟨rfl,k⟩:=h
  have hs:=sizeLine_eq;refine⟨_,(ak (aw (xq (fS au (bw (ai gP ae)) (fS au (bw (ai gP ae)) (fS au (bw (ai fF ae)) (fS au aj (fS au (bw ae) xt))))) (by rfl) (by rfl) (by intro z;cases z) (by exact Nat.le_of_ble_eq_true rfl)))),?_⟩;walk_at "rd";intro p0 h0;have s0:=(aV.refl H).new (o:=HO.dK []) h0;have f0:upd H p0 (HO.dK []) p0=some (HO.dK []):=aa;generalize upd H p0 (HO.dK [])=G0 at s0 f0 ⊢;intro p1 h1;have s1:=(aV.refl G0).new (o:=HO.dK []) h1;have f1:upd G0 p1 (HO.dK []) p1=some (HO.dK []):=aa;generalize upd G0 p1 (HO.dK [])=G1 at s1 f1 ⊢;refine⟨by omega,?_⟩;intro p2 h2;have s2:=(aV.refl G1).new (o:=HO.lst [V.ref p1]) h2;have f2:upd G1 p2 (HO.lst [V.ref p1]) p2=some (HO.lst [V.ref p1]):=aa;generalize upd G1 p2 (HO.lst [V.ref p1])=G2 at s2 f2 ⊢;intro p3 h3;have s3:=(aV.refl G2).new (o:=HO.dK []) h3;have f3:upd G2 p3 (HO.dK []) p3=some (HO.dK []):=aa;generalize upd G2 p3 (HO.dK [])=G3 at s3 f3 ⊢;refine⟨by omega,?_⟩;intro p4 h4;have s4:=(aV.refl G3).new (o:=HO.lst [V.ref p3]) h4;have f4:upd G3 p4 (HO.lst [V.ref p3]) p4=some (HO.lst [V.ref p3]):=aa;generalize upd G3 p4 (HO.lst [V.ref p3])=G4 at s4 f4 ⊢;refine⟨by omega,?_⟩;intro p5 h5;have s5:=(aV.refl G4).new (o:=HO.lst [V.non]) h5;have f5:upd G4 p5 (HO.lst [V.non]) p5=some (HO.lst [V.non]):=aa;generalize upd G4 p5 (HO.lst [V.non])=G5 at s5 f5 ⊢;refine⟨by omega,?_⟩;intro p6 h6;have s6:=(aV.refl G5).new (o:=HO.lst []) h6;have f6:upd G5 p6 (HO.lst []) p6=some (HO.lst []):=aa;generalize upd G5 p6 (HO.lst [])=G6 at s6 f6 ⊢;have t5:=s6;have t4:=s5.trans t5;have t3:=s4.trans t4;have t2:=s3.trans t3;have t1:=s2.trans t2;have t0:=s1.trans t1;have tH:=s0.trans t0;refine⟨t0 _ _ f0,[(.inr ("maps":Str),.ref p2),(.inr ("nodes":Str),.ref p4),(.inr ("parents":Str),.ref p5),(.inr ("stamp":Str),.int 0),(.inr ("made":Str),.ref p6)],rfl,by show 5<=15;decide,?_⟩;have em:gz [] [(.inr ("maps":Str),.ref p2),(.inr ("nodes":Str),.ref p4),(.inr ("parents":Str),.ref p5),(.inr ("stamp":Str),.int 0),(.inr ("made":Str),.ref p6)]=bT p2 p4 p5 0 p6:=by
   have e1:putK ([]:List (Key×V)) (Sum.inr ("maps":Str)) (.ref p2)=[(.inr ("maps":Str),.ref p2)]:=fU _ rfl;have e2:putK ([(.inr ("maps":Str),.ref p2)]:List (Key×V)) (Sum.inr ("nodes":Str)) (.ref p4)=[(.inr ("maps":Str),.ref p2),(.inr ("nodes":Str),.ref p4)]:=fU _ (by rw[aS Df];rfl);have e3:putK ([(.inr ("maps":Str),.ref p2),(.inr ("nodes":Str),.ref p4)]:List (Key×V)) (Sum.inr ("parents":Str)) (.ref p5)=[(.inr ("maps":Str),.ref p2),(.inr ("nodes":Str),.ref p4),(.inr ("parents":Str),.ref p5)]:=fU _ (by rw[aS CT,aS Dw];rfl);have e4:putK ([(.inr ("maps":Str),.ref p2),(.inr ("nodes":Str),.ref p4),(.inr ("parents":Str),.ref p5)]:List (Key×V)) (Sum.inr ("stamp":Str)) (.int 0)=[(.inr ("maps":Str),.ref p2),(.inr ("nodes":Str),.ref p4),(.inr ("parents":Str),.ref p5),(.inr ("stamp":Str),.int 0)]:=fU _ (by rw[aS AN,aS AI,aS BU];rfl);have e5:putK ([(.inr ("maps":Str),.ref p2),(.inr ("nodes":Str),.ref p4),(.inr ("parents":Str),.ref p5),(.inr ("stamp":Str),.int 0)]:List (Key×V)) (Sum.inr ("made":Str)) (.ref p6)=[(.inr ("maps":Str),.ref p2),(.inr ("nodes":Str),.ref p4),(.inr ("parents":Str),.ref p5),(.inr ("stamp":Str),.int 0),(.inr ("made":Str),.ref p6)]:=fU _ (by rw[aS C9,aS D0,aS Ek,aS zE];rfl);unfold gz;simp only[List.foldl_cons,List.foldl_nil];rw[e1,e2,e3,e4,e5]
   rfl
  rw[em];have d0:∀ {a:Addr},G0 a=none->a≠p0:=fun h z=>by rw[z,f0] at h;cases h
  have n1:p1≠p0:=d0 h1;have n2:p2≠p0:=d0 (s1.free h2);have n3:p3≠p0:=d0 (s1.free (s2.free h3));have n4:p4≠p0:=d0 (s1.free (s2.free (s3.free h4)));have n5:p5≠p0:=d0 (s1.free (s2.free (s3.free (s4.free h5))));have n6:p6≠p0:=d0 (s1.free (s2.free (s3.free (s4.free (s5.free h6)))));have n24:p2≠p4:=ag f2 (s3.free h4);have n25:p2≠p5:=ag f2 (s3.free (s4.free h5));have n26:p2≠p6:=ag f2 (s3.free (s4.free (s5.free h6)));have n45:p4≠p5:=ag f4 h5;have n46:p4≠p6:=ag f4 (s5.free h6);have n56:p5≠p6:=ag f5 h6;refine k p0 p2 p4 p5 p6 p1 p3 _ ⟨aa,by rw[ah n2];exact t2 _ _ f2,by rw[ah n4];exact t4 _ _ f4,by rw[ah n5];exact t5 _ _ f5,by rw[ah n6];exact f6,rfl,rfl,fun i a m e1 e2=>?_,fun i a m e1 e2=>?_,?_,fun a ha=>by rw[List.mem_singleton.mp ha];exact n1,fun a ha=>by rw[List.mem_singleton.mp ha];exact n3⟩ (fun c o hc=>?_) ?_
  ·have hi:i=0:=by
    have:=(List.getElem?_eq_some_iff.mp e1).1;simp at this;omega
   subst hi
   cases e1;cases e2;rw[ah n1];exact t1 _ _ f1
  ·have hi:i=0:=by
    have:=(List.getElem?_eq_some_iff.mp e1).1;simp at this;omega
   subst hi
   cases e1;cases e2;rw[ah n3];exact t3 _ _ f3
  ·simp only[List.nodup_cons,List.mem_cons,List.not_mem_nil,or_false,not_or,List.nodup_nil,not_false_eq_true,and_true]
   exact⟨⟨Ne.symm n2,Ne.symm n4,Ne.symm n5,Ne.symm n6⟩,⟨n24,n25,n26⟩,⟨n45,n46⟩,n56⟩
  ·rw[ah (ag hc h0)];exact tH _ _ hc
  ·intro a ha
   simp only[List.mem_cons,List.not_mem_nil,or_false] at ha;rcases ha with rfl|rfl|rfl|rfl|rfl|rfl|rfl
   ·exact h0
   ·exact s0.free (s1.free h2)
   ·exact s0.free (s1.free (s2.free (s3.free h4)))
   ·exact s0.free (s1.free (s2.free (s3.free (s4.free h5))))
   ·exact s0.free (s1.free (s2.free (s3.free (s4.free (s5.free h6)))))
   ·exact s0.free h1
   ·exact s0.free (s1.free (s2.free h3))
end
end
section
open PySem L2
theorem jw {β:Type} (m:List (Nm×β)) (b:Nm):(∃ p∈m,b <+: p.1)↔∃ j,(aq m j).isSome=true/\b <+: j:=by
 constructor
 ·rintro ⟨p,hp,h⟩
  exact⟨p.1,(mem_keys m p.1).mp (List.mem_map.mpr ⟨p,hp,rfl⟩),h⟩
 ·rintro ⟨j,hj,h⟩
  obtain⟨p,hp,rfl⟩:=List.mem_map.mp ((mem_keys m j).mpr hj);exact⟨p,hp,h⟩
theorem iZ (m:Mp) (b:Nm):(m.all fun p=>!b.isPrefixOf p.1)=true↔¬ ∃ p∈m,b <+: p.1:=by
 rw[List.all_eq_true];constructor
 ·rintro h ⟨p,hp,q⟩
  have:=h p hp;rw[List.isPrefixOf_iff_prefix.mpr q] at this
  cases this
 ·intro h p hp
  cases e:b.isPrefixOf p.1 with
  | false=>rfl
  | true=>exact absurd ⟨p,hp,List.isPrefixOf_iff_prefix.mp e⟩ h
theorem cn {n b:Nm}:b∈bq n↔b <+: n:=by
 unfold bq;rw[List.mem_map];constructor
 ·rintro ⟨k,_,rfl⟩;exact List.take_prefix k n
 ·intro h
  refine⟨b.length,?_,?_⟩
  ·rw[List.mem_range]
   have:=h.length_le;omega
  ·exact (List.prefix_iff_eq_take.mp h).symm
theorem wg {m:Mp}{nd:Nd} (ok:gQ m nd) (n:Nm) (to:Option Nm):aq m n≠to->∀ b∈bq n,((bP m n to).all fun p=>!b.isPrefixOf p.1)=true->(aq nd b).isSome=true:=by
 intro hne b hb hall;have hbn:=cn.mp hb;rw[ok b,jw];rw[iZ,jw] at hall
 cases e:aq m n with
 | some x=>exact⟨n,by rw[e];rfl,hbn⟩
 | none =>
  exfalso
  apply hall;refine⟨n,?_,hbn⟩;rw[bX,if_pos rfl]
  cases to with
  | none=>exact absurd e hne
  | some v=>rfl
theorem jZ (n:Nm):(bq n).Nodup:=by
 unfold bq;rw[List.nodup_iff_pairwise_ne,List.pairwise_map];have h:(List.range (n.length+1)).Pairwise (·<·):=List.pairwise_lt_range;have h2:∀ k∈List.range (n.length+1),k<=n.length:=fun k hk=>by
  have:=List.mem_range.mp hk;omega
 refine List.Pairwise.imp_of_mem (fun {a b} ha hb hab e=>?_) h;have:=congrArg List.length e;rw[List.length_take,List.length_take] at this;have h1:=h2 a ha;have h3:=h2 b hb;omega
theorem rG (M:Mp) (b:Nm):∀ (l:List Nm) (a:Nat×Nat×Nd),l.Nodup->b∈l->((aq (l.foldl (bF M) a).2.2 b).isSome=true↔∃ p∈M,b <+: p.1)
 | [],_,_,h=>nomatch h
 | c::l,a,hn,h=>by
  obtain⟨hc,hn'⟩:=List.nodup_cons.mp hn;rw[List.foldl_cons]
  by_cases e:b=c
  ·subst e
   rw[eZ M b l _ hc];unfold bF
   by_cases em:(M.all fun p=>!b.isPrefixOf p.1)=true
   ·rw[if_pos em]
    dsimp only;rw[cZ,if_pos rfl];simp only[Option.isSome_none,Bool.false_eq_true,false_iff];exact (iZ M b).mp em
   ·rw[if_neg em]
    dsimp only;rw[di,if_pos rfl];simp only[Option.isSome_some,true_iff];exact Classical.not_not.mp fun z=>em ((iZ M b).mpr z)
  ·exact rG M b l _ hn' ((List.mem_cons.mp h).resolve_left e)
theorem mU {m:Mp}{nd:Nd} (ok:gQ m nd) (st:Nat) (n:Nm) (to:Option Nm):gQ (bu m nd st n to).m (bu m nd st n to).nd:=by
 unfold bu
 by_cases e:aq m n=to
 ·rw[if_pos e];exact ok
 ·rw[if_neg e]
  intro b
  by_cases hb:b∈bq n
  ·exact rG _ b _ _ (jZ n) hb
  ·rw[eZ _ b _ _ hb]
   rw[ok b,jw,jw];have hbn:¬ b <+: n:=fun z=>hb (cn.mpr z);constructor
   ·rintro ⟨j,hj,hp⟩
    refine⟨j,?_,hp⟩;rw[bX,if_neg (fun z:j=n=>hbn (by rw[<- z];exact hp))];exact hj
   ·rintro ⟨j,hj,hp⟩
    refine⟨j,?_,hp⟩;rw[bX,if_neg (fun z:j=n=>hbn (by rw[<- z];exact hp))] at hj;exact hj
theorem mP (m:Mp) (nd:Nd) (st:Nat) (n:Nm) (to:Option Nm) (j:Nm):aq (bu m nd st n to).m j=if j=n then to else aq m j:=by
 unfold bu
 by_cases e:aq m n=to
 ·rw[if_pos e]
  by_cases ej:j=n
  ·rw[if_pos ej,ej];exact e
  ·rw[if_neg ej]
 ·rw[if_neg e];exact bX m n to j
theorem tJ (m:Mp) (nd:Nd) (st:Nat) (n:Nm) (to:Option Nm):(bu m nd st n to).m.length<=m.length+1:=by
 unfold bu
 split
 ·exact Nat.le_succ _
 ·cases to with
  | none=>exact Nat.le_succ_of_le (iw m n)
  | some v=>exact jK m n v
theorem gA (m:Mp) (nd:Nd) (st:Nat) (n:Nm) (to:Option Nm):(bu m nd st n to).nd.length<=nd.length+(n.length+1):=by
 unfold bu
 split
 ·exact Nat.le_add_right _ _
 ·have:=ju (bP m n to) (bq n) (0,st,nd)
  rw[jY] at this;exact this
noncomputable def aO (m:Mp):Prop:=(m.map (·.1)).Nodup
theorem xT {m:Mp} (h:aO m) (n v:Nm):aO (dj m n v):=by
 unfold aO dj at *
 split
 ·have:(m.map fun p=>if p.1=n then (p.1,v) else p).map (·.1)=m.map (·.1):=by
   rw[List.map_map];apply List.map_congr_left;intro p _;simp only[Function.comp]
   split <;> rfl
  rw[this];exact h
 ·rename_i hn
  rw[List.map_append];refine nC h fun z=>hn ?_;obtain⟨p,hp,e⟩:=List.mem_map.mp z;exact List.any_eq_true.mpr ⟨p,hp,decide_eq_true e⟩
theorem vx {m:Mp} (h:aO m) (n:Nm):aO (cW m n):=by
 unfold aO cW at *;exact h.sublist (List.Sublist.map _ List.filter_sublist)
theorem q_ {m:Mp} (h:aO m) (nd:Nd) (st:Nat) (n:Nm) (to:Option Nm):aO (bu m nd st n to).m:=by
 unfold bu
 split
 ·exact h
 ·cases to with
  | none=>exact vx h n
  | some v=>exact xT h n v
theorem kS {m1 m2:Mp} (h1:aO m1) (h2:aO m2):(dF m1 m2).Nodup:=by
 unfold dF;rw[List.nodup_append];refine⟨h1,h2.sublist List.filter_sublist,fun a ha b hb e=>?_⟩;subst e;have q:=(List.mem_filter.mp hb).2;have:=(mem_keys m1 a).mp ha;rw[Option.isNone_iff_eq_none] at q;rw[q] at this
 cases this
theorem eR {α:Type} [DecidableEq α]:∀ {l u:List α},l.Nodup->(∀ x∈l,x∈u)->l.length<=u.length
 | [],_,_,_=>Nat.zero_le _
 | a::l,u,hn,hs=>by
  obtain⟨h1,h2⟩:=List.nodup_cons.mp hn;have ha:a∈u:=hs a List.mem_cons_self;have:=eR (l:=l) (u:=u.erase a) h2 fun x hx=>(List.mem_erase_of_ne (fun z:x=a=>h1 (by rw[<- z];exact hx))).mpr (hs x (List.mem_cons_of_mem _ hx));rw[List.length_erase_of_mem ha] at this;have hpos:0<u.length:=List.length_pos_of_mem ha;rw[List.length_cons];omega
theorem gv {m1 m2:Mp}{n:Nm}:n∈dF m1 m2↔(aq m1 n).isSome=true\/(aq m2 n).isSome=true:=by
 unfold dF;rw[List.mem_append,List.mem_filter,mem_keys,mem_keys];constructor
 ·rintro (h|⟨h,_⟩)
  ·exact .inl h
  ·exact .inr h
 ·intro h
  cases e:aq m1 n with
  | some x=>exact .inl rfl
  | none =>
   rw[e] at h;exact .inr ⟨h.resolve_left (by simp),rfl⟩
theorem gZ {m1 m2:Mp}{n:Nm}:n∈aW m1 m2↔aq m1 n≠aq m2 n:=by
 unfold aW;rw[List.mem_filter,(bH _).mem_iff,gv,decide_eq_true_eq];constructor
 ·exact fun h=>h.2
 ·intro h
  refine⟨?_,h⟩
  cases e:aq m1 n with
  | some x=>exact .inl rfl
  | none =>
   rw[e] at h
   cases e2:aq m2 n with
   | some y=>exact .inr rfl
   | none=>rw[e2] at h;exact absurd rfl h
end
section
section
noncomputable abbrev Row:=Nm×Option Nm×Option Nm×Option Nm
noncomputable def fA (mb mo mt:Mp) (n:Nm):Row:=(n,aq mb n,aq mo n,aq mt n)
noncomputable def cX (mb mo mt:Mp):List Row:=((aW mb mo).filter fun n=>decide (n∈aW mb mt) && decide (aq mo n≠aq mt n)).map (fA mb mo mt)
noncomputable def aQ (mt:Mp) (a:LR) (n:Nm):LR:=⟨a.made+(bu a.m a.nd a.st n (aq mt n)).made,(bu a.m a.nd a.st n (aq mt n)).st,(bu a.m a.nd a.st n (aq mt n)).m,(bu a.m a.nd a.st n (aq mt n)).nd⟩
noncomputable def bQ (mb mo mt:Mp) (nd:Nd) (st:Nat):LR:=(aW mb mt).foldl (aQ mt) ⟨0,st,mo,nd⟩
noncomputable def gN (r:Row):List V:=[sV r.1,oV r.2.1,oV r.2.2.1,oV r.2.2.2]
noncomputable def gx (F:Addr->Prop) (H:Hp) (v:V) (rows:List Row):Prop:=∃ (t r:Addr) (rs:List Addr),v=.ref t/\F r/\H t=some (.tup [.str ("clash":Str),.ref r])/\H r=some (.lst (rs.map V.ref))/\Paired (fun a row=>H a=some (.tup (gN row))) rs rows
theorem FC (a b c d:V):iT [a,b,c,d] (some 1) none=[b,c,d]:=rfl
theorem tW:¬ (HT.cG 4 0 (some 1)=0/\HT.cG 4 4 none=4):=by decide
theorem xF (n:Nm) (l:List Nm):EV (sV n) (l.map sV)=decide (n∈l):=by
 unfold EV;rw[List.any_map,Bool.eq_iff_iff,List.any_eq_true,decide_eq_true_eq];constructor
 ·rintro ⟨y,hy,e⟩
  have e:(tx y == tx n)=true:=e;rw[beq_iff_eq,mI] at e;exact e ▸ hy
 ·intro h
  exact⟨n,h,by show (tx n == tx n)=true;simp⟩
theorem uC (l:List Nm):(l.map sV).all gq=true:=by
 rw[List.all_map];simp[gq,sV,Function.comp]
noncomputable def zm (mas:List Addr):V->Option V
 | .int i=>some (.ref (mas.getD i.toNat 0))
 | _=>none
structure HX (H5:Hp) (ls:List (Option V)) (pr:Addr) (rows:List Row) (σ:L2.St) (H2:Hp):Prop where
 ls:∃ nm,σ=ls++[some (.ref pr),nm,none,none,none]
 rs:∃ rs:List Addr,H2 pr=some (.lst (rs.map V.ref))/\Paired (fun a row=>H2 a=some (.tup (gN row))) rs rows
 kp:Kp H5 H2 [pr]
structure Hm (G:Hp) (ls:List (Option V)) (h a1 a2 a3 a5 pv pn:Addr) (acc:LR) (σ:L2.St) (H2:Hp):Prop where
 ls:∃ nm,σ=ls++[nm,some (.ref pv),some (.ref pn),some (nV acc.made)]
 hh:H2 h=some (.dK (bT a1 a2 a3 acc.st a5))
 hv:H2 pv=some (.dK (aM sV acc.m))
 hn:H2 pn=some (.dK (aM nV acc.nd))
 kp:Kp G H2 [h,pv,pn]
theorem oz {mt:Mp}{mo:Mp}{nd:Nd}{st:Nat} (ok:gQ mo nd):∀ (l:List Nm),(∀ n∈l,n.length<=1000)->gQ (l.foldl (aQ mt) ⟨0,st,mo,nd⟩).m (l.foldl (aQ mt) ⟨0,st,mo,nd⟩).nd /\
  (l.foldl (aQ mt) ⟨0,st,mo,nd⟩).m.length<=mo.length+l.length/\(l.foldl (aQ mt) ⟨0,st,mo,nd⟩).nd.length<=nd.length+1001 * l.length:=by
 intro l;have go:∀ (l:List Nm) (a:LR),gQ a.m a.nd->(∀ n∈l,n.length<=1000)->gQ (l.foldl (aQ mt) a).m (l.foldl (aQ mt) a).nd/\(l.foldl (aQ mt) a).m.length<=a.m.length+l.length/\(l.foldl (aQ mt) a).nd.length<=a.nd.length+1001 * l.length:=by
  intro l
  induction l with
  | nil=>intro a h _;exact⟨h,Nat.le_refl _,Nat.le_refl _⟩
  | cons n l ih =>
   intro a h hl;rw[List.foldl_cons];obtain⟨i1,i2,i3⟩:=ih (aQ mt a n) (mU h _ _ _) fun x hx=>hl x (List.mem_cons_of_mem _ hx);have q1:=tJ a.m a.nd a.st n (aq mt n);have q2:=gA a.m a.nd a.st n (aq mt n);have q3:=hl n List.mem_cons_self;have e1:(aQ mt a n).m=(bu a.m a.nd a.st n (aq mt n)).m:=rfl;have e2:(aQ mt a n).nd=(bu a.m a.nd a.st n (aq mt n)).nd:=rfl;rw[e1] at i2;rw[e2] at i3;rw[List.length_cons];exact⟨i1,by omega,by omega⟩
 exact fun hl=>go l _ ok hl
noncomputable abbrev rj:Stmt:=top 41
noncomputable abbrev NJ:List Str:=["_law_hall","_law_deed","_law_base","_law_one","_law_two","_law_left","_law_right","_law_rows","_law_name","_law_values","_law_nodes","_law_made"]
theorem zD:az NJ ["_law_hall","_law_deed"] (ao rj):=by walk_at "s"
theorem iP:(["_law_version","_law_hall"]:List Str).Nodup:=by decide +kernel
noncomputable def qK:Sp:=fun vs H Q _=>∃ (h a1 a2 a3 a5 d:Addr) (ms:List Mp) (ns:List Nd) (par:List (Option Nat)) (st:Nat) (made:List Nat) (mas nas:List Addr) (b o t:Nat) (mb mo mt:Mp) (nd:Nd),vs=[.ref h,.ref d] /\
 f_ H h a1 a2 a3 a5 ms ns par st made mas nas/\H d=some (.tup [.str ("join":Str),.int b,.int o,.int t])/\ms[b]?=some mb/\ms[o]?=some mo/\ms[t]?=some mt/\ns[o]?=some nd /\
 ms.length<=1000/\ns.length<=1000/\par.length<=1000/\made.length<=1000/\mb.length<=100/\mo.length<=100/\mt.length<=100/\nd.length<=500000/\gQ mo nd/\(dF mb mo).length<64/\(dF mb mt).length<64/\(∀ n∈aW mb mt,n.length<=1000) /\
 (cX mb mo mt≠[]->∀ v H',f_ H' h a1 a2 a3 a5 ms ns par st (made++[0]) mas nas->gx (fun r=>H r=none) H' v (cX mb mo mt)->Kp H H' [a5]->Q v H') /\
 (cX mb mo mt=[]->∀ va na H',f_ H' h a1 a2 a3 a5 (ms++[(bQ mb mo mt nd st).m]) (ns++[(bQ mb mo mt nd st).nd]) (par++[some o]) (bQ mb mo mt nd st).st (made++[(bQ mb mo mt nd st).made]) (mas++[va]) (nas++[na])->Kp H H' [h,a1,a2,a3,a5]->Q (nV ms.length) H')
theorem yF {f:Addr}{fd:FuncData} (B:Bl mg) (c_law_changes:bU P w K mg base aT 2 "_law_changes" ["_law_old","_law_new"] lK) (c_law_set:bU P w K mg base aT 2 "_law_set" ["_law_hall","_law_values","_law_nodes","_law_name","_law_to"] sj)
  (c_law_note:bU P w K mg base aT 2 "_law_note" ["_law_hall","_law_values","_law_nodes","_law_parent"] nh) (F:cJ K "_law_joining" "_law_joining" rj f fd):aR P w K mg base aT 3 f fd ["_law_hall","_law_deed"] qK:=by
 have sc:=zD;walk_at "f"
 ·obtain⟨_,_,_,_,_,_,_,_,_,_,_,_,_,_,_,_,_,_,_,_,rfl,_⟩:=h
  rfl
 ·obtain⟨h,a1,a2,a3,a5,d,ms,ns,par,st,made,mas,nas,b,o,t,mb,mo,mt,nd,rfl,HL,hd,eb,eo,et,en,l1,l2,l3,l4,l5,l6,l7,l8,nok,u1,u2,u3,k1,k2⟩:=h
  have hu0:=hr.cL;have hu:=d_ hr;have hs:=sizeLine_eq;refine⟨_,(af (cU (uw (cI (N':=["_law_version","_law_hall"]) (ix:=[none,some 0]) rfl ?S1 (nq K (dM (se K) (pv 1) (fh aj) fj)) (fun cl C fp s H=>(aI (i:=0) iP rfl (by walk_at "o"))) (fun cl C fp s H=>dZ) (fun cl C fp s H=>(aE (aK K) (bB hu (pv 1) au (fun _ _=>rfl)) (pv 0) (fun _ _=>rfl)))) (yr K (n:=3) rfl (cw (aI (i:=2) sc.nd rfl (by walk_at "o")) (cw (aI (i:=3) sc.nd rfl (by walk_at "o")) (cw (aI (i:=4) sc.nd rfl (by walk_at "o")) ja))))))
   (af (cU (aA (i:=5) sc.nd rfl (by walk_at "o") (bJ c_law_changes hr (ai (pv 2) (ai (pv 3) ae)))))
   (af (cU (aA (i:=6) sc.nd rfl (by walk_at "o") (bJ c_law_changes hr (ai (pv 2) (ai (pv 4) ae)))))
   (af (aA (i:=7) sc.nd rfl (by walk_at "o") (bw ae))
   (af (dv PassesOwn.never rfl (bI K (pv 5)) (aI (i:=8) sc.nd rfl (by walk_at "o")) (ak (a_ (PW.pt (ke (aG (qG K) (pv 8) (pv 6) (by with_unfolding_all rfl)) (jf (aG dY (b_ hu (pv 3) (pv 8) ⟨rfl,rfl,rfl,rfl⟩) (b_ hu (pv 4) (pv 8) ⟨rfl,rfl,rfl,rfl⟩) (aH _))))) (ak (aZ (eG K PySem.F.plainAttrs_list PySem.F.slot_list_append PySem.F.type_list_append bo (pv 7) (ai (cm (ai (pv 8) (ai (b_ hu (pv 2) (pv 8) ⟨rfl,rfl,rfl,rfl⟩) (ai (b_ hu (pv 3) (pv 8) ⟨rfl,rfl,rfl,rfl⟩) (ai (b_ hu (pv 4) (pv 8) ⟨rfl,rfl,rfl,rfl⟩) ae))))) ae)))) aJ)))
   (af (cU (a_ (aG (rg K hu0) (pv 7) (bw ae) (aH _)) (af (aZ (eG K PySem.F.plainAttrs_list PySem.F.slot_list_append PySem.F.type_list_append bo (bB hu (pv 0) au (fun _ _=>rfl)) (ai aj ae)))
    (ak (aw (cm (ai au (ai (pv 7) ae)))))) aJ))
   (af (cU (aA (i:=9) sc.nd rfl (by walk_at "o") (eO eW rfl B.dct boot_dict (ai (pv 3) ae))))
   (af (cU (aA (i:=10) sc.nd rfl (by walk_at "o") (eO eW rfl B.dct boot_dict (ai (aE (aK K) (bB hu (pv 0) au (fun _ _=>rfl)) (aE (aF K) (pv 1) aj (fun _ _=>rfl)) (fun _ _=>rfl)) ae))))
   (af (aA (i:=11) sc.nd rfl (by walk_at "o") aj)
   (af (dv PassesOwn.never rfl (bI K (pv 6)) (aI (i:=8) sc.nd rfl (by walk_at "o")) (ak (aA (i:=11) sc.nd rfl (by walk_at "o") (aC eC (pv 11) (bJ c_law_set hr (ai (pv 0) (ai (pv 9) (ai (pv 10) (ai (pv 8) (ai (b_ hu (pv 4) (pv 8) ⟨rfl,rfl,rfl,rfl⟩) ae))))))))))
   (af (aZ (eG K PySem.F.plainAttrs_list PySem.F.slot_list_append PySem.F.type_list_append bo (bB hu (pv 0) au (fun _ _=>rfl)) (ai (pv 11) ae)))
   (ak (aw (bJ c_law_note hr (ai (pv 0) (ai (pv 9) (ai (pv 10) (ai (aE (aF K) (pv 1) aj (fun _ _=>rfl)) ae)))))))))))))))))),?_⟩
  case S1=>exact nL.is (N:=NJ) (osc:=ao rj) (by decide +kernel)
  walk_at "rd";have HL0:=HL;obtain⟨hh,h1,h2,h3,h5,lm,ln,mm,nn,ne,am,an⟩:=HL;have gm:∀ {i:Nat}{m:Mp},ms[i]?=some m->mas[i]?=some (mas.getD i 0)/\H (mas.getD i 0)=some (.dK (aM sV m)):=fun {i m} e=>by
   have hi:i<mas.length:=by rw[lm];exact (List.getElem?_eq_some_iff.mp e).1
   have e1:mas[i]?=some (mas.getD i 0):=by simp[List.getD,hi]
   exact⟨e1,mm i _ m e1 e⟩
  obtain⟨eb1,hb⟩:=gm eb;obtain⟨eo1,ho⟩:=gm eo;obtain⟨et1,ht⟩:=gm et;intro I hI;refine⟨_,cE.of hd,tW,fun p hp=>⟨⟨_,cE.of aa⟩,?_⟩⟩;rw[FC];have s0:=(aV.refl H).new (o:=.tup [.int b,.int o,.int t]) hp;have f0:upd H p (.tup [.int b,.int o,.int t]) p=some (.tup [.int b,.int o,.int t]):=aa;generalize upd H p (.tup [.int b,.int o,.int t])=G0 at s0 f0 ⊢;refine nO (zm mas) (cE.of f0) (by show 3<=sizeLine;omega) (fun x hx R R' g1 g2=>?_) ?_
  ·have hx':∃ i:Nat,x=.int (i:Int)/\mas[i]?=some (mas.getD i 0):=by
    simp only[List.mem_cons,List.not_mem_nil,or_false] at hx;rcases hx with rfl|rfl|rfl
    ·exact⟨b,rfl,eb1⟩
    ·exact⟨o,rfl,eo1⟩
    ·exact⟨t,rfl,et1⟩
   obtain⟨i,rfl,ei⟩:=hx';refine⟨Wk.set rfl,?_⟩;walk_at "rd";exact⟨_,bN.k' (k:=.inr ("maps":Str)) (s0 _ _ hh) (cy _ _ _ _ _),a1,rfl,_,aP.of (s0 _ _ h1),_,bS (by rw[List.getElem?_map,ei];rfl),g1 _ (by show some (V.ref (mas.getD ((i:Int)).toNat 0))=_;rw[Int.toNat_natCast])⟩
  ·intro p1 hp1
   have e3:[V.int (b:Int),.int o,.int t].filterMap (zm mas)=[.ref (mas.getD b 0),.ref (mas.getD o 0),.ref (mas.getD t 0)]:=by
    show [V.ref (mas.getD ((b:Int)).toNat 0),.ref (mas.getD ((o:Int)).toNat 0),.ref (mas.getD ((t:Int)).toNat 0)]=_;simp only[Int.toNat_natCast]
   rw[e3];have s1:=s0.trans ((aV.refl G0).new (o:=.lst [.ref (mas.getD b 0),.ref (mas.getD o 0),.ref (mas.getD t 0)]) hp1);have f1:upd G0 p1 (.lst [.ref (mas.getD b 0),.ref (mas.getD o 0),.ref (mas.getD t 0)]) p1=some (.lst [.ref (mas.getD b 0),.ref (mas.getD o 0),.ref (mas.getD t 0)]):=aa;generalize upd G0 p1 (.lst [.ref (mas.getD b 0),.ref (mas.getD o 0),.ref (mas.getD t 0)])=G1 at s1 f1 ⊢;refine⟨_,aP.of f1,rfl,_,_,rfl,_,_,rfl,_,_,rfl,rfl,?_⟩;refine hI.go ?_;walk_at "rd";intro I hI;refine qF (s1 _ _ hb) (s1 _ _ ho) (by omega) (by omega) fun p2 G2 hp2 f2 kp2=>?_;refine hI.go ?_;walk_at "rd";have s2:aV H G2:=fun c oo hc=>kp2 c oo (s1 c oo hc) (by simp);intro I hI;refine qF (s2 _ _ hb) (s2 _ _ ht) (by omega) (by omega) fun p3 G3 hp3 f3 kp3=>?_;refine hI.go ?_;walk_at "rd";have s3:aV G2 G3:=fun c oo hc=>kp3 c oo hc (by simp);refine⟨by omega,fun p4 hp4=>⟨⟨_,aP.of (by rw[ah (ag (s3 _ _ f2) hp4)];exact s3 _ _ f2)⟩,?_⟩⟩;have s4:=(s2.trans s3).trans ((aV.refl G3).new (o:=.lst []) hp4);have s4':=(aV.refl G3).new (o:=.lst []) hp4;have f4:upd G3 p4 (.lst []) p4=some (.lst []):=aa;have n4:H p4=none:=(s2.trans s3).free hp4;have f2':=s4' _ _ (s3 _ _ f2);have f3':=s4' _ _ f3;generalize upd G3 p4 (.lst [])=G4 at s4 s4' f4 f2' f3' ⊢;have nlist:∀ {c:Addr}{oo:HO},H c=some oo->c∉[p4]:=fun hc=>by
    simp only[List.mem_cons,List.not_mem_nil,or_false];exact ag hc n4
   have np2:p2∉[p4]:=by
    simp only[List.mem_cons,List.not_mem_nil,or_false];exact ag (s3 _ _ f2) hp4
   have np3:p3∉[p4]:=by
    simp only[List.mem_cons,List.not_mem_nil,or_false];exact ag f3 hp4
   refine cC (K:=K) (a:=p2) (xs:=(aW mb mo).map sV) (fun i σ H2=>HX G4 [some (.ref h),some (.ref d),some (.ref (mas.getD b 0)),some (.ref (mas.getD o 0)),some (.ref (mas.getD t 0)),some (.ref p2),some (.ref p3)] p4
    ((((aW mb mo).take i).filter fun n=>decide (n∈aW mb mt) && decide (aq mo n≠aq mt n)).map (fA mb mo mt)) σ H2) ⟨⟨none,rfl⟩,⟨[],f4,.nil⟩,Kp.refl _ _⟩ (fun i σ H2 I=>aP.of (I.kp _ _ f2' np2)) ?_ ?_
   ·rintro i y σ H2 hi ⟨⟨nm,rfl⟩,⟨rs,hrs,prs⟩,kp⟩
    rw[List.getElem?_map] at hi
    cases en':(aW mb mo)[i]? with
    | none=>rw[en'] at hi;cases hi
    | some n =>
     rw[en'] at hi;have hy:y=sV n:=(Option.some.inj hi).symm;subst hy;have hb2:=kp _ _ (s4 _ _ hb) (nlist hb);have ho2:=kp _ _ (s4 _ _ ho) (nlist ho);have ht2:=kp _ _ (s4 _ _ ht) (nlist ht);have hp32:=kp _ _ f3' np3;walk_at "rd";have enx:((aW mb mo).take (i+1)).filter (fun n=>decide (n∈aW mb mt) && decide (aq mo n≠aq mt n))=((aW mb mo).take i).filter (fun n=>decide (n∈aW mb mt) && decide (aq mo n≠aq mt n))++(if (decide (n∈aW mb mt) && decide (aq mo n≠aq mt n))=true then [n] else []):=by
      rw[List.take_add_one,en',List.filter_append];congr 1
      cases hq:(decide (n∈aW mb mt) && decide (aq mo n≠aq mt n)) with
      | true=>simp only[Option.toList,List.filter_cons,hq,if_true,List.filter_nil]
      | false=>simp only[Option.toList,List.filter_cons,hq,Bool.false_eq_true,if_false,List.filter_nil]
     intro J hJ;refine⟨_,.inl (aP.of hp32),rfl,uC _,?_⟩;rw[xF]
     by_cases c1:n∈aW mb mt
     ·rw[if_pos (decide_eq_true c1)]
      refine⟨.inl ⟨_,.inl ho2⟩,_,bN.k (k:=.inr (tx n)) ho2,.inl ⟨_,.inl ht2⟩,_,bN.k (k:=.inr (tx n)) ht2,?_⟩;rw[cx,cx,c_,c_];refine⟨gw _ _,hJ.go ?_⟩
      by_cases c2:aq mo n=aq mt n
      ·rw[if_neg (by simp[c2])]
       walk_at "rd";rw[enx,if_neg (by simp[c2]),List.append_nil];exact⟨⟨_,rfl⟩,⟨rs,hrs,prs⟩,kp⟩
      ·rw[if_pos (by simp[dQ,c2])]
       walk_at "rd";refine⟨.inl ⟨rfl,_,aP.of hrs⟩,.inl ⟨_,.inl hb2⟩,_,bN.k (k:=.inr (tx n)) hb2,.inl ⟨_,.inl ho2⟩,_,bN.k (k:=.inr (tx n)) ho2,.inl ⟨_,.inl ht2⟩,_,bN.k (k:=.inr (tx n)) ht2,by omega,fun p5 hp5=>⟨_,by rw[ah (ag hrs hp5)];exact hrs,?_,?_⟩⟩
       ·have q1:=Paired.length prs
        have q2:=List.length_filter_le (fun n=>decide (n∈aW mb mt) && decide (aq mo n≠aq mt n)) ((aW mb mo).take i);have q3:(aW mb mo).length<=(dF mb mo).length:=by
         unfold aW;refine Nat.le_trans (List.length_filter_le _ _) ?_;rw[(bH _).length_eq];exact Nat.le_refl _
        rw[List.length_map] at q1;rw[List.length_take] at q2;rw[List.length_map];omega
       ·rw[enx,if_pos (by simp[c1,c2]),List.map_append,cx,cx,cx,c_,c_,c_]
        have g5:∀ c oo,H2 c=some oo->c≠p4->upd (upd H2 p5 (.tup [sV n,oV (aq mb n),oV (aq mo n),oV (aq mt n)])) p4 (.lst (rs.map V.ref++[.ref p5])) c=some oo:=fun c oo hc hne=>by
         rw[ah hne,ah (ag hc hp5)];exact hc
        refine⟨⟨_,rfl⟩,⟨rs++[p5],by rw[aa,List.map_append];rfl,?_⟩,fun c oo hc hn=>?_⟩
        ·refine Paired.snoc (Paired.imp' (fun c row hc=>g5 c _ hc (bV hc hrs (by intro z;cases z))) prs) ?_
         rw[ah (Ne.symm (ag hrs hp5)),aa]
         rfl
        ·exact g5 c oo (kp c oo hc hn) (by simpa using hn)
     ·rw[if_neg (by simp[c1])]
      refine hJ.go ?_;rw[if_neg (by simp)];walk_at "rd";rw[enx,if_neg (by simp[c1]),List.append_nil];exact⟨⟨_,rfl⟩,⟨rs,hrs,prs⟩,kp⟩
   ·rintro σ H2 ⟨⟨nm,rfl⟩,⟨rs,hrs,prs⟩,kp⟩
    rw[List.length_map,List.take_length] at prs;have prs:Paired (fun a row=>H2 a=some (.tup (gN row))) rs (cX mb mo mt):=prs;have sH:aV H H2:=fun c oo hc=>kp c oo (s4 c oo hc) (nlist hc);walk_at "rd";intro I hI;intro J hJ;refine⟨by omega,fun p6 hp6=>⟨_,aP.of (by rw[ah (ag hrs hp6)];exact hrs),aP.of aa,hJ.go ?_⟩⟩;have s6:=(aV.refl H2).new (o:=.lst []) hp6;have HL6:=HL0.same (sH.trans s6);have hrs6:=s6 _ _ hrs;have prs6:=Paired.imp' (fun c row hc=>s6 c _ hc) prs;have hp36:=s6 _ _ (kp _ _ f3' np3);have sH6:=sH.trans s6;have hd6:=sH6 _ _ hd;generalize upd H2 p6 (.lst [])=G6 at s6 HL6 hrs6 prs6 hp36 sH6 hd6 ⊢;have erow:rs.map V.ref=[]↔cX mb mo mt=[]:=by
     have:=Paired.length prs;rw[List.map_eq_nil_iff,<- List.length_eq_zero_iff,<- List.length_eq_zero_iff,this]
    obtain⟨hh6,h16,h26,h36,h56,_,_,mm6,nn6,ne6,_,_⟩:=HL6;simp only[List.nodup_cons,List.mem_cons,List.not_mem_nil,or_false,not_or,List.nodup_nil,not_false_eq_true,and_true] at ne;obtain⟨⟨x01,x02,x03,x05⟩,⟨x12,x13,x15⟩,⟨x23,x25⟩,x35⟩:=ne
    by_cases er:cX mb mo mt=[]
    ·rw[if_neg (by simp[erow.mpr er])]
     walk_at "rd";refine hI.go ?_;walk_at "rd";have gn:nas[o]?=some (nas.getD o 0):=by
      have hi:o<nas.length:=by rw[ln];exact (List.getElem?_eq_some_iff.mp en).1
      simp[List.getD,hi]
     have hn0:=nn6 o _ nd gn en;intro I hI;refine⟨_,.inl (sH6 _ _ ho),fun p7 hp7=>?_⟩;have s7:=(aV.refl G6).new (o:=.dK (aM sV mo)) hp7;have f7:upd G6 p7 (.dK (aM sV mo)) p7=some (.dK (aM sV mo)):=aa;generalize upd G6 p7 (.dK (aM sV mo))=G7 at s7 f7 ⊢;refine hI.go ?_;walk_at "rd";intro I hI;refine⟨_,bN.k' (k:=.inr ("nodes":Str)) (s7 _ _ hh6) (dR _ _ _ _ _),_,cE.of (s7 _ _ hd6),.int (o:Int),rfl,a2,rfl,_,(o:Int),rfl,aP.of (s7 _ _ h26),.ref (nas.getD o 0),bS (by rw[List.getElem?_map,gn];rfl),_,rfl,_,.inl (s7 _ _ hn0),fun p8 hp8=>?_⟩;have s8:=(aV.refl G7).new (o:=.dK (aM nV nd)) hp8;have f8:upd G7 p8 (.dK (aM nV nd)) p8=some (.dK (aM nV nd)):=aa;have f78:=s8 _ _ f7;have n78:p7≠p8:=ag f7 hp8;generalize upd G7 p8 (.dK (aM nV nd))=G8 at s8 f8 f78 ⊢;refine hI.go ?_;walk_at "rd";have s68:=s7.trans s8;have sH8:=sH6.trans s68;have n7H:∀ {c:Addr}{oo:HO},G6 c=some oo->c≠p7:=fun hc=>ag hc hp7;have n8H:∀ {c:Addr}{oo:HO},G6 c=some oo->c≠p8:=fun hc=>ag (s7 _ _ hc) hp8;have nin:∀ {c:Addr}{oo:HO},G6 c=some oo->c≠h->c∉[h,p7,p8]:=fun hc hne=>by
      simp only[List.mem_cons,List.not_mem_nil,or_false,not_or];exact⟨hne,n7H hc,n8H hc⟩
     have dkt:∀ {c:Addr}{vs:List V},G6 c=some (.lst vs)->c≠h:=fun hc=>bV hc hh6 (by intro z;cases z);have n8:p8≠h:=Ne.symm (n8H hh6);have n7:p7≠h:=Ne.symm (n7H hh6);have lr:(aW mb mt).length<64:=by
      refine Nat.lt_of_le_of_lt ?_ u2;unfold aW;refine Nat.le_trans (List.length_filter_le _ _) ?_;rw[(bH _).length_eq];exact Nat.le_refl _
     have fb:∀ i,gQ (((aW mb mt).take i).foldl (aQ mt) ⟨0,st,mo,nd⟩).m (((aW mb mt).take i).foldl (aQ mt) ⟨0,st,mo,nd⟩).nd/\(((aW mb mt).take i).foldl (aQ mt) ⟨0,st,mo,nd⟩).m.length<=200/\(((aW mb mt).take i).foldl (aQ mt) ⟨0,st,mo,nd⟩).nd.length<=600000:=fun i=>by
      obtain⟨q1,q2,q3⟩:=oz (mt:=mt) (st:=st) nok ((aW mb mt).take i) fun n hn=>u3 n (List.mem_of_mem_take hn);have q4:((aW mb mt).take i).length<=64:=by rw[List.length_take];omega
      exact⟨q1,by omega,by omega⟩
     have hp38:=s68 _ _ hp36;have ht8:=sH8 _ _ ht;have np:∀ {c:Addr}{oo:HO},H c=some oo->c≠h->c∉[h,p7,p8]:=fun hc hne=>nin (sH6 _ _ hc) hne;refine⟨⟨_,aP.of hp38⟩,?_⟩;refine cC (K:=K) (a:=p3) (xs:=(aW mb mt).map sV) (fun i σ H2=>Hm G8 [some (.ref h),some (.ref d),some (.ref (mas.getD b 0)),some (.ref (mas.getD o 0)),some (.ref (mas.getD t 0)),some (.ref p2),some (.ref p3),some (.ref p4)] h a1 a2 a3 a5 p7 p8 (((aW mb mt).take i).foldl (aQ mt) ⟨0,st,mo,nd⟩) σ H2)
      ⟨⟨nm,rfl⟩,s68 _ _ hh6,f78,f8,Kp.refl _ _⟩ (fun i σ H2 I=>aP.of (I.kp _ _ hp38 (nin hp36 (dkt hp36)))) ?_ ?_
     ·rintro i y σ H9 hi ⟨⟨nm',rfl⟩,hh9,hv9,hn9,kp9⟩
      rw[List.getElem?_map] at hi
      cases en':(aW mb mt)[i]? with
      | none=>rw[en'] at hi;cases hi
      | some n =>
       rw[en'] at hi;have hy:y=sV n:=(Option.some.inj hi).symm;subst hy;obtain⟨q1,q2,q3⟩:=fb i;have enx:((aW mb mt).take (i+1)).foldl (aQ mt) ⟨0,st,mo,nd⟩=aQ mt (((aW mb mt).take i).foldl (aQ mt) ⟨0,st,mo,nd⟩) n:=by
        rw[List.take_add_one,en',List.foldl_append]
        rfl
       generalize ((aW mb mt).take i).foldl (aQ mt) ⟨0,st,mo,nd⟩=acc at hh9 hv9 hn9 q1 q2 q3 enx ⊢;have tne:mas.getD t 0≠h:=am _ (List.mem_of_getElem? et1);have ht9:=kp9 _ _ ht8 (np ht tne);walk_at "rd";refine⟨.inl ⟨_,.inl ht9⟩,_,bN.k (k:=.inr (tx n)) ht9,?_⟩;rw[cx,c_];refine⟨h,p7,p8,a1,a2,a3,a5,acc.m,acc.nd,acc.st,n,aq mt n,rfl,hh9,hv9,hn9,Ne.symm n7,Ne.symm n8,n78,u3 n (List.mem_of_getElem? en'),by omega,by omega,wg q1 n _,fun H' e1 e2 e3 kp'=>?_⟩;refine⟨(acc.made:Int),rfl,_,rfl,?_⟩;rw[enx];exact⟨⟨_,rfl⟩,e1,e2,e3,kp9.trans kp'⟩
     ·rintro σ H9 ⟨⟨nm',rfl⟩,hh9,hv9,hn9,kp9⟩
      rw[List.length_map,List.take_length] at hh9 hv9 hn9 ⊢;have k2:=k2 er;have ej:(aW mb mt).foldl (aQ mt) ⟨0,st,mo,nd⟩=bQ mb mo mt nd st:=rfl;rw[ej] at hh9 hv9 hn9 ⊢;have h59:=kp9 _ _ (s68 _ _ h56) (nin h56 (dkt h56));have h19:=kp9 _ _ (s68 _ _ h16) (nin h16 (dkt h16));have h29:=kp9 _ _ (s68 _ _ h26) (nin h26 (dkt h26));have h39:=kp9 _ _ (s68 _ _ h36) (nin h36 (dkt h36));have hd9:=kp9 _ _ (s68 _ _ hd6) (nin hd6 (bV hd6 hh6 (by intro z;cases z)));walk_at "rd";refine⟨_,bN.k' (k:=.inr ("made":Str)) hh9 (eL _ _ _ _ _),.inl ⟨rfl,_,aP.of h59⟩,a5,rfl,_,h59,by rw[List.length_map];omega,_,cE.of (by rw[ah (bV hd9 h59 (by intro z;cases z))];exact hd9),.int (o:Int),rfl,?_⟩;have c9:∀ c oo,H9 c=some oo->c≠a5->upd H9 a5 (.lst (made.map nV++[nV (bQ mb mo mt nd st).made])) c=some oo:=fun c oo hc hne=>by rw[ah hne];exact hc
      have dk5:∀ {c:Addr}{kvs:List (Key×V)},H9 c=some (.dK kvs)->c≠a5:=fun hc=>bV hc h59 (by intro z;cases z);have mm9:∀ (i:Nat) a m,mas[i]?=some a->ms[i]?=some m->H9 a=some (.dK (aM sV m)):=fun i a m e1 e2=>kp9 _ _ (s68 _ _ (mm6 i a m e1 e2)) (nin (mm6 i a m e1 e2) (am a (List.mem_of_getElem? e1)));have nn9:∀ (i:Nat) a m,nas[i]?=some a->ns[i]?=some m->H9 a=some (.dK (aM nV m)):=fun i a m e1 e2=>kp9 _ _ (s68 _ _ (nn6 i a m e1 e2)) (nin (nn6 i a m e1 e2) (an a (List.mem_of_getElem? e1)));refine⟨h,a1,a2,a3,a5,p7,p8,ms,ns,par,(bQ mb mo mt nd st).st,made++[(bQ mb mo mt nd st).made],mas,nas,(bQ mb mo mt nd st).m,(bQ mb mo mt nd st).nd,some o,rfl,
       ⟨c9 _ _ hh9 x05,c9 _ _ h19 x15,c9 _ _ h29 x25,c9 _ _ h39 x35,by rw[aa,List.map_append];rfl,lm,ln,fun i a m e1 e2=>c9 _ _ (mm9 i a m e1 e2) (dk5 (mm9 i a m e1 e2)),fun i a m e1 e2=>c9 _ _ (nn9 i a m e1 e2) (dk5 (nn9 i a m e1 e2)),HL0.ne,am,an⟩,
       c9 _ _ hv9 (dk5 hv9),c9 _ _ hn9 (dk5 hn9),n7,n8,by omega,by omega,by omega,fun H' HL' kp'=>?_⟩
      refine k2 p7 p8 H' HL' fun c oo hc hn=>?_;simp only[List.mem_cons,List.not_mem_nil,or_false,not_or] at hn;refine kp' c oo (c9 c oo (kp9 c oo (sH8 c oo hc) (np hc hn.1)) hn.2.2.2.2) ?_;simp only[List.mem_cons,List.not_mem_nil,or_false,not_or];exact⟨hn.2.1,hn.2.2.1,hn.2.2.2.1⟩
    ·rw[if_pos (by simp[erow,er])]
     walk_at "rd";refine⟨_,bN.k' (k:=.inr ("made":Str)) hh6 (eL _ _ _ _ _),.inl ⟨rfl,_,aP.of h56⟩,a5,rfl,_,h56,by rw[List.length_map];omega,by omega,fun p7 hp7=>?_⟩;have s7:∀ c oo,G6 c=some oo->c≠a5->upd (upd G6 a5 (.lst (made.map nV++[.int 0]))) p7 (.tup [.str ("clash":Str),.ref p4]) c=some oo:=fun c oo hc hne=>by
      have x1:upd G6 a5 (.lst (made.map nV++[.int 0])) c=some oo:=by rw[ah hne];exact hc
      rw[ah (ag x1 hp7)];exact x1
     have f7:upd (upd G6 a5 (.lst (made.map nV++[.int 0]))) p7 (.tup [.str ("clash":Str),.ref p4]) a5=some (.lst ((made++[0]).map nV)):=by
      rw[ah (ag aa hp7),aa,List.map_append];rfl
     have dka:∀ {c:Addr}{kvs:List (Key×V)},G6 c=some (.dK kvs)->c≠a5:=fun hc=>bV hc h56 (by intro z;cases z);refine k1 er _ _ ⟨s7 _ _ hh6 x05,s7 _ _ h16 x15,s7 _ _ h26 x25,s7 _ _ h36 x35,f7,lm,ln,fun i a m e1 e2=>s7 _ _ (mm6 i a m e1 e2) (dka (mm6 i a m e1 e2)),fun i a m e1 e2=>s7 _ _ (nn6 i a m e1 e2) (dka (nn6 i a m e1 e2)),HL0.ne,am,an⟩ ⟨p7,p4,rs,rfl,n4,aa,s7 _ _ hrs6 (fun z=>nlist h5 (by rw[<- z];simp)),Paired.imp' (fun c row hc=>s7 c _ hc (bV hc h56 (by intro z;cases z))) prs6⟩ fun c oo hc hn=>s7 c oo (sH6 c oo hc) (by simpa using hn)
end
end
section
section
inductive bY where
 | put (v:Int) (n x:Nm)
 | take (v:Int) (n:Nm)
 | join (b o t:Int)
noncomputable def bO:bY->List V
 | .put v n x=>[.str ("put":Str),.int v,sV n,sV x]
 | .take v n=>[.str ("take":Str),.int v,sV n]
 | .join b o t=>[.str ("join":Str),.int b,.int o,.int t]
noncomputable def bL:bY->List Int
 | .put v _ _=>[v]
 | .take v _=>[v]
 | .join b o t=>[b,o,t]
noncomputable def lF:bY->Option Nm
 | .put _ n _=>some n
 | .take _ n=>some n
 | .join _ _ _=>none
inductive yb where
 | ver (n:Nat)
 | noV
 | noN
 | clash (rows:List Row)
noncomputable def cM (F:Addr->Prop) (H:Hp) (v:V):yb->Prop
 | .ver n=>v=nV n
 | .noV=>v=.str ("no version":Str)
 | .noN=>v=.str ("no name":Str)
 | .clash rows=>gx F H v rows
structure LS where
 ms:List Mp
 ns:List Nd
 par:List (Option Nat)
 st:Nat
 made:List Nat
noncomputable def fc (S:LS) (d:bY):Bool:=(bL d).any fun i=>decide (i<0) || decide ((S.ms.length:Int)<=i)
noncomputable def gc (d:bY):Bool:=match lF d with
 | some n=>!isNm n
 | none=>false
noncomputable def nN (S:LS) (v:Nat) (n:Nm) (to:Option Nm):LS :=
 let r:=bu (S.ms.getD v []) (S.ns.getD v []) S.st n to
 ⟨S.ms++[r.m],S.ns++[r.nd],S.par++[some v],r.st,S.made++[r.made]⟩
noncomputable def aD (S:LS) (d:bY):yb×LS :=
 if fc S d=true then (.noV,{ S with made:=S.made++[0] }) else
 if gc d=true then (.noN,{ S with made:=S.made++[0] }) else
 match d with
 | .put v n x=>(.ver S.ms.length,nN S v.toNat n (some x))
 | .take v n=>(.ver S.ms.length,nN S v.toNat n none)
 | .join b o t =>
  let mb:=S.ms.getD b.toNat []
  let mo:=S.ms.getD o.toNat []
  let mt:=S.ms.getD t.toNat []
  if cX mb mo mt=[] then
   let r:=bQ mb mo mt (S.ns.getD o.toNat []) S.st
   (.ver S.ms.length,⟨S.ms++[r.m],S.ns++[r.nd],S.par++[some o.toNat],r.st,S.made++[r.made]⟩)
  else (.clash (cX mb mo mt),{ S with made:=S.made++[0] })
structure Eh (S:LS):Prop where
 l1:S.ms.length<=900
 l2:S.ns.length=S.ms.length
 l3:S.par.length=S.ms.length
 l4:S.made.length<=900
 mp:∀ (i:Nat) m,S.ms[i]?=some m->m.length<=100/\∀ n,(aq m n).isSome=true->n.length<=1000
 nd:∀ (i:Nat) m n,S.ms[i]?=some m->S.ns[i]?=some n->gQ m n/\n.length<=500000
 un:∀ (i j:Nat) m m',S.ms[i]?=some m->S.ms[j]?=some m'->(dF m m').length<64
noncomputable abbrev EZ:Stmt:=top 43
noncomputable abbrev NP:List Str:=["_law_hall","_law_deed","_law_versions","_law_word","_law_version","_law_values","_law_nodes","_law_to"]
theorem Gr:az NP ["_law_hall","_law_deed"] (ao EZ):=by walk_at "s"
theorem yL:(["_law_part"]:List Str).Nodup:=by decide +kernel
noncomputable def zG:Sp:=fun vs H Q _=>∃ (h a1 a2 a3 a5 d:Addr) (S:LS) (mas nas:List Addr) (D:bY),vs=[.ref h,.ref d] /\
 f_ H h a1 a2 a3 a5 S.ms S.ns S.par S.st S.made mas nas/\H d=some (.tup (bO D))/\Eh S/\(∀ n,lF D=some n->n.length<=1000) /\
 ∀ v mas' nas' H',cM (fun r=>H r=none) H' v (aD S D).1->f_ H' h a1 a2 a3 a5 (aD S D).2.ms (aD S D).2.ns (aD S D).2.par (aD S D).2.st (aD S D).2.made mas' nas'->Kp H H' [h,a1,a2,a3,a5]->Q v H'
theorem Dt (D:bY):iT (bO D) (some 1) none=(bO D).tail:=by cases D <;> rfl
theorem yu (D:bY):¬ (HT.cG (bO D).length 0 (some 1)=0/\HT.cG (bO D).length (bO D).length none=(bO D).length):=by
 have e1:¬ (HT.cG 4 0 (some 1)=0/\HT.cG 4 4 none=4):=by decide
 have e2:¬ (HT.cG 3 0 (some 1)=0/\HT.cG 3 3 none=3):=by decide
 cases D
 ·exact e1
 ·exact e2
 ·exact e1
noncomputable def Hb:V->Option V
 | .str _=>none
 | x=>some x
theorem Ea (D:bY):(bO D).tail.filterMap Hb=(bL D).map V.int:=by cases D <;> rfl
noncomputable def vI (b:Bool):V:=if b=true then .str ("no version":Str) else .str ("":Str)
noncomputable def ik (S:LS) (i:Int):Bool:=decide (i<0) || decide ((S.ms.length:Int)<=i)
theorem ni (S:LS) (D:bY):fc S D=(bL D).any (ik S):=rfl
structure HP (H1:Hp) (h d pv:Addr) (b:Bool) (σ:L2.St) (H2:Hp):Prop where
 ls:∃ x,σ=[some (.ref h),some (.ref d),some (.ref pv),some (vI b),x,none,none,none]
 hp:H2=H1
theorem Dj:¬ (("no version":Str)=("":Str)):=by decide +kernel
theorem GA:¬ (("no name":Str)=("":Str)):=by decide +kernel
theorem F_:¬ (("put":Str)=("join":Str)):=by decide +kernel
theorem FQ:¬ (("take":Str)=("join":Str)):=by decide +kernel
theorem Ff:¬ (("take":Str)=("put":Str)):=by decide +kernel
noncomputable def yQ (S:LS) (D:bY):Str:=if fc S D=true then "no version" else if gc D=true then "no name" else ""
theorem lI (S:LS) (D:bY):(∃ b o t,D=.join b o t)\/∃ (tag:Str) (v:Int) (n:Nm) (to:Option Nm),kU (bO D) 0=some (.str tag)/\kU (bO D) 1=some (.int v)/\kU (bO D) 2=some (sV n)/\lF D=some n/\v∈bL D/\¬ tag="join" /\
  (tag="put"/\(∃ x,to=some x/\kU (bO D) 3=some (sV x))\/¬ tag="put"/\to=none)/\(fc S D=false->gc D=false->aD S D=(.ver S.ms.length,nN S v.toNat n to)):=by
 cases D with
 | put v n x=>exact .inr ⟨"put",v,n,some x,rfl,rfl,rfl,rfl,by simp[bL],F_,.inl ⟨rfl,x,rfl,rfl⟩,fun e1 e2=>by unfold aD;rw[if_neg (by simp[e1]),if_neg (by simp[e2])]⟩
 | take v n=>exact .inr ⟨"take",v,n,none,rfl,rfl,rfl,rfl,by simp[bL],FQ,.inr ⟨Ff,rfl⟩,fun e1 e2=>by unfold aD;rw[if_neg (by simp[e1]),if_neg (by simp[e2])]⟩
 | join b o t=>exact .inl ⟨b,o,t,rfl⟩
theorem Ew {f:Addr}{fd:FuncData} (B:Bl mg) (c_law_is_name:bU P w K mg base aT 3 "_law_is_name" ["_law_name"] wJ) (c_law_joining:bU P w K mg base aT 3 "_law_joining" ["_law_hall","_law_deed"] qK) (c_law_set:bU P w K mg base aT 3 "_law_set" ["_law_hall","_law_values","_law_nodes","_law_name","_law_to"] sj)
  (c_law_note:bU P w K mg base aT 3 "_law_note" ["_law_hall","_law_values","_law_nodes","_law_parent"] nh) (F:cJ K "_law_plainly" "_law_plainly" EZ f fd):aR P w K mg base aT 4 f fd ["_law_hall","_law_deed"] zG:=by
 have sc:=Gr;walk_at "f"
 ·obtain⟨_,_,_,_,_,_,_,_,_,_,rfl,_⟩:=h
  rfl
 ·obtain⟨h,a1,a2,a3,a5,d,S,mas,nas,D,rfl,HL,hd,pre,ln,k⟩:=h
  have hu0:=hr.cL;have hu:=d_ hr;have hs:=sizeLine_eq;refine⟨_,(af (mv (i:=2) (N':=["_law_part"]) (ix:=[none]) sc.nd rfl rfl rfl ?S1 (nq K (dM (se K) (pv 1) (fh aj) fj)) (fun cl C fp s H=>(aI (i:=0) yL rfl (by walk_at "o"))) (fun cl C fp s H=>(eY (eA (cF (bg (br K) rfl B.isi boot_isinstance (ai (pv 0) (ai (bZ (v:=.ty "str") rfl B.str boot_str rfl) ae))))))) (fun cl C fp s H=>(pv 0)))
   (af (aA (i:=3) sc.nd rfl (by walk_at "o") au)
   (af (dv PassesOwn.never rfl (bI K (pv 2)) (aI (i:=4) sc.nd rfl (by walk_at "o")) (ak (a_ (PW.pt (gg (aG oR (pv 4) aj (aH _)) (fC (aG yX (pv 4) (bg (aX K) rfl B.len boot_len (ai (bB hu (pv 0) au (fun _ _=>rfl)) ae)) (aH _))))) (ak (aA (i:=3) sc.nd rfl (by walk_at "o") au)) aJ)))
   (af (dW (a_ (PW.pt (ke (aG dg (pv 3) au (aH _)) (ke (aG dY (aE (aF K) (pv 1) aj (fun _ _=>rfl)) au (aH _)) (jf (eA (cF (bJ c_law_is_name hr (ai (aE (aF K) (pv 1) aj (fun _ _=>rfl)) ae)))))))) (ak (aA (i:=3) sc.nd rfl (by walk_at "o") au)) aJ))
   (af (a_ (aG dY (pv 3) au (aH _)) (af (aZ (eG K PySem.F.plainAttrs_list PySem.F.slot_list_append PySem.F.type_list_append bo (bB hu (pv 0) au (fun _ _=>rfl)) (ai aj ae)))
    (ak (aw (pv 3)))) aJ)
   (af (a_ (aG dg (aE (aF K) (pv 1) aj (fun _ _=>rfl)) au (aH _)) (ak (aw (bJ c_law_joining hr (ai (pv 0) (ai (pv 1) ae))))) aJ)
   (af (cU (aA (i:=5) sc.nd rfl (by walk_at "o") (eO eW rfl B.dct boot_dict (ai (aE (aK K) (bB hu (pv 0) au (fun _ _=>rfl)) (aE (aF K) (pv 1) aj (fun _ _=>rfl)) (fun _ _=>rfl)) ae))))
   (af (cU (aA (i:=6) sc.nd rfl (by walk_at "o") (eO eW rfl B.dct boot_dict (ai (aE (aK K) (bB hu (pv 0) au (fun _ _=>rfl)) (aE (aF K) (pv 1) aj (fun _ _=>rfl)) (fun _ _=>rfl)) ae))))
   (af (aA (i:=7) sc.nd rfl (by walk_at "o") fF)
   (af (dW (a_ (aG dg (aE (aF K) (pv 1) aj (fun _ _=>rfl)) au (aH _)) (ak (aA (i:=7) sc.nd rfl (by walk_at "o") (aE (aF K) (pv 1) aj (fun _ _=>rfl)))) aJ))
   (af (aZ (eG K PySem.F.plainAttrs_list PySem.F.slot_list_append PySem.F.type_list_append bo (bB hu (pv 0) au (fun _ _=>rfl)) (ai (bJ c_law_set hr (ai (pv 0) (ai (pv 5) (ai (pv 6) (ai (aE (aF K) (pv 1) aj (fun _ _=>rfl)) (ai (pv 7) ae)))))) ae)))
   (ak (aw (bJ c_law_note hr (ai (pv 0) (ai (pv 5) (ai (pv 6) (ai (aE (aF K) (pv 1) aj (fun _ _=>rfl)) ae)))))))))))))))))),?_⟩
  case S1=>exact nL.is (N:=NP) (osc:=ao EZ) (by decide +kernel)
  walk_at "rd";have HL0:=HL;obtain⟨hh,h1,h2,h3,h5,lm,lnn,mm,nn,ne,am,an⟩:=HL;refine⟨_,cE.of hd,yu D,fun p hp=>⟨⟨_,cE.of aa⟩,?_⟩⟩;rw[Dt];have s0:=(aV.refl H).new (o:=.tup (bO D).tail) hp;have f0:upd H p (.tup (bO D).tail) p=some (.tup (bO D).tail):=aa;generalize upd H p (.tup (bO D).tail)=G0 at s0 f0 ⊢;refine nO Hb (cE.of f0) (by cases D <;> (simp[bO];omega)) (fun x hx R R' g1 g2=>?_) ?_
  ·refine⟨Wk.set rfl,?_⟩
   have hx':(∃ y,x=.str y)\/∃ i,x=.int i:=by
    cases D <;> simp only[bO,List.tail_cons,List.mem_cons,List.not_mem_nil,or_false] at hx
    ·rcases hx with rfl|rfl|rfl
     ·exact .inr ⟨_,rfl⟩
     ·exact .inl ⟨_,rfl⟩
     ·exact .inl ⟨_,rfl⟩
    ·rcases hx with rfl|rfl
     ·exact .inr ⟨_,rfl⟩
     ·exact .inl ⟨_,rfl⟩
    ·rcases hx with rfl|rfl|rfl <;> exact .inr ⟨_,rfl⟩
   walk_at "rd";rcases hx' with ⟨y,rfl⟩|⟨i,rfl⟩
   ·refine⟨_,"str",⟨rfl,rfl⟩,true,_,cz.str y,rfl,?_⟩
    exact FH (g2 rfl)
   ·refine⟨_,"str",⟨rfl,rfl⟩,false,_,cz.int i,rfl,?_⟩
    exact Fj (g1 _ rfl)
  ·intro p1 hp1
   rw[Ea];have s1:=s0.trans ((aV.refl G0).new (o:=.lst ((bL D).map V.int)) hp1);have f1:upd G0 p1 (.lst ((bL D).map V.int)) p1=some (.lst ((bL D).map V.int)):=aa;generalize upd G0 p1 (.lst ((bL D).map V.int))=G1 at s1 f1 ⊢;refine⟨⟨_,aP.of f1⟩,?_⟩;refine cC (K:=K) (a:=p1) (xs:=(bL D).map V.int) (fun i σ H2=>HP G1 h d p1 (((bL D).take i).any (ik S)) σ H2) ⟨⟨_,rfl⟩,rfl⟩ (fun i σ H2 I=>by rw[I.hp];exact aP.of f1) ?_ ?_
   ·rintro i y σ H2 hi ⟨⟨x,rfl⟩,rfl⟩
    rw[List.getElem?_map] at hi
    cases en':(bL D)[i]? with
    | none=>rw[en'] at hi;cases hi
    | some z =>
     rw[en'] at hi;have hy:y=.int z:=(Option.some.inj hi).symm;subst hy;walk_at "rd";have enx:((bL D).take (i+1)).any (ik S)=(((bL D).take i).any (ik S) || ik S z):=by
      rw[List.take_add_one,en',List.any_append];simp[Option.toList]
     intro J hJ;rw[enx] at hJ
     by_cases c1:z<0
     ·rw[if_pos (decide_eq_true c1)]
      have e:ik S z=true:=by unfold ik;simp[c1]
      rw[e,Bool.or_true] at hJ;refine hJ.go ?_;rw[if_pos rfl];walk_at "rd";exact⟨⟨_,rfl⟩,rfl⟩
     ·rw[if_neg (by simp[c1])]
      refine⟨_,bN.k' (k:=.inr ("maps":Str)) (s1 _ _ hh) (cy _ _ _ _ _),_,.inl ⟨_,aP.of (s1 _ _ h1),rfl⟩,?_⟩;rw[List.length_map,lm]
      by_cases c2:(S.ms.length:Int)<=z
      ·rw[decide_eq_true c2]
       have e:ik S z=true:=by unfold ik;simp[c2]
       rw[e,Bool.or_true] at hJ;refine hJ.go ?_;rw[if_pos rfl];walk_at "rd";exact⟨⟨_,rfl⟩,rfl⟩
      ·rw[decide_eq_false c2]
       have e:ik S z=false:=by unfold ik;simp[c1,c2]
       rw[e,Bool.or_false] at hJ;refine hJ.go ?_;rw[if_neg (by simp)];walk_at "rd";exact⟨⟨_,rfl⟩,rfl⟩
   ·rintro σ H2 ⟨⟨x,rfl⟩,rfl⟩
    rw[List.length_map,List.take_length,<- ni];simp only[List.nodup_cons,List.mem_cons,List.not_mem_nil,or_false,not_or,List.nodup_nil,not_false_eq_true,and_true] at ne;obtain⟨⟨x01,x02,x03,x05⟩,⟨x12,x13,x15⟩,⟨x23,x25⟩,x35⟩:=ne;have refuse:∀ (G:Hp) (a:yb) (v:V),aV H G->(aD S D)=(a,{ S with made:=S.made++[0] })->(∀ G',cM (fun r=>H r=none) G' v a)->Q v (upd G a5 (.lst (S.made.map nV++[.int 0]))):=fun G a v sG el ha=>by
     have dk5:∀ {c:Addr}{kvs:List (Key×V)},H c=some (.dK kvs)->c≠a5:=fun hc=>bV hc h5 (by intro z;cases z);have g5:∀ c oo,H c=some oo->c≠a5->upd G a5 (.lst (S.made.map nV++[.int 0])) c=some oo:=fun c oo hc hne=>by rw[ah hne];exact sG c oo hc
     rw[el] at k;exact k v mas nas _ (ha _) ⟨g5 _ _ hh x05,g5 _ _ h1 x15,g5 _ _ h2 x25,g5 _ _ h3 x35,by rw[aa,List.map_append];rfl,lm,lnn,fun i a m e1 e2=>g5 _ _ (mm i a m e1 e2) (dk5 (mm i a m e1 e2)),fun i a m e1 e2=>g5 _ _ (nn i a m e1 e2) (dk5 (nn i a m e1 e2)),HL0.ne,am,an⟩ fun c oo hc hn=>by
      simp only[List.mem_cons,List.not_mem_nil,or_false,not_or] at hn;exact g5 c oo hc hn.2.2.2.2
    walk_at "rd";refine⟨fun σ' G=>aV H G/\σ'=[some (.ref h),some (.ref d),some (.ref p1),some (.str (yQ S D)),x,none,none,none],?_,?_⟩
    ·intro J hJ
     cases eb:fc S D with
     | true =>
      refine⟨rfl,?_⟩;rw[if_neg (by simp[vI,Dj])];refine hJ.go ?_;rw[if_neg (by simp)];walk_at "rd";exact⟨s1,by rw[eb];unfold yQ;rw[eb];rfl⟩
     | false =>
      refine⟨rfl,?_⟩;rw[if_pos (by simp[vI])];refine⟨_,cE.of (s1 _ _ hd),?_⟩;rcases lI S D with ⟨b,o,t,rfl⟩|⟨tag,v,n,to,g0,_,g2,uY,_,hj,_⟩
      ·refine⟨_,rfl,rfl,?_⟩
       rw[if_neg (by simp)];refine hJ.go ?_;rw[if_neg (by simp)];walk_at "rd";exact⟨s1,by rw[eb];unfold yQ;rw[eb];rfl⟩
      ·refine⟨.str tag,g0,rfl,?_⟩
       rw[if_pos (by simp[hj])];refine⟨_,cE.of (s1 _ _ hd),sV n,g2,n,rfl,ln n uY,fun H3 kp3=>⟨_,rfl,hJ.go ?_⟩⟩;have s3:aV H H3:=fun c oo hc=>kp3 c oo (s1 c oo hc) (by simp)
       cases ei:isNm n with
       | false =>
        rw[if_pos (by rfl)];walk_at "rd";exact⟨s3,by unfold yQ;rw[eb,if_neg (by simp),if_pos (by unfold gc;rw[uY];dsimp only;rw[ei];rfl)]⟩
       | true =>
        rw[if_neg (by simp)];walk_at "rd";exact⟨s3,by rw[eb];unfold yQ;rw[eb,if_neg (by simp),if_neg (by unfold gc;rw[uY];dsimp only;rw[ei];simp)];rfl⟩
    rintro _ G ⟨sG,rfl⟩;walk_at "rd";intro J hJ
    cases eb:fc S D with
    | true =>
     rw[show yQ S D="no version" from if_pos eb] at hJ ⊢;refine⟨rfl,hJ.go ?_⟩;rw[if_pos (by simp[Dj])];walk_at "rd";refine⟨_,bN.k' (k:=.inr ("made":Str)) (sG _ _ hh) (eL _ _ _ _ _),.inl ⟨rfl,_,aP.of (sG _ _ h5)⟩,a5,rfl,_,sG _ _ h5,by rw[List.length_map];have:=pre.l4;omega,?_⟩;exact refuse _ .noV _ sG (by unfold aD;rw[if_pos eb]) fun _=>rfl
    | false =>
     cases en0:gc D with
     | true =>
      rw[show yQ S D="no name" from (if_neg (by rw[eb];simp)).trans (if_pos en0)] at hJ ⊢;refine⟨rfl,hJ.go ?_⟩;rw[if_pos (by simp[GA])];walk_at "rd";refine⟨_,bN.k' (k:=.inr ("made":Str)) (sG _ _ hh) (eL _ _ _ _ _),.inl ⟨rfl,_,aP.of (sG _ _ h5)⟩,a5,rfl,_,sG _ _ h5,by rw[List.length_map];have:=pre.l4;omega,?_⟩;exact refuse _ .noN _ sG (by unfold aD;rw[if_neg (by simp[eb]),if_pos en0]) fun _=>rfl
     | false =>
      rw[show yQ S D="" from (if_neg (by rw[eb];simp)).trans (if_neg (by rw[en0];simp))] at hJ ⊢;refine⟨rfl,hJ.go ?_⟩;rw[if_neg (by simp)];walk_at "rd";intro J hJ;refine⟨_,cE.of (sG _ _ hd),?_⟩;have gi:∀ {z:Int},z∈bL D->∃ i:Nat,z=(i:Int)/\i<S.ms.length:=fun {z} hz=>by
       rw[ni] at eb;have:=List.any_eq_false.mp eb z hz;unfold ik at this;simp only[Bool.or_eq_true,decide_eq_true_eq,not_or] at this;exact⟨z.toNat,by omega,by omega⟩
      rcases lI S D with ⟨zb,zo,zt,rfl⟩|⟨tag,v,n,to,g0,g1,g2,uY,hvd,hj,hto,hel⟩
      ·obtain⟨b,rfl,hb⟩:=gi (z:=zb) (by simp[bL])
       obtain⟨o,rfl,ho⟩:=gi (z:=zo) (by simp[bL]);obtain⟨t,rfl,ht⟩:=gi (z:=zt) (by simp[bL]);have gm:∀ {i:Nat},i<S.ms.length->S.ms[i]?=some (S.ms.getD i []):=fun {i} hi=>by simp[List.getD,hi]
       have en:S.ns[o]?=some (S.ns.getD o []):=by have:=pre.l2;simp[List.getD,show o<S.ns.length by omega]
       refine⟨_,rfl,rfl,hJ.go ?_⟩;rw[if_pos (by simp)];walk_at "rd";have b1:=pre.l1;have b2:=pre.l2;have b3:=pre.l3;have b4:=pre.l4;have qb:=pre.mp b _ (gm hb);have qo:=pre.mp o _ (gm ho);have qt:=pre.mp t _ (gm ht);have qn:=pre.nd o _ _ (gm ho) en;have el0:aD S (.join (b:Int) (o:Int) (t:Int))=if cX (S.ms.getD b []) (S.ms.getD o []) (S.ms.getD t [])=[] then
         (.ver S.ms.length,⟨S.ms++[(bQ (S.ms.getD b []) (S.ms.getD o []) (S.ms.getD t []) (S.ns.getD o []) S.st).m],S.ns++[(bQ (S.ms.getD b []) (S.ms.getD o []) (S.ms.getD t []) (S.ns.getD o []) S.st).nd],S.par++[some o],(bQ (S.ms.getD b []) (S.ms.getD o []) (S.ms.getD t []) (S.ns.getD o []) S.st).st,S.made++[(bQ (S.ms.getD b []) (S.ms.getD o []) (S.ms.getD t []) (S.ns.getD o []) S.st).made]⟩)
         else (.clash (cX (S.ms.getD b []) (S.ms.getD o []) (S.ms.getD t [])),{ S with made:=S.made++[0] }):=by
        unfold aD;rw[if_neg (by simp[eb]),if_neg (by simp[gc,lF])];simp only[Int.toNat_natCast]
       refine⟨h,a1,a2,a3,a5,d,S.ms,S.ns,S.par,S.st,S.made,mas,nas,b,o,t,S.ms.getD b [],S.ms.getD o [],S.ms.getD t [],S.ns.getD o [],rfl,HL0.same sG,sG _ _ hd,gm hb,gm ho,gm ht,en,by omega,by omega,by omega,by omega,qb.1,qo.1,qt.1,qn.2,qn.1,pre.un _ _ _ _ (gm hb) (gm ho),pre.un _ _ _ _ (gm hb) (gm ht),fun n hn=>?_,fun er v H' HL' ra kp'=>?_,fun er va na H' HL' kp'=>?_⟩
       ·have:=gZ.mp hn
        by_cases e1:(aq (S.ms.getD b []) n).isSome=true
        ·exact qb.2 n e1
        ·refine qt.2 n ?_
         cases e2:aq (S.ms.getD t []) n with
         | some _=>rfl
         | none =>
          rw[Option.not_isSome_iff_eq_none] at e1;exact absurd (e1.trans e2.symm) this
       ·rw[el0,if_neg er] at k
        obtain⟨y1,y2,y3,y4,y5,y6⟩:=ra;exact k v mas nas H' ⟨y1,y2,y3,y4,sG.free y5,y6⟩ HL' fun c oo hc hn=>kp' c oo (sG c oo hc) fun z=>hn (by
         simp only[List.mem_cons,List.not_mem_nil,or_false] at z ⊢;exact .inr (.inr (.inr (.inr z))))
       ·rw[el0,if_pos er] at k
        exact k _ _ _ H' rfl HL' fun c oo hc hn=>kp' c oo (sG c oo hc) hn
      ·refine⟨.str tag,g0,rfl,hJ.go ?_⟩
       rw[if_neg (by simp[hj])];walk_at "rd";intro I hI;obtain⟨i,rfl,hi⟩:=gi (z:=v) hvd;have em:S.ms[i]?=some (S.ms.getD i []):=by simp[List.getD,hi]
       have en:S.ns[i]?=some (S.ns.getD i []):=by have:=pre.l2;simp[List.getD,show i<S.ns.length by omega]
       have ea:mas[i]?=some (mas.getD i 0):=by simp[List.getD,show i<mas.length by omega]
       have eq:nas[i]?=some (nas.getD i 0):=by have:=pre.l2;simp[List.getD,show i<nas.length by omega]
       have hm0:=mm i _ _ ea em;have hn0:=nn i _ _ eq en;refine⟨_,bN.k' (k:=.inr ("maps":Str)) (sG _ _ hh) (cy _ _ _ _ _),_,cE.of (sG _ _ hd),.int (i:Int),g1,a1,rfl,_,(i:Int),rfl,aP.of (sG _ _ h1),.ref (mas.getD i 0),bS (by rw[List.getElem?_map,ea];rfl),_,rfl,_,.inl (sG _ _ hm0),fun p7 hp7=>?_⟩;have s7:=(aV.refl G).new (o:=.dK (aM sV (S.ms.getD i []))) hp7;have f7:upd G p7 (.dK (aM sV (S.ms.getD i []))) p7=some (.dK (aM sV (S.ms.getD i []))):=aa;generalize upd G p7 (.dK (aM sV (S.ms.getD i [])))=G7 at s7 f7 ⊢;have t7:=sG.trans s7;refine hI.go ?_;walk_at "rd";intro I hI;refine⟨_,bN.k' (k:=.inr ("nodes":Str)) (t7 _ _ hh) (dR _ _ _ _ _),_,cE.of (t7 _ _ hd),.int (i:Int),g1,a2,rfl,_,(i:Int),rfl,aP.of (t7 _ _ h2),.ref (nas.getD i 0),bS (by rw[List.getElem?_map,eq];rfl),_,rfl,_,.inl (t7 _ _ hn0),fun p8 hp8=>?_⟩;have s8:=(aV.refl G7).new (o:=.dK (aM nV (S.ns.getD i []))) hp8;have f8:upd G7 p8 (.dK (aM nV (S.ns.getD i []))) p8=some (.dK (aM nV (S.ns.getD i []))):=aa;have f78:=s8 _ _ f7;have n78:p7≠p8:=ag f7 hp8;have n7:∀ {c:Addr}{oo:HO},H c=some oo->c≠p7:=fun hc=>ag (sG _ _ hc) hp7;have n8:∀ {c:Addr}{oo:HO},H c=some oo->c≠p8:=fun hc=>ag (t7 _ _ hc) hp8;generalize upd G7 p8 (.dK (aM nV (S.ns.getD i [])))=G8 at s8 f8 f78 ⊢;have t8:=t7.trans s8;refine hI.go ?_;walk_at "rd";refine⟨fun σ' G'=>G8=G'/\σ'=[some (.ref h),some (.ref d),some (.ref p1),some (.str (Str.ofString "")),x,some (.ref p7),some (.ref p8),some (oV to)],?_,?_⟩
       ·intro J hJ
        refine⟨_,cE.of (t8 _ _ hd),.str tag,g0,rfl,hJ.go ?_⟩;rcases hto with ⟨rfl,xx,rfl,g3⟩|⟨ht,rfl⟩
        ·rw[if_pos (by simp)]
         walk_at "rd";exact⟨_,cE.of (t8 _ _ hd),g3⟩
        ·rw[if_neg (by simp[ht])]
         walk_at "rd"
         rfl
       rintro _ _ ⟨rfl,rfl⟩;walk_at "rd";have el:=hel eb en0;rw[Int.toNat_natCast] at el;have q1:=pre.mp i _ em;have q2:=pre.nd i _ _ em en;refine⟨_,bN.k' (k:=.inr ("made":Str)) (t8 _ _ hh) (eL _ _ _ _ _),.inl ⟨rfl,_,aP.of (t8 _ _ h5)⟩,_,cE.of (t8 _ _ hd),sV n,g2,h,p7,p8,a1,a2,a3,a5,S.ms.getD i [],S.ns.getD i [],S.st,n,to,rfl,t8 _ _ hh,f78,f8,n7 hh,n8 hh,n78,ln n uY,by omega,by omega,wg q2.1 n _,fun H9 hh9 hv9 hn9 kp9=>?_⟩;have c8:∀ c oo,H c=some oo->c≠h->H9 c=some oo:=fun c oo hc hne=>kp9 c oo (t8 c oo hc) (by
        simp only[List.mem_cons,List.not_mem_nil,or_false,not_or];exact⟨hne,n7 hc,n8 hc⟩)
       have h59:=c8 _ _ h5 (Ne.symm x05);have hd9:=c8 _ _ hd (bV hd hh (by intro z;cases z));generalize er:bu (S.ms.getD i []) (S.ns.getD i []) S.st n to=r at hh9 hv9 hn9 ⊢;refine⟨a5,rfl,_,h59,by rw[List.length_map];have:=pre.l4;omega,_,cE.of (by rw[ah (bV hd9 h59 (by intro z;cases z))];exact hd9),.int (i:Int),g1,?_⟩;have c9:∀ c oo,H9 c=some oo->c≠a5->upd H9 a5 (.lst (S.made.map nV++[nV r.made])) c=some oo:=fun c oo hc hne=>by rw[ah hne];exact hc
       have dk5:∀ {c:Addr}{kvs:List (Key×V)},H9 c=some (.dK kvs)->c≠a5:=fun hc=>bV hc h59 (by intro z;cases z);have mm9:∀ (i:Nat) a m,mas[i]?=some a->S.ms[i]?=some m->H9 a=some (.dK (aM sV m)):=fun i a m e1 e2=>c8 _ _ (mm i a m e1 e2) (am a (List.mem_of_getElem? e1));have nn9:∀ (i:Nat) a m,nas[i]?=some a->S.ns[i]?=some m->H9 a=some (.dK (aM nV m)):=fun i a m e1 e2=>c8 _ _ (nn i a m e1 e2) (an a (List.mem_of_getElem? e1));have b1:=pre.l1;have b2:=pre.l2;have b3:=pre.l3;refine⟨h,a1,a2,a3,a5,p7,p8,S.ms,S.ns,S.par,r.st,S.made++[r.made],mas,nas,r.m,r.nd,some i,rfl,
        ⟨c9 _ _ hh9 x05,c9 _ _ (c8 _ _ h1 (Ne.symm x01)) x15,c9 _ _ (c8 _ _ h2 (Ne.symm x02)) x25,c9 _ _ (c8 _ _ h3 (Ne.symm x03)) x35,by rw[aa,List.map_append];rfl,lm,lnn,fun i a m e1 e2=>c9 _ _ (mm9 i a m e1 e2) (dk5 (mm9 i a m e1 e2)),fun i a m e1 e2=>c9 _ _ (nn9 i a m e1 e2) (dk5 (nn9 i a m e1 e2)),HL0.ne,am,an⟩,
        c9 _ _ hv9 (dk5 hv9),c9 _ _ hn9 (dk5 hn9),Ne.symm (n7 hh),Ne.symm (n8 hh),by omega,by omega,by omega,fun H' HL' kp'=>?_⟩
       rw[el] at k;unfold nN at k;rw[er] at k;refine k _ (mas++[p7]) (nas++[p8]) H' rfl HL' fun c oo hc hn=>?_;simp only[List.mem_cons,List.not_mem_nil,or_false,not_or] at hn;refine kp' c oo (c9 c oo (c8 c oo hc hn.1) hn.2.2.2.2) ?_;simp only[List.mem_cons,List.not_mem_nil,or_false,not_or];exact⟨hn.2.1,hn.2.2.1,hn.2.2.2.1⟩
end
end
section
section
noncomputable abbrev GN:Stmt:=top 44
noncomputable abbrev HW:List Str:=["_law_seed","_law_far","_law_spot","_law_first"]
theorem FD:az HW ["_law_seed"] (ao GN):=by walk_at "s"
noncomputable def zP:Sp:=fun vs H Q _=>∃ s:Nat,vs=[.int (s:Int)]/\s<2 ^ 64/\∀ (x:Str) H',x.length<=90->isNm x.cps.toList=true->Kp H H' []->Q (.str x) H'
theorem jl (a b:List Nat):isNm (a++b)=(isNm a && isNm b):=List.all_append
theorem jA {a b:List Nat} (h:isNm b=true) (hs:∀ c∈a,c∈b):isNm a=true:=by
 unfold isNm at *;rw[List.all_eq_true] at *;exact fun c hc=>h c (hs c hc)
theorem fi (a b:Str):(a++b).cps.toList=a.cps.toList++b.cps.toList:=by
 show (a.cps++b.cps).toList=_;simp
theorem lS (l:List Str) (n:Nat) (hl:(l.all fun x=>decide (x.length<=n) && isNm x.cps.toList)=true) (i:Int) (h0:0<=i) (h1:i<(l.length:Int)):∃ x:Str,kU (l.map V.str) i=some (.str x)/\x.length<=n/\isNm x.cps.toList=true:=by
 obtain⟨j,rfl⟩:=Int.eq_ofNat_of_zero_le h0;have hj:j<l.length:=by omega
 have q:=List.all_eq_true.mp hl _ (List.getElem_mem hj);rw[Bool.and_eq_true] at q;exact⟨l[j],bS (by rw[List.getElem?_map,List.getElem?_eq_getElem hj];rfl),of_decide_eq_true q.1,q.2⟩
theorem wz (x:Str) (i:Int) (h0:0<=i) (h1:i<=(x.length:Int)) (hx:isNm x.cps.toList=true):isNm (StrLaws.sliceText x none (some i)).cps.toList=true:=by
 obtain⟨j,rfl⟩:=Int.eq_ofNat_of_zero_le h0;have:j<=x.cps.toList.length:=by
  have e:x.length=x.cps.toList.length:=by simp[Str.length]
  rw[e] at h1;omega
 have h:=jk this;rw[<- gY x] at h;rw[h,fg];exact jA hx fun c hc=>List.mem_of_mem_take hc
theorem pR (x:Str) (i:Int) (h0:0<=i) (h1:i<=(x.length:Int)) (hx:isNm x.cps.toList=true):isNm (StrLaws.sliceText x (some i) none).cps.toList=true:=by
 obtain⟨j,rfl⟩:=Int.eq_ofNat_of_zero_le h0;have:j<=x.cps.toList.length:=by
  have e:x.length=x.cps.toList.length:=by simp[Str.length]
  rw[e] at h1;omega
 have h:=jD this;rw[<- gY x] at h;rw[h,fg];exact jA hx fun c hc=>List.mem_of_mem_drop hc
theorem wa (l:List Str) (n:Nat) (hl:(l.all fun x=>decide (x.length<=n))=true) (i:Int) (h0:0<=i) (h1:i<(l.length:Int)):∃ x:Str,kU (l.map V.str) i=some (.str x)/\x.length<=n:=by
 obtain⟨j,rfl⟩:=Int.eq_ofNat_of_zero_le h0;have hj:j<l.length:=by omega
 refine⟨l[j],bS (by rw[List.getElem?_map,List.getElem?_eq_getElem hj];rfl),?_⟩;exact of_decide_eq_true (List.all_eq_true.mp hl _ (List.getElem_mem hj))
theorem iX {α:Type} (l:List α) (i:Int) (h0:0<=i) (h1:i<(l.length:Int)):∃ x,kU l i=some x/\x∈l:=by
 obtain⟨j,rfl⟩:=Int.eq_ofNat_of_zero_le h0;have hj:j<l.length:=by omega
 exact⟨l[j],bS (List.getElem?_eq_getElem hj),List.getElem_mem hj⟩
theorem xK:(Str.ofString "abcdefghijklmnopqrstuvwxyzabcdefghijklmn").length=40:=by decide +kernel
theorem xM:(Str.ofString "abcdefghijklmnopqrstuvwxyz").length=26:=by decide +kernel
theorem sP (x:Str) (i:Int) (h0:0<=i) (h1:i<=(x.length:Int)):(StrLaws.sliceText x none (some i)).length<=x.length:=by
 obtain⟨j,rfl⟩:=Int.eq_ofNat_of_zero_le h0;have:j<=x.cps.toList.length:=by
  have e:x.length=x.cps.toList.length:=by simp[Str.length]
  rw[e] at h1;omega
 have h:=jk this;rw[<- gY x] at h;rw[h,fQ,List.length_take];have e:x.length=x.cps.toList.length:=by simp[Str.length]
 rw[e];exact Nat.min_le_right _ _
theorem oC (x:Str) (i:Int) (h0:0<=i) (h1:i<=(x.length:Int)):(StrLaws.sliceText x (some i) none).length<=x.length:=by
 obtain⟨j,rfl⟩:=Int.eq_ofNat_of_zero_le h0;have:j<=x.cps.toList.length:=by
  have e:x.length=x.cps.toList.length:=by simp[Str.length]
  rw[e] at h1;omega
 have h:=jD this;rw[<- gY x] at h;rw[h,fQ,List.length_drop];have e:x.length=x.cps.toList.length:=by simp[Str.length]
 rw[e];exact Nat.sub_le _ _
theorem Ei {f:Addr}{fd:FuncData} (B:Bl mg) (F:cJ K "_law_name_by" "_law_name_by" GN f fd):aR P w K mg base aT 1 f fd ["_law_seed"] zP:=by
 have sc:=FD;walk_at "f"
 ·obtain⟨_,rfl,_⟩:=h
  rfl
 ·obtain⟨s,rfl,hs0,k⟩:=h
  have hu0:=hr.cL;have hu:=d_ hr;have hs:=sizeLine_eq;refine⟨_,(af (a_ (aG dg (aC ba (pv 0) aj) aj (aH _)) (af (aA (i:=1) sc.nd rfl (by walk_at "o") au)
    (af (aA (i:=2) sc.nd rfl (by walk_at "o") (aC ba (aC bW (pv 0) aj) aj))
    (ak (aw (aC cK (aC cK (dM qg (pv 1) fj (fh (pv 2))) (aE (aK K) (bw (ai au (ai au ae))) (aC ba (aC bW (pv 0) aj) aj) (fun _ _=>rfl))) (dM qg (pv 1) (fh (aC eC (pv 2) aj)) fj)))))) aJ)
   (af (a_ (aG dg (aC ba (pv 0) aj) aj (aH _)) (af (aA (i:=3) sc.nd rfl (by walk_at "o") (aE qC au (aC ba (aC bW (pv 0) aj) aj) (fun _ _=>rfl)))
    (ak (aw (aC cK (pv 3) (aE (aK K) (bw (ai au (ai au (ai au (ai au ae))))) (aC ba (aC bW (pv 0) aj) aj) (fun _ _=>rfl)))))) aJ)
   (ak (aw (aE (aK K) (bw (ai au (ai au (ai au (ai au (ai au (ai au (ai au (ai au (ai au (ai au (ai au ae)))))))))))) (aC ba (pv 0) aj) (fun _ _=>rfl)))))),?_⟩
  walk_at "rd";have far:=xK;intro J hJ;refine⟨by omega,rfl,hJ.go ?_⟩
  by_cases c1:(s:Int) % 23=7
  ·rw[if_pos (decide_eq_true c1)]
   walk_at "rd";have t1:=sP (Str.ofString "abcdefghijklmnopqrstuvwxyzabcdefghijklmn") ((s:Int) / 23 % 40) (by omega) (by omega);have fn:isNm (Str.ofString "abcdefghijklmnopqrstuvwxyzabcdefghijklmn").cps.toList=true:=by decide +kernel
   have u1:=wz (Str.ofString "abcdefghijklmnopqrstuvwxyzabcdefghijklmn") ((s:Int) / 23 % 40) (by omega) (by omega) fn;have u2:=pR (Str.ofString "abcdefghijklmnopqrstuvwxyzabcdefghijklmn") ((s:Int) / 23 % 40+1) (by omega) (by omega) fn;have t2:=oC (Str.ofString "abcdefghijklmnopqrstuvwxyzabcdefghijklmn") ((s:Int) / 23 % 40+1) (by omega) (by omega);refine⟨by omega,by omega,by omega,by omega,fun p hp=>⟨by omega,by omega,_,aP.of aa,?_⟩⟩;obtain⟨x,e1,e2,e4⟩:=lS ["a","z"] 1 (by decide +kernel) ((s:Int) / 920 % 2) (by omega) (by simp;omega);refine⟨_,e1,x,rfl,by omega,by omega,by rw[Str.length_append];omega,k _ _ ?_ ?_ ((Kp.refl H []).new hp)⟩
   ·rw[Str.length_append,Str.length_append]
    omega
   ·rw[fi,fi,jl,jl,u1,e4,u2];rfl
  ·rw[if_neg (by simp[c1])]
   walk_at "rd";intro J hJ;refine⟨by omega,rfl,hJ.go ?_⟩
   by_cases c2:(s:Int) % 6=4
   ·rw[if_pos (decide_eq_true c2)]
    walk_at "rd";have ab:=xM;obtain⟨c,e0,ec⟩:=iX (Str.ofString "abcdefghijklmnopqrstuvwxyz").cps.toList ((s:Int) / 6 % 26) (by omega) (by
     have:(Str.ofString "abcdefghijklmnopqrstuvwxyz").length=(Str.ofString "abcdefghijklmnopqrstuvwxyz").cps.toList.length:=by simp[Str.length]
     omega)
    refine⟨by omega,by omega,by omega,c,e0,by omega,fun p hp=>⟨by omega,by omega,_,aP.of aa,?_⟩⟩;obtain⟨x,e1,e2,e4⟩:=lS ["","a","qu","abc"] 3 (by decide +kernel) ((s:Int) / 156 % 4) (by omega) (by simp;omega);have e3:(⟨#[c]⟩:Str).length=1:=rfl;refine⟨_,e1,x,rfl,by omega,k _ _ ?_ ?_ ((Kp.refl H []).new hp)⟩
    ·rw[Str.length_append]
     omega
    ·rw[fi,jl,e4,Bool.and_true]
     exact jA (b:=(Str.ofString "abcdefghijklmnopqrstuvwxyz").cps.toList) (by decide +kernel) fun d hd=>by
      rw[show d=c by simpa using hd];exact ec
   ·rw[if_neg (by simp[c2])]
    walk_at "rd";refine⟨by omega,fun p hp=>⟨by omega,_,aP.of aa,?_⟩⟩;obtain⟨x,e1,e2,e4⟩:=lS ["a","ab","","b","abc","aa","z","abca","a","ab","bz"] 4 (by decide +kernel) ((s:Int) % 11) (by omega) (by simp;omega);exact⟨_,e1,k _ _ (by omega) e4 ((Kp.refl H []).new hp)⟩
noncomputable abbrev FJ:Stmt:=top 45
noncomputable abbrev Hy:List Str:=["_law_seed","_law_count","_law_version","_law_name","_law_words","_law_base","_law_other"]
theorem F5:az Hy ["_law_seed","_law_count"] (ao FJ):=by walk_at "s"
noncomputable def dH (d:bY):Prop:=(∀ n,lF d=some n->n.length<=90/\∀ c∈n,c<128)/\(∀ v n x,d=.put v n x->x.length<=90)/\∀ i∈bL d,i.natAbs<=10 ^ 31
noncomputable def BO:Sp:=fun vs H Q _=>∃ s c:Nat,vs=[.int (s:Int),.int (c:Int)]/\s<2 ^ 40/\0<c/\c<1000/\∀ (D:bY) (p:Addr) H',dH D->H p=none->H' p=some (.tup (bO D))->Kp H H' []->Q (.ref p) H'
theorem EN {f:Addr}{fd:FuncData} (B:Bl mg) (c_law_name_by:bU P w K mg base aT 1 "_law_name_by" ["_law_seed"] zP) (F:cJ K "_law_deed_by" "_law_deed_by" FJ f fd):aR P w K mg base aT 2 f fd ["_law_seed","_law_count"] BO:=by
 have sc:=F5;walk_at "f"
 ·obtain⟨_,_,rfl,_⟩:=h
  rfl
 ·obtain⟨s,c,rfl,hs0,hc0,hc1,k⟩:=h
  have hu0:=hr.cL;have hu:=d_ hr;have hs:=sizeLine_eq;refine⟨_,(af (aA (i:=2) sc.nd rfl (by walk_at "o") (bg (kW rfl) rfl B.mx boot_max (ai aj (ai (aC ff (aC ff (pv 1) aj) (aC ba (pv 0) aj)) ae))))
   (af (dW (a_ (aG dg (aC ba (pv 0) aj) aj (aH _)) (ak (aA (i:=2) sc.nd rfl (by walk_at "o") (aC ff (aC ba (aC bW (pv 0) aj) (aC eC (pv 1) aj)) aj))) aJ))
   (af (dW (a_ (aG dg (aC ba (pv 0) aj) aj (aH _)) (ak (aA (i:=2) sc.nd rfl (by walk_at "o") (aC qT aj aj))) aJ))
   (af (aA (i:=3) sc.nd rfl (by walk_at "o") (bJ c_law_name_by hr (ai (aC bW (pv 0) aj) ae)))
   (af (dW (a_ (PW.pt (gg (aG dg (aC ba (pv 0) aj) aj (aH _)) (fC (PW.pt (ke (aG dg (aC ba (pv 0) aj) aj (aH _)) (jf (aG dg (aC ba (aC bW (pv 0) aj) aj) aj (aH _)))))))) (ak (aA (i:=3) sc.nd rfl (by walk_at "o") (aE qC au (aC ba (aC bW (pv 0) aj) aj) (fun _ _=>rfl)))) aJ))
   (af (a_ (aG oR (aC ba (aC bW (pv 0) aj) aj) aj (aH _)) (af (aA (i:=4) sc.nd rfl (by walk_at "o") (aC cK (aC cK au (eO mB rfl B.str boot_str (ai (aC ba (pv 0) aj) ae))) au))
    (ak (aw (cm (ai au (ai (pv 2) (ai (pv 3) (ai (aE (aK K) (bw (ai au (ai au (ai au (ai (pv 4) ae))))) (aC ba (aC bW (pv 0) aj) aj) (fun _ _=>rfl)) ae)))))))) aJ)
   (af (a_ (aG oR (aC ba (aC bW (pv 0) aj) aj) aj (aH _)) (ak (aw (cm (ai au (ai (pv 2) (ai (pv 3) ae)))))) aJ)
   (af (aA (i:=5) sc.nd rfl (by walk_at "o") (aC ba (aC bW (pv 0) aj) (pv 1)))
   (af (aA (i:=6) sc.nd rfl (by walk_at "o") (aC ba (aC bW (pv 0) (aC ng aj (pv 1))) (pv 1)))
   (af (dW (a_ (aG dg (aC ba (pv 0) aj) aj (aH _)) (ak (aA (i:=5) sc.nd rfl (by walk_at "o") (aE (aK K) (bw (ai (fH dJ aj) (ai (pv 1) (ai (fH dJ aj) (ai (aC eC (pv 1) aj) (ai (aC qT aj aj) ae)))))) (aC ba (aC bW (pv 0) aj) aj) (fun _ _=>rfl)))) aJ))
   (af (dW (a_ (aG dg (aC ba (pv 0) aj) aj (aH _)) (ak (aA (i:=6) sc.nd rfl (by walk_at "o") (aE (aK K) (bw (ai (fH dJ aj) (ai (pv 1) (ai (fH dJ aj) (ai (aC eC (pv 1) aj) (ai (aC qT aj aj) ae)))))) (aC ba (aC bW (pv 0) aj) aj) (fun _ _=>rfl)))) aJ))
   (ak (aw (cm (ai au (ai (pv 5) (ai (pv 2) (ai (pv 6) ae)))))))))))))))))),?_⟩
  walk_at "rd";have sc0:=Int.emod_nonneg ((s:Int) / 13) (show (c:Int)+2≠0 by omega);have sc1:=Int.emod_lt_of_pos ((s:Int) / 13) (show 0<(c:Int)+2 by omega);refine⟨by omega,_,_,⟨rfl,rfl⟩,fun σ' H'=>∃ v:Int,v.natAbs<=10 ^ 31/\σ'=[some (.int s),some (.int c),some (.int v),none,none,none,none]/\H=H',fun J hJ=>⟨by omega,rfl,hJ.go ?_⟩,?_⟩
  ·by_cases c1:(s:Int) % 13=5
   ·rw[if_pos (decide_eq_true c1)]
    walk_at "rd";exact⟨by omega,by omega,_,by omega,rfl⟩
   ·rw[if_neg (by simp[c1])]
    walk_at "rd";exact⟨_,by split <;> omega,rfl⟩
  rintro _ _ ⟨v1,b1,rfl,rfl⟩;walk_at "rd";refine⟨fun σ' H1=>∃ v:Int,v.natAbs<=10 ^ 31/\σ'=[some (.int s),some (.int c),some (.int v),none,none,none,none]/\H=H1,fun J hJ=>⟨by omega,rfl,hJ.go ?_⟩,?_⟩
  ·by_cases c1:(s:Int) % 41=7
   ·rw[if_pos (decide_eq_true c1)]
    walk_at "rd";exact⟨⟨by omega,by omega,by decide⟩,_,by decide,rfl⟩
   ·rw[if_neg (by simp[c1])]
    walk_at "rd";exact⟨_,b1,rfl⟩
  rintro _ _ ⟨v,bv,rfl,rfl⟩;walk_at "rd";refine⟨by omega,s / 3,by rw[Int.natCast_ediv];rfl,by omega,fun x H1 lx nx kp1=>?_⟩;have ax:∀ c∈x.cps.toList,c<128:=fun c hc=>by
   have:=of_decide_eq_true (List.all_eq_true.mp nx c hc);omega
  refine⟨fun σ' H2=>∃ n:Str,n.length<=90/\(∀ c∈n.cps.toList,c<128)/\σ'=[some (.int s),some (.int c),some (.int v),some (.str n),none,none,none]/\H1=H2,fun J hJ=>⟨by omega,rfl,?_⟩,?_⟩
  ·have odd:(Str.ofString "ABCMZ 019-_.,:;!?{}[]()<>/`~@#&*+=").length=34:=by decide +kernel
   obtain⟨y,e0,my⟩:=iX (Str.ofString "ABCMZ 019-_.,:;!?{}[]()<>/`~@#&*+=").cps.toList ((s:Int) / 37 % 34) (by omega) (by
     have:(Str.ofString "ABCMZ 019-_.,:;!?{}[]()<>/`~@#&*+=").length=(Str.ofString "ABCMZ 019-_.,:;!?{}[]()<>/`~@#&*+=").cps.toList.length:=by simp[Str.length]
     omega)
   have e3:(⟨#[y]⟩:Str).length=1:=rfl;have ay:∀ c∈(⟨#[y]⟩:Str).cps.toList,c<128:=fun c hc=>by
    have e:c=y:=by simpa using hc
    have all:((Str.ofString "ABCMZ 019-_.,:;!?{}[]()<>/`~@#&*+=").cps.toList.all fun c=>decide (c<128))=true:=by decide +kernel
    exact e ▸ of_decide_eq_true (List.all_eq_true.mp all y my)
   by_cases c1:(s:Int) % 37=9
   ·rw[if_pos (decide_eq_true c1)]
    refine hJ.go ?_;rw[if_pos rfl];walk_at "rd";exact⟨by omega,by omega,by omega,y,e0,_,by omega,ay,rfl⟩
   ·rw[if_neg (by simp[c1])]
    refine⟨by omega,rfl,?_⟩
    by_cases c2:(s:Int) % 13=5
    ·rw[if_pos (decide_eq_true c2)]
     refine⟨by omega,by omega,rfl,hJ.go ?_⟩
     by_cases c3:(s:Int) / 13 % 3=1
     ·rw[if_pos (decide_eq_true c3)]
      walk_at "rd";exact⟨by omega,by omega,by omega,y,e0,_,by omega,ay,rfl⟩
     ·rw[if_neg (by simp[c3])]
      walk_at "rd";exact⟨_,lx,ax,rfl⟩
    ·rw[if_neg (by simp[c2])]
     refine hJ.go ?_;rw[if_neg (by simp)];walk_at "rd";exact⟨_,lx,ax,rfl⟩
  rintro _ _ ⟨n,ln,an,rfl,rfl⟩;walk_at "rd";have nl:n.cps.toList.length=n.length:=by simp[Str.length]
  have sn:V.str n=sV n.cps.toList:=congrArg V.str (gY n);have q1:H1=H1:=rfl;intro J hJ;refine⟨by omega,by omega,hJ.go ?_⟩
  by_cases c1:(s:Int) / 33 % 8<4
  ·rw[if_pos (decide_eq_true c1)]
   walk_at "rd";have w1:∀ j:Nat,j<9->(Str.ofString (toString (j:Int))).length<=5/\((j:Int)).natAbs.log2<1920:=by decide +kernel
   obtain⟨w2,w3⟩:=w1 (s % 9) (Nat.mod_lt _ (by omega));have w4:((s % 9:Nat):Int)=(s:Int) % 9:=by omega
   rw[w4] at w2 w3;have w5:(Str.ofString "No. ").length=4:=by decide +kernel
   have w6:(Str.ofString " of X").length=5:=by decide +kernel
   have w7:(Str.ofString "No. "++Str.ofString (toString ((s:Int) % 9))++Str.ofString " of X").length<=14:=by
    rw[Str.length_append,Str.length_append];omega
   generalize Str.ofString (toString ((s:Int) % 9))=wd at w2 w7 ⊢;refine⟨by omega,w3,by omega,by rw[Str.length_append];omega,by omega,fun p hp=>⟨by omega,by omega,_,aP.of aa,?_⟩⟩;generalize Str.ofString "No. "++wd++Str.ofString " of X"=wo at w7 ⊢;obtain⟨x,e1,e2⟩:=wa ["x","y","",wo] 14 (by
    rw[List.all_cons,List.all_cons,List.all_cons,List.all_cons];have:decide (wo.length<=14)=true:=decide_eq_true w7;rw[this]
    decide +kernel) ((s:Int) / 7 % 4) (by omega) (by simp;omega)
   refine⟨_,e1,by omega,fun p1 hp1=>?_⟩;have xl:x.cps.toList.length=x.length:=by simp[Str.length]
   have f1:H p1=none:=(kp1.trans ((Kp.refl H1 []).new hp)).free hp1 (by simp);refine k (.put v n.cps.toList x.cps.toList) p1 _ ⟨fun m hm=>?_,fun _ _ _ h=>?_,fun i hi=>?_⟩ f1 ?_ ((kp1.new (kp1.free hp (by simp))).new f1)
   ·rw[<- Option.some.inj hm];exact⟨by omega,an⟩
   ·cases h;omega
   ·rw[show i=v by simpa [bL] using hi];exact bv
   ·rw[aa,sn,show V.str x=sV x.cps.toList from congrArg V.str (gY x)]
    rfl
  ·rw[if_neg (by simp[c1])]
   walk_at "rd";intro J hJ;refine⟨by omega,by omega,hJ.go ?_⟩
   by_cases c2:(s:Int) / 33 % 8<6
   ·rw[if_pos (decide_eq_true c2)]
    walk_at "rd";refine⟨by omega,fun p1 hp1=>?_⟩;have f1:H p1=none:=kp1.free hp1 (by simp);refine k (.take v n.cps.toList) p1 _ ⟨fun m hm=>?_,fun _ _ _ h=>?_,fun i hi=>?_⟩ f1 ?_ (kp1.new f1)
    ·rw[<- Option.some.inj hm];exact⟨by omega,an⟩
    ·cases h
    ·rw[show i=v by simpa [bL] using hi];exact bv
    ·rw[aa,sn]
     rfl
   ·rw[if_neg (by simp[c2])]
    walk_at "rd";have d0:=Int.emod_nonneg ((s:Int) / 5) (show (c:Int)≠0 by omega);have d1:=Int.emod_lt_of_pos ((s:Int) / 5) (show 0<(c:Int) by omega);have d2:=Int.emod_nonneg ((s:Int) / (5 * c)) (show (c:Int)≠0 by omega);have d3:=Int.emod_lt_of_pos ((s:Int) / (5 * c)) (show 0<(c:Int) by omega);have few:∀ z:Int,z∈[-1,(c:Int),-2,(c:Int)+1,10 ^ 30]->z.natAbs<=10 ^ 31:=fun z hz=>by
     simp only[List.mem_cons,List.not_mem_nil,or_false] at hz;rcases hz with rfl|rfl|rfl|rfl|rfl <;> omega
    have pk:∀ i:Int,0<=i->i<5->∃ z:Int,kU [V.int (-1),V.int (c:Int),V.int (-2),V.int ((c:Int)+1),V.int (10 ^ Int.toNat 30)] i=some (.int z)/\z.natAbs<=10 ^ 31:=fun i h0 h1=>by
     obtain⟨y,e1,e2⟩:=iX [V.int (-1),V.int (c:Int),V.int (-2),V.int ((c:Int)+1),V.int (10 ^ Int.toNat 30)] i h0 (by simp;omega);simp only[List.mem_cons,List.not_mem_nil,or_false] at e2;rcases e2 with rfl|rfl|rfl|rfl|rfl
     ·exact⟨_,e1,few _ (by simp)⟩
     ·exact⟨_,e1,few _ (by simp)⟩
     ·exact⟨_,e1,few _ (by simp)⟩
     ·exact⟨_,e1,few _ (by simp)⟩
     ·exact⟨_,e1,few _ (by simp)⟩
    refine⟨by omega,by omega,.inl (by omega),by omega,by omega,fun σ' H2=>∃ z:Int,z.natAbs<=10 ^ 31/\σ'=[some (.int s),some (.int c),some (.int v),some (.str n),none,some (.int z),some (.int ((s:Int) / (5 * c) % c))]/\Kp H H2 [],fun J hJ=>⟨by omega,rfl,hJ.go ?_⟩,?_⟩
    ·by_cases c3:(s:Int) % 17=3
     ·rw[if_pos (decide_eq_true c3)]
      walk_at "rd";refine⟨⟨by omega,by omega,by decide⟩,by omega,fun p hp=>⟨by omega,by omega,_,aP.of aa,?_⟩⟩;obtain⟨z,e1,e2⟩:=pk ((s:Int) / 17 % 5) (by omega) (by omega);exact⟨_,e1,z,e2,rfl,kp1.new (kp1.free hp (by simp))⟩
     ·rw[if_neg (by simp[c3])]
      walk_at "rd";exact⟨_,by omega,rfl,kp1⟩
    rintro _ H2 ⟨z,bz,rfl,kp2⟩;walk_at "rd";refine⟨fun σ' H3=>∃ t:Int,t.natAbs<=10 ^ 31/\σ'=[some (.int s),some (.int c),some (.int v),some (.str n),none,some (.int z),some (.int t)]/\Kp H H3 [],?_,?_⟩
    ·intro J hJ
     refine⟨by omega,rfl,hJ.go ?_⟩
     by_cases c3:(s:Int) % 19=4
     ·rw[if_pos (decide_eq_true c3)]
      walk_at "rd";refine⟨⟨by omega,by omega,by decide⟩,by omega,fun p hp=>⟨by omega,by omega,_,aP.of aa,?_⟩⟩;obtain⟨t,e1,e2⟩:=pk ((s:Int) / 19 % 5) (by omega) (by omega);exact⟨_,e1,t,e2,rfl,kp2.new (kp2.free hp (by simp))⟩
     ·rw[if_neg (by simp[c3])]
      walk_at "rd";exact⟨_,by omega,rfl,kp2⟩
    rintro _ H3 ⟨t,bt,rfl,kp3⟩;walk_at "rd";refine⟨by omega,fun p1 hp1=>?_⟩;have f1:H p1=none:=kp3.free hp1 (by simp);refine k (.join z v t) p1 _ ⟨fun m hm=>?_,fun _ _ _ h=>?_,fun i hi=>?_⟩ f1 aa (kp3.new f1)
    ·cases hm
    ·cases h
    ·simp only[bL,List.mem_cons,List.not_mem_nil,or_false] at hi
     rcases hi with rfl|rfl|rfl <;> assumption
end
end
section
open PySem L2
structure dO (k:Nat) (S:LS):Prop where
 l0:0<S.ms.length
 l1:S.ms.length<=k+1
 l2:S.ns.length=S.ms.length
 l3:S.par.length=S.ms.length
 l4:S.made.length=k
 us:∃ U:List Nm,U.length<=k/\(∀ u∈U,u.length<=90)/\∀ (i:Nat) m,S.ms[i]?=some m->aO m/\∀ n,(aq m n).isSome=true->n∈U
 nd:∀ (i:Nat) m n,S.ms[i]?=some m->S.ns[i]?=some n->gQ m n/\n.length<=k * 6000
noncomputable def S0:LS:=⟨[[]],[[]],[none],0,[]⟩
theorem ed {α:Type}{a b:α}{i:Nat} (h:[a][i]?=some b):b=a:=by
 cases i with
 | zero=>exact (Option.some.inj h).symm
 | succ n=>cases h
theorem zJ:dO 0 S0:=by
 refine⟨Nat.one_pos,Nat.le_refl _,rfl,rfl,rfl,⟨[],Nat.le_refl _,by simp,fun i m h=>?_⟩,fun i m n h1 h2=>?_⟩
 ·rw[ed h]
  exact⟨List.nodup_nil,fun n hn=>by cases hn⟩
 ·rw[ed h1,ed h2]
  refine⟨fun b=>Iff.intro (fun h=>?_) ?_,Nat.le_refl _⟩
  ·cases h
  ·rintro ⟨p,hp,_⟩;cases hp
theorem dO.pre {k:Nat}{S:LS} (D:dO k S) (hk:k<=63):Eh S:=by
 obtain⟨U,u1,u2,u3⟩:=D.us;have l1:=D.l1;have l4:=D.l4;have le:∀ {i:Nat}{m:Mp},S.ms[i]?=some m->m.length<=U.length:=fun {i m} h=>by
  obtain⟨q1,q2⟩:=u3 i m h;have:=eR q1 (u:=U) fun x hx=>q2 x ((mem_keys m x).mp hx)
  rwa [List.length_map] at this
 refine⟨by omega,D.l2,D.l3,by omega,fun i m h=>⟨by have:=le h;omega,fun n hn=>?_⟩,fun i m n h1 h2=>⟨(D.nd i m n h1 h2).1,?_⟩,fun i j m m' h1 h2=>?_⟩
 ·have:=u2 n ((u3 i m h).2 n hn)
  omega
 ·have:=(D.nd i m n h1 h2).2
  have:k * 6000<=63 * 6000:=Nat.mul_le_mul_right _ hk;omega
 ·have:=eR (kS (u3 i m h1).1 (u3 j m' h2).1) (u:=U) fun x hx=>by
   rcases gv.mp hx with q|q
   ·exact (u3 i m h1).2 x q
   ·exact (u3 j m' h2).2 x q
  omega
theorem cS {α:Type}{l:List α}{a b:α}{i:Nat} (h:(l++[a])[i]?=some b):(i<l.length/\l[i]?=some b)\/(i=l.length/\b=a):=by
 by_cases hi:i<l.length
 ·rw[List.getElem?_append_left hi] at h;exact .inl ⟨hi,h⟩
 ·have hi:l.length<=i:=by omega
  rw[List.getElem?_append_right hi] at h;have:=ed h
  cases hj:i - l.length with
  | zero=>exact .inr ⟨by omega,this⟩
  | succ n=>rw[hj] at h;cases h
theorem k_ {mt:Mp}{U:List Nm}:∀ (l:List Nm) (a:LR),gQ a.m a.nd->aO a.m->(∀ n,(aq a.m n).isSome=true->n∈U)->(∀ n∈l,n∈U)->(∀ u∈U,u.length<=90) ->
  gQ (l.foldl (aQ mt) a).m (l.foldl (aQ mt) a).nd/\aO (l.foldl (aQ mt) a).m/\(∀ n,(aq (l.foldl (aQ mt) a).m n).isSome=true->n∈U)/\(l.foldl (aQ mt) a).nd.length<=a.nd.length+91 * l.length
 | [],a,h1,h2,h3,_,_=>⟨h1,h2,h3,Nat.le_refl _⟩
 | n::l,a,h1,h2,h3,h4,h5=>by
  rw[List.foldl_cons];have hn:=h4 n List.mem_cons_self;obtain⟨i1,i2,i3,i4⟩:=k_ (mt:=mt) (U:=U) l (aQ mt a n) (mU h1 _ _ _) (q_ h2 _ _ _ _) (fun j hj=>by
   have e:aq (aQ mt a n).m j=if j=n then aq mt n else aq a.m j:=mP a.m a.nd a.st n (aq mt n) j
   rw[e] at hj
   by_cases ej:j=n
   ·rw[ej];exact hn
   ·rw[if_neg ej] at hj;exact h3 j hj) (fun x hx=>h4 x (List.mem_cons_of_mem _ hx)) h5
  refine⟨i1,i2,i3,?_⟩;have q2:=gA a.m a.nd a.st n (aq mt n);have e2:(aQ mt a n).nd=(bu a.m a.nd a.st n (aq mt n)).nd:=rfl;rw[e2] at i4;have q3:=h5 n hn;rw[List.length_cons];omega
theorem dO.more {k:Nat}{S:LS} (D:dO k S) {U':List Nm} (hu:∀ (i:Nat) m,S.ms[i]?=some m->aO m/\∀ n,(aq m n).isSome=true->n∈U') (hl:U'.length<=k+1) (h90:∀ u∈U',u.length<=90)
  {m:Mp}{nd:Nd} (ok:gQ m nd) (len:nd.length<=(k+1) * 6000) (kn:aO m) (ku:∀ n,(aq m n).isSome=true->n∈U') (p:Option Nat) (st made:Nat) :
  dO (k+1) ⟨S.ms++[m],S.ns++[nd],S.par++[p],st,S.made++[made]⟩:=by
 have l1:=D.l1;have l2:=D.l2;have l3:=D.l3;have l4:=D.l4;refine⟨by rw[List.length_append,List.length_singleton];omega,?_,?_,?_,?_,⟨U',hl,h90,fun i m' h=>?_⟩,fun i m' n' h1 h2=>?_⟩
 ·show (S.ms++[m]).length<=_
  rw[List.length_append,List.length_singleton];omega
 ·show (S.ns++[nd]).length=(S.ms++[m]).length
  rw[List.length_append,List.length_append,l2];rfl
 ·show (S.par++[p]).length=(S.ms++[m]).length
  rw[List.length_append,List.length_append,l3];rfl
 ·show (S.made++[made]).length=_
  rw[List.length_append,l4];rfl
 ·rcases cS h with ⟨_,h⟩|⟨_,rfl⟩
  ·exact hu i m' h
  ·exact⟨kn,ku⟩
 ·rcases cS h1 with ⟨hi,h1⟩|⟨hi,rfl⟩
  ·rcases cS h2 with ⟨_,h2⟩|⟨hj,_⟩
   ·have:=D.nd i m' n' h1 h2
    exact⟨this.1,Nat.le_trans this.2 (Nat.mul_le_mul_right _ (Nat.le_succ _))⟩
   ·omega
  ·rcases cS h2 with ⟨hj,_⟩|⟨_,rfl⟩
   ·omega
   ·exact⟨ok,len⟩
theorem dO.same {k:Nat}{S:LS} (D:dO k S):dO (k+1) { S with made:=S.made++[0] }:=by
 have l1:=D.l1;have l4:=D.l4;obtain⟨U,u1,u2,u3⟩:=D.us;refine⟨D.l0,?_,D.l2,D.l3,?_,⟨U,by omega,u2,u3⟩,fun i m n h1 h2=>?_⟩
 ·show S.ms.length<=_;omega
 ·show (S.made++[0]).length=_
  rw[List.length_append,l4];rfl
 ·have:=D.nd i m n h1 h2
  exact⟨this.1,Nat.le_trans this.2 (Nat.mul_le_mul_right _ (Nat.le_succ _))⟩
theorem dO.get {k:Nat}{S:LS} (D:dO k S) {i:Nat} (h:i<S.ms.length):S.ms[i]?=some (S.ms.getD i [])/\S.ns[i]?=some (S.ns.getD i []):=by
 have:=D.l2;exact⟨by simp[List.getD,h],by simp[List.getD,show i<S.ns.length by omega]⟩
theorem dO.one {k:Nat}{S:LS} (D:dO k S) {i:Nat} (h:i<S.ms.length) {n:Nm} (hn:n.length<=90) (to:Option Nm):dO (k+1) (nN S i n to):=by
 obtain⟨U,u1,u2,u3⟩:=D.us;obtain⟨g1,g2⟩:=D.get h;have q:=D.nd i _ _ g1 g2;obtain⟨q1,q2⟩:=u3 i _ g1;refine D.more (U':=n::U) (fun j m hm=>⟨(u3 j m hm).1,fun x hx=>List.mem_cons_of_mem _ ((u3 j m hm).2 x hx)⟩) (by rw[List.length_cons];omega) (fun u hu=>?_) (mU q.1 _ _ _) ?_ (q_ q1 _ _ _ _) (fun x hx=>?_) _ _ _
 ·rcases List.mem_cons.mp hu with rfl|hu
  ·exact hn
  ·exact u2 u hu
 ·have:=gA (S.ms.getD i []) (S.ns.getD i []) S.st n to
  have q3:=q.2;rw[Nat.add_mul];omega
 ·rw[mP] at hx
  by_cases e:x=n
  ·rw[e];exact List.mem_cons_self
  ·rw[if_neg e] at hx;exact List.mem_cons_of_mem _ (q2 x hx)
theorem dO.join {k:Nat}{S:LS} (D:dO k S) (hk:k<=63) {b o t:Nat} (hb:b<S.ms.length) (ho:o<S.ms.length) (ht:t<S.ms.length) (p:Option Nat) :
  dO (k+1) ⟨S.ms++[(bQ (S.ms.getD b []) (S.ms.getD o []) (S.ms.getD t []) (S.ns.getD o []) S.st).m],S.ns++[(bQ (S.ms.getD b []) (S.ms.getD o []) (S.ms.getD t []) (S.ns.getD o []) S.st).nd],S.par++[p],
   (bQ (S.ms.getD b []) (S.ms.getD o []) (S.ms.getD t []) (S.ns.getD o []) S.st).st,S.made++[(bQ (S.ms.getD b []) (S.ms.getD o []) (S.ms.getD t []) (S.ns.getD o []) S.st).made]⟩:=by
 obtain⟨U,u1,u2,u3⟩:=D.us;have ub:=u3 b _ (D.get hb).1;have uo:=u3 o _ (D.get ho).1;have ut:=u3 t _ (D.get ht).1;have qo:=D.nd o _ _ (D.get ho).1 (D.get ho).2;have hc:∀ n∈aW (S.ms.getD b []) (S.ms.getD t []),n∈U:=fun n hn=>by
  have:=gZ.mp hn
  by_cases e1:(aq (S.ms.getD b []) n).isSome=true
  ·exact ub.2 n e1
  ·refine ut.2 n ?_
   cases e2:aq (S.ms.getD t []) n with
   | some _=>rfl
   | none =>
    rw[Option.not_isSome_iff_eq_none] at e1;exact absurd (e1.trans e2.symm) this
 obtain⟨i1,i2,i3,i4⟩:=k_ (mt:=S.ms.getD t []) (U:=U) (aW (S.ms.getD b []) (S.ms.getD t [])) ⟨0,S.st,S.ms.getD o [],S.ns.getD o []⟩ qo.1 uo.1 uo.2 hc u2;refine D.more (U':=U) u3 (by omega) u2 i1 ?_ i2 i3 _ _ _;have lc:(aW (S.ms.getD b []) (S.ms.getD t [])).length<64:=by
  refine Nat.lt_of_le_of_lt ?_ ((D.pre hk).un b t _ _ (D.get hb).1 (D.get ht).1);unfold aW;refine Nat.le_trans (List.length_filter_le _ _) ?_;rw[(bH _).length_eq];exact Nat.le_refl _
 have q3:=qo.2;rw[Nat.add_mul];refine Nat.le_trans i4 ?_;show (S.ns.getD o []).length+91 * _<=_;omega
theorem dO.step {k:Nat}{S:LS} (D:dO k S) (hk:k<=63) {d:bY} (ok:dH d):dO (k+1) (aD S d).2:=by
 unfold aD
 by_cases eb:fc S d=true
 ·rw[if_pos eb];exact D.same
 ·rw[if_neg eb]
  by_cases en:gc d=true
  ·rw[if_pos en];exact D.same
  ·rw[if_neg en]
   have gi:∀ {z:Int},z∈bL d->z.toNat<S.ms.length:=fun {z} hz=>by
    rw[ni,Bool.not_eq_true] at eb;have:=List.any_eq_false.mp eb z hz;unfold ik at this;simp only[Bool.or_eq_true,decide_eq_true_eq,not_or] at this;omega
   cases d with
   | put v n x=>exact D.one (gi (by simp[bL])) (ok.1 n rfl).1 _
   | take v n=>exact D.one (gi (by simp[bL])) (ok.1 n rfl).1 _
   | join b o t =>
    dsimp only
    split
    ·exact D.join hk (gi (by simp[bL])) (gi (by simp[bL])) (gi (by simp[bL])) _
    ·exact D.same
noncomputable def bE:List bY->LS->List yb×LS
 | [],S=>([],S)
 | d::r,S=>((aD S d).1::(bE r (aD S d).2).1,(bE r (aD S d).2).2)
theorem eP (l:List bY) (d:bY):∀ S,bE (l++[d]) S=((bE l S).1++[(aD (bE l S).2 d).1],(aD (bE l S).2 d).2):=by
 induction l with
 | nil=>intro S;rfl
 | cons e r ih =>
  intro S;rw[List.cons_append];show ((aD S e).1::(bE (r++[d]) (aD S e).2).1,(bE (r++[d]) (aD S e).2).2)=_;rw[ih]
  rfl
theorem pW:∀ (l:List bY) {k:Nat}{S:LS},dO k S->k+l.length<=64->(∀ d∈l,dH d)->dO (k+l.length) (bE l S).2
 | [],_,_,D,_,_=>D
 | d::r,k,S,D,hk,ok=>by
  rw[List.length_cons] at hk;have:=pW r (D.step (by omega) (ok d List.mem_cons_self)) (by omega) fun x hx=>ok x (List.mem_cons_of_mem _ hx);rw[List.length_cons];have e:k+(r.length+1)=k+1+r.length:=by omega
  rw[e];exact this
end
section
section
theorem f_.kp {H H':Hp}{h a1 a2 a3 a5:Addr}{ms:List Mp}{ns:List Nd}{par:List (Option Nat)}{st:Nat}{made:List Nat}{mas nas:List Addr}{L:List Addr} (A:f_ H h a1 a2 a3 a5 ms ns par st made mas nas) (e:Kp H H' L)
  (hL:∀ c∈[h,a1,a2,a3,a5],c∉L) (hk:∀ c kv,H c=some (.dK kv)->c∉L):f_ H' h a1 a2 a3 a5 ms ns par st made mas nas :=
 ⟨e _ _ A.hh (hL _ (by simp)),e _ _ A.h1 (hL _ (by simp)),e _ _ A.h2 (hL _ (by simp)),e _ _ A.h3 (hL _ (by simp)),e _ _ A.h5 (hL _ (by simp)),A.lm,A.ln,fun i a m x y=>e _ _ (A.mm i a m x y) (hk _ _ (A.mm i a m x y)),fun i a m x y=>e _ _ (A.nn i a m x y) (hk _ _ (A.nn i a m x y)),A.ne,A.am,A.an⟩
theorem gx.kp {F F':Addr->Prop}{H H':Hp}{L:List Addr}{v:V}{rows:List Row} (r:gx F H v rows) (e:Kp H H' L) (hF:∀ r,(∃ o,H r=some o)->F r->F' r) (hF':∀ r,(∃ o,H r=some o)->F r->r∉L) (ht:∀ c xs,H c=some (.tup xs)->c∉L):gx F' H' v rows:=by
 obtain⟨t,l,rs,rfl,f,h1,h2,h3⟩:=r;exact⟨t,l,rs,rfl,hF l ⟨_,h2⟩ f,e _ _ h1 (ht _ _ h1),e _ _ h2 (hF' l ⟨_,h2⟩ f),Paired.imp' (fun a row h=>e _ _ h (ht _ _ h)) h3⟩
theorem cM.kp {F F':Addr->Prop}{H H':Hp}{L:List Addr}{v:V}{a:yb} (r:cM F H v a) (e:Kp H H' L) (hF:∀ r,(∃ o,H r=some o)->F r->F' r) (hF':∀ r,(∃ o,H r=some o)->F r->r∉L) (ht:∀ c xs,H c=some (.tup xs)->c∉L):cM F' H' v a:=by
 cases a with
 | ver n=>exact r
 | noV=>exact r
 | noN=>exact r
 | clash rows=>exact gx.kp r e hF hF' ht
structure gM (H:Hp) (dl tl h a1 a2 a3 a5:Addr) (ds:List bY) (das:List Addr) (tvs:List V) (mas nas:List Addr):Prop where
 ne:[dl,tl,h,a1,a2,a3,a5].Nodup
 hd:H dl=some (.lst (das.map V.ref))
 pd:Paired (fun a d=>H a=some (.tup (bO d))) das ds
 ht:H tl=some (.lst tvs)
 pt:Paired (cM (fun r=>r∉[dl,tl,h,a1,a2,a3,a5]) H) tvs (bE ds S0).1
 hl:f_ H h a1 a2 a3 a5 (bE ds S0).2.ms (bE ds S0).2.ns (bE ds S0).2.par (bE ds S0).2.st (bE ds S0).2.made mas nas
theorem gM.same {H H':Hp}{dl tl h a1 a2 a3 a5:Addr}{ds:List bY}{das:List Addr}{tvs:List V}{mas nas:List Addr} (A:gM H dl tl h a1 a2 a3 a5 ds das tvs mas nas) (e:aV H H'):gM H' dl tl h a1 a2 a3 a5 ds das tvs mas nas:=by
 have kp:Kp H H' []:=fun c o hc _=>e c o hc;exact⟨A.ne,e _ _ A.hd,Paired.imp' (fun a d q=>e _ _ q) A.pd,e _ _ A.ht,Paired.imp' (fun a d q=>cM.kp q kp (fun _ _ f=>f) (fun _ _ _=>by simp) fun _ _ _=>by simp) A.pt,A.hl.same e⟩
structure DI (H:Hp) (cl dl tl h a1 a2 a3 a5:Addr) (i:Nat) (σ:L2.St) (H2:Hp):Prop where
 ex:∃ k d ds das tvs mas nas,σ=[some (.ref cl),some (.ref h),some (.ref dl),some (.ref tl),k,d]/\ds.length=i/\(∀ d∈ds,dH d)/\gM H2 dl tl h a1 a2 a3 a5 ds das tvs mas nas
 kp:Kp H H2 []
noncomputable abbrev AK:Stmt:=top 46
noncomputable abbrev Ho:List Str:=["_law_cells","_law_hall","_law_deeds","_law_told","_law_k","_law_deed"]
theorem Dk:az Ho ["_law_cells"] (ao AK):=by walk_at "s"
noncomputable def wu:Sp:=fun vs H Q _=>∃ (cl:Addr) (cells:List Int),vs=[.ref cl]/\H cl=some (.lst (cells.map V.int))/\cells.length<=63 /\
 ∀ p dl tl h a1 a2 a3 a5 ds das tvs mas nas H',ds.length=cells.length->(∀ d∈ds,dH d)->H' p=some (.tup [.ref dl,.ref tl,.ref h])->gM H' dl tl h a1 a2 a3 a5 ds das tvs mas nas->Kp H H' []->Q (.ref p) H'
theorem zU {f:Addr}{fd:FuncData} (B:Bl mg) (c_law_start:bU P w K mg base aT 4 "_law_start" [] nI) (c_law_deed_by:bU P w K mg base aT 4 "_law_deed_by" ["_law_seed","_law_count"] BO) (c_law_plainly:bU P w K mg base aT 4 "_law_plainly" ["_law_hall","_law_deed"] zG)
  (F:cJ K "_law_day" "_law_day" AK f fd):aR P w K mg base aT 5 f fd ["_law_cells"] wu:=by
 have sc:=Dk;walk_at "f"
 ·obtain⟨_,_,rfl,_⟩:=h
  rfl
 ·obtain⟨cl,cells,rfl,hcl,lc,k⟩:=h
  have hu0:=hr.cL;have hu:=d_ hr;have hs:=sizeLine_eq;refine⟨_,(af (aA (i:=1) sc.nd rfl (by walk_at "o") (BI c_law_start hr))
   (af (aA (i:=2) sc.nd rfl (by walk_at "o") (bw ae))
   (af (aA (i:=3) sc.nd rfl (by walk_at "o") (bw ae))
   (af (dv PassesOwn.never rfl (ip rfl B.rng (ai (bg (aX K) rfl B.len boot_len (ai (pv 0) ae)) ae)) (aI (i:=4) sc.nd rfl (by walk_at "o")) (af (aA (i:=5) sc.nd rfl (by walk_at "o") (bJ c_law_deed_by hr (ai (aC eC (aC ba (aE (aK K) (pv 0) (pv 4) (fun _ _=>rfl)) aj) (aC ng aj (pv 4))) (ai (bg (aX K) rfl B.len boot_len (ai (bB hu (pv 1) au (fun _ _=>rfl)) ae)) ae))))
    (af (aZ (eG K PySem.F.plainAttrs_list PySem.F.slot_list_append PySem.F.type_list_append bo (pv 2) (ai (pv 5) ae)))
    (ak (aZ (eG K PySem.F.plainAttrs_list PySem.F.slot_list_append PySem.F.type_list_append bo (pv 3) (ai (bJ c_law_plainly hr (ai (pv 1) (ai (pv 5) ae))) ae)))))))
   (ak (aw (cm (ai (pv 2) (ai (pv 3) (ai (pv 1) ae)))))))))),?_⟩
  walk_at "rd";refine⟨rfl,fun h a1 a2 a3 a5 m0 n0 G0 HL0 s0 fr0=>?_⟩;refine⟨by omega,fun dl hdl=>?_⟩;have s1:=(aV.refl G0).new (o:=.lst []) hdl;have f1:upd G0 dl (.lst []) dl=some (.lst []):=aa;generalize upd G0 dl (.lst [])=G1 at s1 f1 ⊢;refine⟨by omega,fun tl htl=>?_⟩;have s2:=(aV.refl G1).new (o:=.lst []) htl;have f2:upd G1 tl (.lst []) tl=some (.lst []):=aa;have f12:=s2 _ _ f1;have ndt:dl≠tl:=ag f1 htl;generalize upd G1 tl (.lst [])=G2 at s2 f2 f12 ⊢;have sH:=(s0.trans s1).trans s2;have hcl2:=sH _ _ hcl;have HL2:=HL0.same (s1.trans s2);have d0:∀ {c:Addr}{o:HO},G0 c=some o->dl≠c:=fun hc=>Ne.symm (ag hc hdl);have t0:∀ {c:Addr}{o:HO},G0 c=some o->tl≠c:=fun hc=>Ne.symm (ag (s1 _ _ hc) htl);have ne0:[dl,tl,h,a1,a2,a3,a5].Nodup:=by
   rw[List.nodup_cons,List.nodup_cons];refine⟨?_,?_,HL0.ne⟩
   ·simp only[List.mem_cons,List.not_mem_nil,or_false,not_or]
    exact⟨ndt,d0 HL0.hh,d0 HL0.h1,d0 HL0.h2,d0 HL0.h3,d0 HL0.h5⟩
   ·simp only[List.mem_cons,List.not_mem_nil,or_false,not_or]
    exact⟨t0 HL0.hh,t0 HL0.h1,t0 HL0.h2,t0 HL0.h3,t0 HL0.h5⟩
  have frA:∀ c∈[dl,tl,h,a1,a2,a3,a5],H c=none:=fun c hc=>by
   simp only[List.mem_cons,List.not_mem_nil,or_false] at hc;rcases hc with rfl|rfl|rfl|rfl|rfl|rfl|rfl
   ·exact s0.free hdl
   ·exact (s0.trans s1).free htl
   all_goals exact fr0 _ (by simp)
  refine⟨_,.inl ⟨_,aP.of hcl2,rfl⟩,by omega,by rw[List.length_map];omega,?_⟩;rw[Int.toNat_natCast,List.length_map];refine vA (fun i σ H2=>DI H cl dl tl h a1 a2 a3 a5 i σ H2) ⟨⟨none,none,[],[],[],[m0],[n0],rfl,rfl,by simp,⟨ne0,f12,.nil,f2,.nil,HL2⟩⟩,fun c o hc _=>sH c o hc⟩ ?_ ?_
  ·rintro i σ H2 hi ⟨⟨kk,dd,ds,das,tvs,mas,nas,rfl,ld,okd,DA⟩,kp2⟩
   walk_at "rd";have hcl3:=kp2 _ _ hcl (by simp);have ci:(cells.map V.int)[i]?=some (.int (cells[i])):=by rw[List.getElem?_map,List.getElem?_eq_getElem hi];rfl
   refine⟨_,aP.of hcl3,_,bS ci,_,rfl,by omega,.inl (by omega),_,bN.k' (k:=.inr ("maps":Str)) DA.hl.hh (cy _ _ _ _ _),_,.inl ⟨_,aP.of DA.hl.h1,rfl⟩,?_⟩;have DS:=pW ds zJ (by omega) okd;rw[Nat.zero_add] at DS;rw[List.length_map,DA.hl.lm];have l0:=DS.l0;have l1:=DS.l1;have m0:=Int.emod_nonneg (cells[i]) (show (1000000:Int)≠0 by omega);have m1:=Int.emod_lt_of_pos (cells[i]) (show 0<(1000000:Int) by omega);refine⟨((cells[i]) % 1000000).toNat+29 * i,(bE ds S0).2.ms.length,?_,by omega,l0,by omega,fun D p H3 okD hp hp3 kp3=>?_⟩
   ·have e1:(cells[i]) % 1000000+29 * (i:Int)=((((cells[i]) % 1000000).toNat+29 * i:Nat):Int):=by omega
    rw[e1]
   have s3:aV H2 H3:=fun c o hc=>kp3 c o hc (by simp);have DA3:=DA.same s3;refine⟨.inl ⟨rfl,_,aP.of DA3.hd⟩,_,DA3.hd,?_,?_⟩
   ·rw[List.length_map,Paired.length DA.pd];omega
   have ndl:∀ {c:Addr}{oo:HO},H3 c=some oo->(∀ xs,oo≠.lst xs)->c≠dl:=fun hc hne z=>by
    rw[z,DA3.hd] at hc;exact hne _ (Option.some.inj hc).symm
   have ntl:∀ {c:Addr}{oo:HO},H3 c=some oo->(∀ xs,oo≠.lst xs)->c≠tl:=fun hc hne z=>by
    rw[z,DA3.ht] at hc;exact hne _ (Option.some.inj hc).symm
   have k4:Kp H3 (upd H3 dl (.lst (das.map V.ref++[.ref p]))) [dl]:=(Kp.refl H3 [dl]).set (by simp);have f4:upd H3 dl (.lst (das.map V.ref++[.ref p])) dl=some (.lst (das.map V.ref++[.ref p])):=aa;generalize upd H3 dl (.lst (das.map V.ref++[.ref p]))=H4 at k4 f4 ⊢;have c4:∀ {c:Addr}{oo:HO},H3 c=some oo->c≠dl->H4 c=some oo:=fun hc hne=>k4 _ _ hc (by simpa using hne);have neL:=DA.ne;rw[List.nodup_cons,List.nodup_cons] at neL;obtain⟨n1,n2,n3⟩:=neL;simp only[List.mem_cons,List.not_mem_nil,or_false,not_or] at n1 n2;obtain⟨x1,x2,x3,x4,x5,x6⟩:=n1;obtain⟨y2,y3,y4,y5,y6⟩:=n2;have HL4:f_ H4 h a1 a2 a3 a5 _ _ _ _ _ mas nas:=DA3.hl.kp k4 (fun c hc=>by
    simp only[List.mem_cons,List.not_mem_nil,or_false] at hc ⊢;rcases hc with rfl|rfl|rfl|rfl|rfl
    ·exact Ne.symm x2
    ·exact Ne.symm x3
    ·exact Ne.symm x4
    ·exact Ne.symm x5
    ·exact Ne.symm x6) fun c kv hc=>by simpa using ndl hc (by intro xs z;cases z)
   refine⟨.inl ⟨rfl,_,aP.of (c4 DA3.ht (Ne.symm x1))⟩,h,a1,a2,a3,a5,p,(bE ds S0).2,mas,nas,D,rfl,HL4,c4 hp3 (ndl hp3 (by intro xs z;cases z)),DS.pre (by omega),fun n hn=>by have:=okD.1 n hn;omega,fun v mas' nas' H5 av HL5 kp5=>?_⟩;have c5:∀ {c:Addr}{oo:HO},H4 c=some oo->c∉[h,a1,a2,a3,a5]->H5 c=some oo:=fun hc hn=>kp5 _ _ hc hn;have ht5:H5 tl=some (.lst tvs):=c5 (c4 DA3.ht (Ne.symm x1)) (by
    simp only[List.mem_cons,List.not_mem_nil,or_false,not_or];exact⟨y2,y3,y4,y5,y6⟩)
   have hd5:H5 dl=some (.lst (das.map V.ref++[.ref p])):=c5 f4 (by
    simp only[List.mem_cons,List.not_mem_nil,or_false,not_or];exact⟨x2,x3,x4,x5,x6⟩)
   have ltv:tvs.length=ds.length:=by
    have e1:=Paired.length DA.pt;rw[e1];have:∀ (l:List bY) (S:LS),(bE l S).1.length=l.length:=fun l=>by
     induction l with
     | nil=>intro S;rfl
     | cons d r ih=>intro S;show (_::_).length=_;rw[List.length_cons,ih,List.length_cons]
    exact this ds S0
   refine⟨_,ht5,by omega,?_⟩;have tupL:∀ {c:Addr}{xs:List V},H3 c=some (.tup xs)->c∉[dl,tl,h,a1,a2,a3,a5]:=fun {c xs} hc=>by
    have go:∀ {b:Addr}{o:HO},H3 b=some o->(∀ ys,o≠.tup ys)->c≠b:=fun hb hne z=>by
     rw[<- z,hc] at hb;exact hne _ (Option.some.inj hb).symm
    simp only[List.mem_cons,List.not_mem_nil,or_false,not_or];exact⟨go DA3.hd (by intro _ z;cases z),go DA3.ht (by intro _ z;cases z),go DA3.hl.hh (by intro _ z;cases z),go DA3.hl.h1 (by intro _ z;cases z),go DA3.hl.h2 (by intro _ z;cases z),go DA3.hl.h3 (by intro _ z;cases z),go DA3.hl.h5 (by intro _ z;cases z)⟩
   have k6:Kp H3 (upd H5 tl (.lst (tvs++[v]))) [dl,tl,h,a1,a2,a3,a5]:=fun c oo hc hn=>by
    simp only[List.mem_cons,List.not_mem_nil,or_false,not_or] at hn;rw[ah hn.2.1];exact c5 (c4 hc hn.1) (by
     simp only[List.mem_cons,List.not_mem_nil,or_false,not_or];exact hn.2.2)
   have k7:Kp H5 (upd H5 tl (.lst (tvs++[v]))) [tl]:=(Kp.refl H5 [tl]).set (by simp);have tt:∀ c xs,H5 c=some (.tup xs)->c∉[tl]:=fun c xs hc=>by
    simp only[List.mem_cons,List.not_mem_nil,or_false];exact bV hc ht5 (by intro z;cases z)
   have new7:∀ r,H4 r=none->r∉[dl,tl,h,a1,a2,a3,a5]:=fun r hr'=>by
    have go:∀ {b:Addr}{o:HO},H4 b=some o->r≠b:=fun hb z=>by
     rw[<- z,hr'] at hb;cases hb
    simp only[List.mem_cons,List.not_mem_nil,or_false,not_or];exact⟨go f4,go (c4 DA3.ht (Ne.symm x1)),go HL4.hh,go HL4.h1,go HL4.h2,go HL4.h3,go HL4.h5⟩
   refine⟨⟨_,_,ds++[D],das++[p],tvs++[v],mas',nas',rfl,by rw[List.length_append,ld];rfl,fun d hd=>?_,⟨DA.ne,?_,?_,aa,?_,?_⟩⟩,fun c o hc _=>?_⟩
   ·rcases List.mem_append.mp hd with hd|hd
    ·exact okd d hd
    ·rw[List.mem_singleton.mp hd];exact okD
   ·rw[ah x1,List.map_append];exact hd5
   ·refine Paired.snoc (Paired.imp' (fun a d q=>k6 _ _ q (tupL q)) DA3.pd) ?_
    exact k6 _ _ hp3 (tupL hp3)
   ·rw[eP]
    refine Paired.snoc (Paired.imp' (fun a d q=>cM.kp q k6 (fun _ _ f=>f) (fun _ _ f=>f) fun c xs hc=>tupL hc) DA3.pt) ?_;exact cM.kp av k7 (fun r _ f=>new7 r f) (fun r _ f=>by
     have:=new7 r f;simp only[List.mem_cons,List.not_mem_nil,or_false,not_or] at this ⊢;exact this.2.1) tt
   ·rw[eP]
    refine HL5.kp k7 (fun c hc=>?_) fun c kv hc=>?_
    ·simp only[List.mem_cons,List.not_mem_nil,or_false] at hc ⊢
     rcases hc with rfl|rfl|rfl|rfl|rfl
     ·exact Ne.symm y2
     ·exact Ne.symm y3
     ·exact Ne.symm y4
     ·exact Ne.symm y5
     ·exact Ne.symm y6
    ·simp only[List.mem_cons,List.not_mem_nil,or_false]
     exact bV hc ht5 (by intro z;cases z)
   ·exact k6 c o (s3 c o (kp2 c o hc (by simp))) fun z=>by
     rw[frA c z] at hc;cases hc
  ·rintro σ H2 ⟨⟨kk,dd,ds,das,tvs,mas,nas,rfl,ld,okd,DA⟩,kp2⟩
   walk_at "rd";refine⟨by omega,fun p hp=>?_⟩;exact k p dl tl h a1 a2 a3 a5 ds das tvs mas nas _ ld okd aa (DA.same ((aV.refl H2).new hp)) (kp2.new (kp2.free hp (by simp)))
end
end
section
inductive fu (H:Hp):Nat->List V->List V->Prop
 | nil:fu H 0 [] []
 | int {n:Nat}{xs ys:List V} (i:Int):fu H n xs ys->fu H (n+1) (.int i::xs) (.int i::ys)
 | str {n:Nat}{xs ys:List V} (x:Str):fu H n xs ys->fu H (n+1) (.str x::xs) (.str x::ys)
 | non {n:Nat}{xs ys:List V}:fu H n xs ys->fu H (n+1) (.non::xs) (.non::ys)
 | lst {n m:Nat}{xs ys as bs:List V}{a b:Addr}:H a=some (.lst as)->H b=some (.lst bs)->fu H m as bs->fu H n xs ys->fu H (m+n+1) (.ref a::xs) (.ref b::ys)
 | tup {n m:Nat}{xs ys as bs:List V}{a b:Addr}:H a=some (.tup as)->H b=some (.tup bs)->fu H m as bs->fu H n xs ys->fu H (m+n+1) (.ref a::xs) (.ref b::ys)
noncomputable def DH:Bool->List V->HO
 | true,xs=>.lst xs
 | false,xs=>.tup xs
noncomputable def Hq:Bool->Value
 | true=>.type "list"
 | false=>.type "tuple"
section
variable {K:PySem.W.Frag}{H:Hp}{a:Addr}{xs:List V}{b:Bool}
theorem oQ (h:H a=some (DH b xs)):cz K H (.ref a) (Hq b):=by
 cases b
 ·exact cz.tup h
 ·exact cz.lst h
theorem yT (h:H a=some (DH b xs)):aP K H a xs\/cE K H a xs:=by
 cases b
 ·exact .inr (cE.of h)
 ·exact .inl (aP.of h)
theorem wm (h:H a=some (DH b xs)):(∃ ys,aP K H a ys/\xs.length=ys.length)\/∃ ys,cE K H a ys/\xs.length=ys.length:=by
 cases b
 ·exact .inr ⟨_,cE.of h,rfl⟩
 ·exact .inl ⟨_,aP.of h,rfl⟩
end
theorem fu.view {H:Hp}{m:Nat}{x y:V}{xs ys:List V} (h:fu H m (x::xs) (y::ys)):(∃ m',m'<m/\fu H m' xs ys/\((∃ i,x=.int i/\y=.int i)\/(∃ s,x=.str s/\y=.str s)\/x=.non/\y=.non)) \/
  ∃ (b:Bool) (n1 m1:Nat) (as bs:List V) (a c:Addr),x=.ref a/\y=.ref c/\H a=some (DH b as)/\H c=some (DH b bs)/\fu H n1 as bs/\fu H m1 xs ys/\n1+m1+1=m:=by
 cases h with
 | int i h=>exact .inl ⟨_,Nat.lt_succ_self _,h,.inl ⟨i,rfl,rfl⟩⟩
 | str s h=>exact .inl ⟨_,Nat.lt_succ_self _,h,.inr (.inl ⟨s,rfl,rfl⟩)⟩
 | non h=>exact .inl ⟨_,Nat.lt_succ_self _,h,.inr (.inr ⟨rfl,rfl⟩)⟩
 | lst ha hb h1 h=>exact .inr ⟨true,_,_,_,_,_,_,rfl,rfl,ha,hb,h1,h,rfl⟩
 | tup ha hb h1 h=>exact .inr ⟨false,_,_,_,_,_,_,rfl,rfl,ha,hb,h1,h,rfl⟩
theorem fu.CA {H:Hp}{n m:Nat}{xs ys:List V} (h:fu H n xs ys) (e:n=m):fu H m xs ys:=e ▸ h
theorem fu.len {H:Hp}{n:Nat}{xs ys:List V} (h:fu H n xs ys):xs.length=ys.length/\xs.length<=n:=by
 induction h with
 | nil=>exact⟨rfl,Nat.le_refl _⟩
 | int _ _ ih=>rw[List.length_cons,List.length_cons];omega
 | str _ _ ih=>rw[List.length_cons,List.length_cons];omega
 | non _ ih=>rw[List.length_cons,List.length_cons];omega
 | lst _ _ _ _ _ ih=>rw[List.length_cons,List.length_cons];omega
 | tup _ _ _ _ _ ih=>rw[List.length_cons,List.length_cons];omega
theorem fu.rev {H:Hp}{m:Nat}{as bs:List V} (h:fu H m as bs):∀ {n:Nat}{xs ys:List V},fu H n xs ys->fu H (m+n) (as.reverse++xs) (bs.reverse++ys):=by
 induction h with
 | nil=>intro n xs ys q;rw[Nat.zero_add];exact q
 | int i _ ih=>intro n xs ys q;rw[List.reverse_cons,List.reverse_cons,List.append_assoc,List.append_assoc];exact (ih (.int i q)).CA (by omega)
 | str i _ ih=>intro n xs ys q;rw[List.reverse_cons,List.reverse_cons,List.append_assoc,List.append_assoc];exact (ih (.str i q)).CA (by omega)
 | non _ ih=>intro n xs ys q;rw[List.reverse_cons,List.reverse_cons,List.append_assoc,List.append_assoc];exact (ih (.non q)).CA (by omega)
 | lst h1 h2 h3 _ _ ih=>intro n xs ys q;rw[List.reverse_cons,List.reverse_cons,List.append_assoc,List.append_assoc];exact (ih (.lst h1 h2 h3 q)).CA (by omega)
 | tup h1 h2 h3 _ _ ih=>intro n xs ys q;rw[List.reverse_cons,List.reverse_cons,List.append_assoc,List.append_assoc];exact (ih (.tup h1 h2 h3 q)).CA (by omega)
noncomputable def nD (H:Hp) (l:Addr) (das:List Addr) (ds:List bY):Prop:=H l=some (.lst (das.map V.ref))/\Paired (fun a d=>H a=some (.tup (bO d))) das ds/\ds.length<=130/\∀ d∈ds,dH d
theorem wM {H:Hp} (d:bY):fu H (bO d).length (bO d) (bO d):=by
 cases d with
 | put v n x=>exact .str _ (.int _ (.str _ (.str _ .nil)))
 | take v n=>exact .str _ (.int _ (.str _ .nil))
 | join b o t=>exact .str _ (.int _ (.int _ (.int _ .nil)))
theorem wZ (d:bY):(bO d).length<=4:=by cases d <;> simp[bO]
theorem lP {H:Hp}:∀ {das:List Addr}{ds:List bY},Paired (fun a d=>H a=some (.tup (bO d))) das ds->∃ n,n<=5 * ds.length/\fu H n (das.map V.ref) (das.map V.ref)
 | _,_,.nil=>⟨0,Nat.le_refl _,.nil⟩
 | _,_,.cons (a:=a) (b:=d) h t=>by
  obtain⟨n,hn,q⟩:=lP t;have:=wZ d;exact⟨_,by rw[List.length_cons];omega,.tup h h (wM d) q⟩
theorem oM:∀ (l:List bY) (S:LS),(bE l S).1.length=l.length
 | [],_=>rfl
 | d::r,S=>by show (_::_).length=_;rw[List.length_cons,oM r,List.length_cons]
theorem Bq (xs:List V) (h:xs.length<=500):iT xs none (some 500)=xs:=by
 unfold iT;have e:HT.cG xs.length xs.length (some 500)=min 500 xs.length:=HT.yM xs.length xs.length 500;rw[e,HT.vV,List.drop_zero,Nat.sub_zero,List.take_of_length_le (by omega)]
end
section
section
noncomputable abbrev yo:Stmt:=top 49
theorem EH:az ["_law_script"] ["_law_script"] (ao yo):=by walk_at "s"
theorem oK:(["_law_k","_law_script"]:List Str).Nodup:=by decide +kernel
noncomputable def mix (x:Int) (k:Nat):Nat:=((x+7919 * k) * 48271 % 1000003).toNat
noncomputable def uH:Sp:=fun vs H Q _=>∃ (l:Addr) (xs:List Int),vs=[.ref l]/\H l=some (.lst (xs.map V.int))/\xs.length<=1000/\∀ (p:Addr) (ns:List Nat),H p=none->ns.length=xs.length->(∀ n∈ns,n<1000003)->Q (.ref p) (upd H p (.lst (ns.map nV)))
theorem Bm {f:Addr}{fd:FuncData} (B:Bl mg) (F:cJ K "_law_mixed" "_law_mixed" yo f fd):aR P w K mg base aT 1 f fd ["_law_script"] uH:=by
 have sc:=EH;walk_at "f"
 ·obtain⟨_,_,rfl,_⟩:=h
  rfl
 ·obtain⟨l,xs,rfl,hl,lx,k⟩:=h
  have hu0:=hr.cL;have hu:=d_ hr;have hs:=sizeLine_eq;refine⟨_,(ak (aw (cI (N':=["_law_k","_law_script"]) (ix:=[none,some 0]) rfl ?S1 (ip rfl B.rng (ai (bg (aX K) rfl B.len boot_len (ai (pv 0) ae)) ae)) (fun cl C fp s H=>(aI (i:=0) oK rfl (by walk_at "o"))) (fun cl C fp s H=>dZ) (fun cl C fp s H=>(aC ba (aC ng (aC eC (aE (aK K) (pv 1) (pv 0) (fun _ _=>rfl)) (aC ng aj (pv 0))) aj) aj))))),?_⟩
  case S1=>exact nL.is (N:=["_law_script"]) (osc:=ao yo) (by decide +kernel)
  walk_at "rd";refine⟨_,.inl ⟨_,aP.of hl,rfl⟩,by omega,by rw[List.length_map];omega,?_⟩;rw[List.length_map,Int.toNat_natCast];refine ox (fun i=>some (nV (mix (xs.getD i 0) i))) (by omega) (fun i hi R R' h1 h2=>?_) ?_
  ·refine⟨Wk.set rfl,?_⟩
   walk_at "rd";have ei:(xs.map V.int)[i]?=some (.int (xs.getD i 0)):=by rw[List.getElem?_map];simp[List.getD,hi]
   refine⟨_,aP.of hl,_,bS ei,?_⟩;refine⟨.inl (by omega),_,rfl,.inr (by omega),by omega,h1 _ ?_⟩;have:=Int.emod_nonneg ((xs.getD i 0+7919 * (i:Int)) * 48271) (show (1000003:Int)≠0 by omega);show some (V.int (((xs.getD i 0+7919 * (i:Int)) * 48271 % 1000003).toNat:Int))=_;rw[Int.toNat_of_nonneg this]
  ·intro d hd
   rw[List.filterMap_eq_map'];have e:(List.range xs.length).map (fun i=>nV (mix (xs.getD i 0) i))=((List.range xs.length).map fun i=>mix (xs.getD i 0) i).map nV:=by rw[List.map_map];rfl
   rw[e];refine k d _ hd (by rw[List.length_map,List.length_range]) fun n hn=>?_;obtain⟨i,_,rfl⟩:=List.mem_map.mp hn;have:=Int.emod_lt_of_pos ((xs.getD i 0+7919 * (i:Int)) * 48271) (show 0<(1000003:Int) by omega);have:=Int.emod_nonneg ((xs.getD i 0+7919 * (i:Int)) * 48271) (show (1000003:Int)≠0 by omega);unfold mix;omega
end
end
section
section
noncomputable abbrev GP:Stmt:=top 35
theorem Fi:az ["_law_script","_law_k"] ["_law_script","_law_k"] (ao GP):=by walk_at "s"
noncomputable def Az:Sp:=fun vs H Q _=>∃ (l:Addr) (ns:List Nat) (i:Nat),vs=[.ref l,.int (i:Int)]/\H l=some (.lst (ns.map nV))/\(∀ n∈ns,n<1000003)/\∀ r:Nat,r<1000003->Q (nV r) H
theorem EJ {f:Addr}{fd:FuncData} (B:Bl mg) (F:cJ K "_law_at" "_law_at" GP f fd):aR P w K mg base aT 1 f fd ["_law_script","_law_k"] Az:=by
 have sc:=Fi;walk_at "f"
 ·obtain⟨_,_,_,rfl,_⟩:=h
  rfl
 ·obtain⟨l,ns,i,rfl,hl,hn,k⟩:=h
  have hu0:=hr.cL;have hs:=sizeLine_eq;refine⟨_,(af (eX (aG oR (pv 1) (bg (aX K) rfl B.len boot_len (ai (pv 0) ae)) (aH _)) (ak (aw (aE (aK K) (pv 0) (pv 1) (fun _ _=>rfl)))) aJ)
   (ak (aw aj))),?_⟩
  walk_at "rd";refine⟨_,.inl ⟨_,aP.of hl,rfl⟩,?_⟩;rw[List.length_map]
  by_cases c:(i:Int)<(ns.length:Int)
  ·rw[if_pos (decide_eq_true c)]
   have hi:i<ns.length:=by omega
   exact⟨_,aP.of hl,nV ns[i],bS (by rw[List.getElem?_map,List.getElem?_eq_getElem hi];rfl),k _ (hn _ (List.getElem_mem hi))⟩
  ·rw[if_neg (by simpa using c)]
   exact k 0 (by omega)
noncomputable abbrev vG:Stmt:=top 47
theorem B8:az ["_law_hall","_law_seed","_law_count"] ["_law_hall","_law_seed"] (ao vG):=by walk_at "s"
noncomputable def qV:Sp:=fun vs H Q _=>∃ (h a1 a2 a3 a5:Addr) (st:Nat) (mas:List Addr) (r:Nat),vs=[.ref h,nV r]/\H h=some (.dK (bT a1 a2 a3 st a5))/\H a1=some (.lst (mas.map V.ref))/\0<mas.length/\∀ (v:Nat) H',v<mas.length->Kp H H' []->Q (nV v) H'
theorem xw {f:Addr}{fd:FuncData} (B:Bl mg) (F:cJ K "_law_pick" "_law_pick" vG f fd):aR P w K mg base aT 1 f fd ["_law_hall","_law_seed"] qV:=by
 have sc:=B8;walk_at "f"
 ·obtain⟨_,_,_,_,_,_,_,_,rfl,_⟩:=h
  rfl
 ·obtain⟨h,a1,a2,a3,a5,st,mas,r,rfl,hh,h1,l0,k⟩:=h
  have hu0:=hr.cL;have hu:=d_ hr;have hs:=sizeLine_eq;refine⟨_,(af (aA (i:=2) sc.nd rfl (by walk_at "o") (bg (aX K) rfl B.len boot_len (ai (bB hu (pv 0) au (fun _ _=>rfl)) ae)))
   (ak (aw (aE (aK K) (bw (ai (aC ba (pv 1) (pv 2)) (ai (aC ff (pv 2) aj) (ai (bg (kW rfl) rfl B.mx boot_max (ai aj (ai (aC ff (aC ff (pv 2) aj) (aC ba (pv 1) aj)) ae))) ae)))) (aC ba (aC bW (pv 1) aj) aj) (fun _ _=>rfl))))),?_⟩
  walk_at "rd";refine⟨_,bN.k' (k:=.inr ("maps":Str)) hh (cy _ _ _ _ _),_,.inl ⟨_,aP.of h1,rfl⟩,?_⟩;rw[List.length_map];have d0:=Int.emod_nonneg (r:Int) (show (mas.length:Int)≠0 by omega);have d1:=Int.emod_lt_of_pos (r:Int) (show 0<(mas.length:Int) by omega);refine⟨_,rfl,by omega,_,rfl,by omega,_,_,⟨rfl,rfl⟩,by omega,fun p hp=>⟨_,rfl,by omega,by omega,_,aP.of aa,?_⟩⟩;obtain⟨x,e1,e2⟩:=iX [V.int ((r:Int) % mas.length),V.int ((mas.length:Int) - 1),V.int (if (mas.length:Int) - 1 - (r:Int) % 4 > 0 then (mas.length:Int) - 1 - (r:Int) % 4 else 0)] ((r:Int) / 64 % 3) (by omega) (by simp;omega);refine⟨x,e1,?_⟩;have fin:∀ z:Int,0<=z->z<(mas.length:Int)->∀ H',Kp H H' []->Q (.int z) H':=fun z h0 h1 H' kp=>by
   have:=k z.toNat H' (by omega) kp;unfold nV at this
   rwa [Int.toNat_of_nonneg h0] at this
  simp only[List.mem_cons,List.not_mem_nil,or_false] at e2;rcases e2 with rfl|rfl|rfl
  ·exact fin _ d0 d1 _ ((Kp.refl H []).new hp)
  ·exact fin _ (by omega) (by omega) _ ((Kp.refl H []).new hp)
  ·exact fin _ (by split <;> omega) (by split <;> omega) _ ((Kp.refl H []).new hp)
end
end
section
theorem ym {α:Type}{l r:List α} (h:l <+: r) {i:Nat}{a:α} (e:l[i]?=some a):r[i]?=some a:=by
 obtain⟨t,rfl⟩:=h;rw[List.getElem?_append_left (List.getElem?_eq_some_iff.mp e).1];exact e
theorem da {α β:Type}{R:α->β->Prop}:∀ {xs:List α}{ys:List β},Paired R xs ys->∀ {i:Nat}{x:α},xs[i]?=some x->∃ y,ys[i]?=some y/\R x y
 | _,_,.nil,i,x,h=>by cases i <;> cases h
 | _,_,.cons h t,0,x,e=>⟨_,rfl,by cases e;exact h⟩
 | _,_,.cons h t,i+1,x,e=>da t (i:=i) e
theorem xH {α:Type} (g:α->V) (l:List α) (lo hi:Option Int):∃ l':List α,iT (l.map g) lo hi=l'.map g/\l'.length<=l.length:=by
 refine⟨(l.drop (HT.cG (l.map g).length 0 lo)).take (HT.cG (l.map g).length (l.map g).length hi - HT.cG (l.map g).length 0 lo),?_,?_⟩
 ·unfold iT
  rw[List.map_take,List.map_drop]
 ·rw[List.length_take,List.length_drop]
  omega
end
section
section
noncomputable abbrev FT:Stmt:=top 48
noncomputable abbrev HR:List Str:=["_law_handed","_law_own","_law_left","_law_right","_law_one","_law_two"]
theorem FK:az HR ["_law_handed","_law_own"] (ao FT):=by walk_at "s"
noncomputable def zT:Sp:=fun vs H Q _=>∃ (x y:V) (n:Nat),vs=[x,y]/\fu H n [x] [y]/\n<=1000000/\∀ H',Kp H H' []->Q (.bl true) H'
structure SI (H:Hp) (v u:V) (p1 p2:Addr) (n:Nat) (σ:L2.St) (H2:Hp):Prop where
 ex:∃ xs ys o t,σ=[some v,some u,some (.ref p1),some (.ref p2),o,t]/\H2 p1=some (.lst xs.reverse)/\H2 p2=some (.lst ys.reverse)/\fu H n xs ys
 kp:Kp H H2 []
theorem px {x:V}{xs:List V}:(x::xs).reverse[(x::xs).reverse.length - 1]?=some x:=by
 rw[List.reverse_cons,List.length_append,List.length_singleton,Nat.add_sub_cancel,List.getElem?_append_right (Nat.le_refl _),Nat.sub_self]
 rfl
theorem oy {x:V}{xs:List V}:(x::xs).reverse.dropLast=xs.reverse:=by
 rw[List.reverse_cons,List.dropLast_concat]
theorem CS {f:Addr}{fd:FuncData} (B:Bl mg) (F:cJ K "_law_stays_so" "_law_stays_so" FT f fd):aR P w K mg base aT 1 f fd ["_law_handed","_law_own"] zT:=by
 have sc:=FK;walk_at "f"
 ·obtain⟨_,_,_,rfl,_⟩:=h
  rfl
 ·obtain⟨x,y,n,rfl,al,hn,k⟩:=h
  have hu0:=hr.cL;have hu:=d_ hr;have hs:=sizeLine_eq;refine⟨_,(af (aA (i:=2) sc.nd rfl (by walk_at "o") (bw (ai (pv 0) ae)))
   (af (aA (i:=3) sc.nd rfl (by walk_at "o") (bw (ai (pv 1) ae)))
   (af (og PassesOwn.never (aG (rg K hu0) (pv 3) (bw ae) (aH _)) (af (cU (aA (i:=4) sc.nd rfl (by walk_at "o") (ny K PySem.F.plainAttrs_list PySem.F.slot_list_pop PySem.F.type_list_pop pM (pv 2))))
    (af (cU (aA (i:=5) sc.nd rfl (by walk_at "o") (ny K PySem.F.plainAttrs_list PySem.F.slot_list_pop PySem.F.type_list_pop pM (pv 3))))
    (ak (a_ (cF (bg (pO K) rfl B.isi boot_isinstance (ai (pv 5) (ai (cm (ai (bZ (v:=.ty "list") rfl B.lst boot_list rfl) (ai (bZ (v:=.ty "tuple") rfl B.tup boot_tuple rfl) ae))) ae)))) (af (a_ (aG dY (bg (br K) rfl B.isi boot_isinstance (ai (pv 4) (ai (bZ (v:=.ty "list") rfl B.lst boot_list rfl) ae))) (bg (br K) rfl B.isi boot_isinstance (ai (pv 5) (ai (bZ (v:=.ty "list") rfl B.lst boot_list rfl) ae))) (aH _)) (ak (aw fN)) aJ)
     (af (a_ (PW.pt (gg (aG dY (bg (br K) rfl B.isi boot_isinstance (ai (pv 4) (ai (bZ (v:=.ty "tuple") rfl B.tup boot_tuple rfl) ae))) (bg (br K) rfl B.isi boot_isinstance (ai (pv 5) (ai (bZ (v:=.ty "tuple") rfl B.tup boot_tuple rfl) ae))) (aH _)) (fC (aG dY (bg (aX K) rfl B.len boot_len (ai (pv 4) ae)) (bg (aX K) rfl B.len boot_len (ai (pv 5) ae)) (aH _))))) (ak (aw fN)) aJ)
     (af (aZ (eG K PySem.F.plainAttrs_list PySem.F.slot_list_extend PySem.F.type_list_extend iu (pv 2) (ai (eO (eJ K) rfl B.lst boot_list (ai (pv 4) ae)) ae)))
     (ak (aZ (eG K PySem.F.plainAttrs_list PySem.F.slot_list_extend PySem.F.type_list_extend iu (pv 3) (ai (eO (eJ K) rfl B.lst boot_list (ai (pv 5) ae)) ae))))))) (ak (a_ (cF (bg (br K) rfl B.isi boot_isinstance (ai (pv 5) (ai (bZ (v:=.ty "str") rfl B.str boot_str rfl) ae)))) (ak (a_ (PW.pt (gg (eA (cF (bg (br K) rfl B.isi boot_isinstance (ai (pv 4) (ai (bZ (v:=.ty "str") rfl B.str boot_str rfl) ae))))) (fC (aG dY (pv 4) (pv 5) (aH _))))) (ak (aw fN)) aJ)) (ak (a_ (dN (fB (pv 5))) (ak (a_ (dN (qW (pv 4))) (ak (aw fN)) aJ)) (ak (a_ (PW.pt (gg (eA (cF (bg (br K) rfl B.isi boot_isinstance (ai (pv 4) (ai (bZ (v:=.ty "int") rfl B.int boot_int rfl) ae))))) (gg (cF (bg (br K) rfl B.isi boot_isinstance (ai (pv 4) (ai (bZ (v:=.ty "bool") rfl B.bool boot_bool rfl) ae)))) (fC (aG dY (pv 4) (pv 5) (aH _)))))) (ak (aw fN)) aJ)))))))))))
   (ak (aw fN))))),?_⟩
  walk_at "rd";refine⟨by omega,fun p1 hp1=>⟨by omega,fun p2 hp2=>?_⟩⟩;have s1:=(aV.refl H).new (o:=.lst [x]) hp1;have f1:upd H p1 (.lst [x]) p1=some (.lst [x]):=aa;generalize upd H p1 (.lst [x])=G1 at s1 f1 hp2 ⊢;have s2:=(aV.refl G1).new (o:=.lst [y]) hp2;have f2:upd G1 p2 (.lst [y]) p2=some (.lst [y]):=aa;have f12:=s2 _ _ f1;have n12:p1≠p2:=ag f1 hp2;have q2:H p2=none:=s1.free hp2;generalize upd G1 p2 (.lst [y])=G2 at s2 f2 f12 ⊢;refine si (fun m σ H2=>m<=1000000/\SI H x y p1 p2 m σ H2) n ⟨hn,⟨⟨[x],[y],none,none,rfl,f12,f2,al⟩,fun c o hc _=>s2 c o (s1 c o hc)⟩⟩ ?_ ?_
  ·rintro m σ H2 ⟨hm,⟨xs,ys,o,t,rfl,h1,h2,al⟩,kp⟩
   walk_at "rd";refine⟨by omega,fun p hp=>?_⟩;have s3:=(aV.refl H2).new (o:=.lst []) hp;have f3:upd H2 p (.lst []) p=some (.lst []):=aa;have kp3:Kp H (upd H2 p (.lst [])) []:=fun c o hc _=>s3 c o (kp c o hc (by simp));generalize upd H2 p (.lst [])=H3 at s3 f3 kp3 ⊢;have g1:=s3 _ _ h1;have g2:=s3 _ _ h2;refine⟨_,aP.of g2,aP.of f3,?_⟩;have dec:xs=[]/\ys=[]\/∃ v' u' xs' ys',xs=v'::xs'/\ys=u'::ys':=by
    cases al with
    | nil=>exact .inl ⟨rfl,rfl⟩
    | int=>exact .inr ⟨_,_,_,_,rfl,rfl⟩
    | str=>exact .inr ⟨_,_,_,_,rfl,rfl⟩
    | non=>exact .inr ⟨_,_,_,_,rfl,rfl⟩
    | lst=>exact .inr ⟨_,_,_,_,rfl,rfl⟩
    | tup=>exact .inr ⟨_,_,_,_,rfl,rfl⟩
   rcases dec with ⟨rfl,rfl⟩|⟨v',u',xs',ys',rfl,rfl⟩
   ·rw[if_neg (by simp)]
    exact k _ kp3
   ·rw[if_pos (by simp)]
    intro I hI;refine⟨.inl ⟨rfl,_,aP.of g1⟩,_,g1,_,px,hI.go ?_⟩;walk_at "rd";rw[oy];have f4:upd H3 p1 (.lst xs'.reverse) p1=some (.lst xs'.reverse):=aa;have g4:upd H3 p1 (.lst xs'.reverse) p2=some (.lst (u'::ys').reverse):=by rw[ah (Ne.symm n12)];exact g2
    have kp4:Kp H (upd H3 p1 (.lst xs'.reverse)) []:=fun c o hc _=>by
     rw[ah (ag hc hp1)];exact kp3 c o hc (by simp)
    generalize upd H3 p1 (.lst xs'.reverse)=H4 at f4 g4 kp4 ⊢;intro I hI;refine⟨.inl ⟨rfl,_,aP.of g4⟩,_,g4,_,px,hI.go ?_⟩;walk_at "rd";rw[oy];have f5:upd H4 p2 (.lst ys'.reverse) p2=some (.lst ys'.reverse):=aa;have g5:upd H4 p2 (.lst ys'.reverse) p1=some (.lst xs'.reverse):=by rw[ah n12];exact f4
    have kp5:Kp H (upd H4 p2 (.lst ys'.reverse)) []:=fun c o hc _=>by
     rw[ah (ag hc q2)];exact kp4 c o hc (by simp)
    generalize upd H4 p2 (.lst ys'.reverse)=H5 at f5 g5 kp5 ⊢;intro J hJ;refine⟨by omega,fun p6 hp6=>⟨_,_,⟨rfl,rfl⟩,_,_,aa,?_⟩⟩;have s6:=(aV.refl H5).new (o:=.tup [.ty "list",.ty "tuple"]) hp6;have f6:=s6 _ _ f5;have g6:=s6 _ _ g5;have kp6:Kp H (upd H5 p6 (.tup [.ty "list",.ty "tuple"])) []:=fun c o hc _=>s6 c o (kp5 c o hc (by simp));generalize upd H5 p6 (.tup [.ty "list",.ty "tuple"])=H6 at f6 g6 kp6 ⊢;have fin:∀ {m'},m'<m->fu H m' xs' ys'->∃ m',m'<m/\m'<=1000000/\SI H x y p1 p2 m' [some x,some y,some (.ref p1),some (.ref p2),some v',some u'] H6:=fun {m'} hlt al=>⟨m',hlt,by omega,⟨_,_,_,_,rfl,g6,f6,al⟩,kp6⟩;rcases al.view with ⟨m',lt,al',⟨i,rfl,rfl⟩|⟨i,rfl,rfl⟩|⟨rfl,rfl⟩⟩|⟨b0,n1,m1,as,bs,a,b,rfl,rfl,ha,hb,al1,al',hm1⟩
    ·refine⟨false,_,cz.int i,rfl,hJ.go ?_⟩
     rw[if_neg (by simp)];walk_at "rd";intro J hJ;refine⟨_,_,⟨rfl,rfl⟩,false,_,cz.int i,rfl,hJ.go ?_⟩;rw[if_neg (by simp)];walk_at "rd";intro J hJ;refine hJ.go ?_;rw[if_neg (by simp)];walk_at "rd";intro J hJ;refine⟨_,_,⟨rfl,rfl⟩,true,_,cz.int i,rfl,?_⟩;rw[if_neg (by simp)];refine⟨_,_,⟨rfl,rfl⟩,false,_,cz.int i,rfl,?_⟩;rw[if_neg (by simp)];refine⟨rfl,hJ.go ?_⟩;rw[if_neg (by simp)];exact fin lt al'
    ·refine⟨false,_,cz.str i,rfl,hJ.go ?_⟩
     rw[if_neg (by simp)];walk_at "rd";intro J hJ;refine⟨_,_,⟨rfl,rfl⟩,true,_,cz.str i,rfl,hJ.go ?_⟩;rw[if_pos rfl];walk_at "rd";intro J hJ;refine⟨_,_,⟨rfl,rfl⟩,true,_,cz.str i,rfl,?_⟩;rw[if_neg (by simp)];refine⟨rfl,hJ.go ?_⟩;rw[if_neg (by simp)];exact fin lt al'
    ·refine⟨false,_,cz.non,rfl,hJ.go ?_⟩
     rw[if_neg (by simp)];walk_at "rd";intro J hJ;refine⟨_,_,⟨rfl,rfl⟩,false,_,cz.non,rfl,hJ.go ?_⟩;rw[if_neg (by simp)];walk_at "rd";intro J hJ;refine hJ.go ?_;rw[if_pos (by simp)];walk_at "rd";intro J hJ;refine hJ.go ?_;rw[if_neg (by simp)];exact fin lt al'
    ·have ha6:=kp6 _ _ ha (by simp)
     have hb6:=kp6 _ _ hb (by simp);have le:=al1.len;have le2:=al'.len;refine⟨true,_,oQ hb6,by cases b0 <;> rfl,hJ.go ?_⟩;rw[if_pos rfl];walk_at "rd";intro J hJ;refine⟨_,_,⟨rfl,rfl⟩,b0,_,oQ ha6,by cases b0 <;> rfl,_,_,⟨rfl,rfl⟩,b0,_,oQ hb6,by cases b0 <;> rfl,rfl,hJ.go ?_⟩;rw[if_neg (by simp)];walk_at "rd";intro J hJ;refine⟨_,_,⟨rfl,rfl⟩,!b0,_,oQ ha6,by cases b0 <;> rfl,_,_,⟨rfl,rfl⟩,!b0,_,oQ hb6,by cases b0 <;> rfl,rfl,?_⟩;rw[if_neg (by simp)];refine⟨_,wm ha6,_,wm hb6,rfl,hJ.go ?_⟩;rw[if_neg (by simp[le.1])];walk_at "rd";refine⟨.inl ⟨rfl,_,aP.of g6⟩,_,yT ha6,fun l hl=>?_⟩;have s7:=(aV.refl H6).new (o:=.lst as) hl;have f7:upd H6 l (.lst as) l=some (.lst as):=aa;have g7:=s7 _ _ g6;have b7:=s7 _ _ f6;have nl1:l≠p1:=Ne.symm (ag g6 hl);have kp7:Kp H (upd H6 l (.lst as)) []:=fun c o hc _=>s7 c o (kp6 c o hc (by simp));generalize upd H6 l (.lst as)=H7 at f7 g7 b7 kp7 ⊢;refine⟨_,g7,_,f7,by rw[List.length_reverse];omega,?_⟩;have f8:upd H7 p1 (.lst (xs'.reverse++as)) p1=some (.lst (xs'.reverse++as)):=aa;have b8:upd H7 p1 (.lst (xs'.reverse++as)) p2=some (.lst ys'.reverse):=by rw[ah (Ne.symm n12)];exact b7
     have kp8:Kp H (upd H7 p1 (.lst (xs'.reverse++as))) []:=fun c o hc _=>by
      rw[ah (ag hc hp1)];exact kp7 c o hc (by simp)
     generalize upd H7 p1 (.lst (xs'.reverse++as))=H8 at f8 b8 kp8 ⊢;refine⟨.inl ⟨rfl,_,aP.of b8⟩,_,yT (kp8 _ _ hb (by simp)),fun l2 hl2=>?_⟩;have s9:=(aV.refl H8).new (o:=.lst bs) hl2;have f9:upd H8 l2 (.lst bs) l2=some (.lst bs):=aa;have g9:=s9 _ _ f8;have b9:=s9 _ _ b8;have kp9:Kp H (upd H8 l2 (.lst bs)) []:=fun c o hc _=>s9 c o (kp8 c o hc (by simp));generalize upd H8 l2 (.lst bs)=H9 at f9 g9 b9 kp9 ⊢;refine⟨_,b9,_,f9,by rw[List.length_reverse];omega,n1+m1,by omega,by omega,⟨as.reverse++xs',bs.reverse++ys',_,_,rfl,?_,?_,al1.rev al'⟩,fun c o hc _=>?_⟩
     ·rw[ah n12,List.reverse_append,List.reverse_reverse];exact g9
     ·rw[aa,List.reverse_append,List.reverse_reverse]
     ·rw[ah (ag hc q2)];exact kp9 c o hc (by simp)
  ·intro σ H2 Q1 Q2 mono h
   revert h;walk_at "rd";rintro ⟨v,e1,e2,q⟩;refine⟨v,e1,e2,fun p hp=>?_⟩;obtain⟨p1,rfl,xs,h1,h2,z⟩:=q p hp;exact⟨p1,rfl,xs,h1,h2,mono _ _ z⟩
end
end
section
open PySem L2
theorem vq (b:Nm):∀ (x y:Nm),b++x<b++y↔x<y:=by
 induction b with
 | nil=>intro x y;exact Iff.rfl
 | cons a r ih=>intro x y;rw[List.cons_append,List.cons_append,List.cons_lt_cons_iff];simp[ih]
theorem xC (b:Nm) (c:Nat) (r:Nm):b<b++c::r:=by
 have:=(vq b [] (c::r)).mpr (List.nil_lt_cons _ _)
 rwa [List.append_nil] at this
theorem qO {b x y:Nm}{c d:Nat} (h:c<d):b++c::x<b++d::y:=(vq b _ _).mpr (List.cons_lt_cons_iff.mpr (.inl h))
theorem tI {a b:Nm} (h:a<b):¬ b<a:=fun z=>List.lt_irrefl _ (List.lt_trans h z)
theorem pU:∀ {l r:List Nm},l.Pairwise (·<·)->r.Pairwise (·<·)->(∀ x,x∈l↔x∈r)->l=r
 | [],[],_,_,_=>rfl
 | [],b::r,_,_,h=>absurd ((h b).mpr List.mem_cons_self) (by simp)
 | a::l,[],_,_,h=>absurd ((h a).mp List.mem_cons_self) (by simp)
 | a::l,b::r,p,q,h=>by
  obtain⟨p1,p2⟩:=List.pairwise_cons.mp p;obtain⟨q1,q2⟩:=List.pairwise_cons.mp q;have e:a=b:=by
   rcases List.mem_cons.mp ((h a).mp List.mem_cons_self) with z|z
   ·exact z
   ·rcases List.mem_cons.mp ((h b).mpr List.mem_cons_self) with y|y
    ·exact y.symm
    ·exact absurd (q1 a z) (tI (p1 b y))
  subst e;rw[pU p2 q2 fun x=>⟨fun hx=>?_,fun hx=>?_⟩]
  ·rcases List.mem_cons.mp ((h x).mp (List.mem_cons_of_mem _ hx)) with z|z
   ·exact absurd (p1 x hx) (z ▸ List.lt_irrefl _)
   ·exact z
  ·rcases List.mem_cons.mp ((h x).mpr (List.mem_cons_of_mem _ hx)) with z|z
   ·exact absurd (q1 x hx) (z ▸ List.lt_irrefl _)
   ·exact z
theorem vp {l:List Nm} (h:l.Nodup):(ft l).Pairwise (·<·):=by
 have nd:(ft l).Nodup:=(bH l).symm.nodup h;have p:=jW l;rw[List.nodup_iff_pairwise_ne] at nd;refine (List.Pairwise.and nd p).imp fun {a b} ⟨ne,q⟩=>?_
 by_cases z:a<b
 ·exact z
 ·exact absurd (oP q z) ne
theorem nj {m1 m2:Mp} (h1:aO m1) (h2:aO m2):(aW m1 m2).Pairwise (·<·):=(vp (kS h1 h2)).sublist List.filter_sublist
theorem hW {m1 m2:Mp}{n:Nm}:n∈aW m1 m2↔aq m1 n≠aq m2 n:=by
 unfold aW;rw[List.mem_filter,(bH _).mem_iff,gv,decide_eq_true_eq];constructor
 ·exact fun h=>h.2
 ·intro h
  refine⟨?_,h⟩
  cases e1:aq m1 n with
  | some _=>exact .inl rfl
  | none =>
   cases e2:aq m2 n with
   | some _=>exact .inr rfl
   | none=>rw[e1,e2] at h;exact absurd rfl h
noncomputable def vS (m:Mp) (b:Nm):Prop:=∃ j,(aq m j).isSome=true/\b <+: j
theorem lV {m:Mp}{n b:Nm}{to:Option Nm} (h:¬ b <+: n):vS (bP m n to) b↔vS m b:=by
 constructor
 ·rintro ⟨j,hj,hb⟩
  rw[bX,if_neg (fun z:j=n=>h (z ▸ hb))] at hj;exact⟨j,hj,hb⟩
 ·rintro ⟨j,hj,hb⟩
  refine⟨j,?_,hb⟩;rw[bX,if_neg (fun z:j=n=>h (z ▸ hb))];exact hj
theorem nR {m:Mp}{b:Nm}:vS m b↔(aq m b).isSome=true\/∃ c,vS m (b++[c]):=by
 constructor
 ·rintro ⟨j,hj,r,rfl⟩
  cases r with
  | nil=>rw[List.append_nil] at hj;exact .inl hj
  | cons c r=>exact .inr ⟨c,_,hj,r,by simp⟩
 ·rintro (h|⟨c,j,hj,hb⟩)
  ·exact⟨b,h,List.prefix_refl _⟩
  ·exact⟨j,hj,(List.prefix_append b [c]).trans hb⟩
noncomputable def kz (m:Mp) (b:Nm):Bool:=!(m.all fun p=>!b.isPrefixOf p.1)
theorem oi (m:Mp) (b:Nm):kz m b=true↔vS m b:=by
 unfold kz;rw[Bool.not_eq_true',<- Bool.not_eq_true,iZ,jw];exact Classical.not_not
theorem lN (M:Mp):∀ (l:List Nm) (a:Nat×Nat×Nd),(l.foldl (bF M) a).1=a.1+(l.filter fun b=>kz M b).length
 | [],a=>rfl
 | b::l,a=>by
  rw[List.foldl_cons,lN M l,List.filter_cons];unfold bF kz
  cases e:M.all fun p=>!b.isPrefixOf p.1 with
  | true=>simp
  | false=>simp;omega
theorem pP {m:Mp}{n:Nm}{to:Option Nm} (h:aq m n≠to) (nd:Nd) (st:Nat):(bu m nd st n to).made=((bq n).filter fun b=>kz (bP m n to) b).length/\(bu m nd st n to).m=bP m n to:=by
 unfold bu;rw[if_neg h];refine⟨?_,rfl⟩;show ((bq n).foldl (bF (bP m n to)) (0,st,nd)).1=_;rw[lN];exact Nat.zero_add _
noncomputable def bR (mb mo mt:Mp):List Nm:=(aW mb mt).filter fun n=>decide (aq mt n≠aq mo n)
theorem dD {mb mo mt:Mp}{n:Nm}:n∈bR mb mo mt↔aq mt n≠aq mb n/\aq mt n≠aq mo n:=by
 unfold bR;rw[List.mem_filter,hW,decide_eq_true_eq];exact and_congr_left fun _=>ne_comm
theorem jo {mb mo mt:Mp} (h1:aO mb) (h2:aO mt):(bR mb mo mt).Pairwise (·<·):=(nj h1 h2).sublist List.filter_sublist
theorem vH {mb mo mt:Mp} (h1:aO mb) (h2:aO mo) (h3:aO mt):cX mb mo mt=((bR mb mo mt).filter fun n=>decide (aq mb n≠aq mo n)).map (fA mb mo mt):=by
 unfold cX;congr 1;refine pU ((nj h1 h2).sublist List.filter_sublist) ((jo h1 h3).sublist List.filter_sublist) fun n=>?_;rw[List.mem_filter,List.mem_filter,dD,hW,Bool.and_eq_true,decide_eq_true_eq,decide_eq_true_eq,decide_eq_true_eq,hW];constructor
 ·rintro ⟨a,b,c⟩;exact⟨⟨fun z=>b z.symm,fun z=>c z.symm⟩,a⟩
 ·rintro ⟨⟨a,b⟩,c⟩;exact⟨c,fun z=>a z.symm,fun z=>b z.symm⟩
theorem iA {m:Mp}{n:Nm}{to:Option Nm} (h:aq m n=to) (nd:Nd) (st:Nat):bu m nd st n to=⟨0,st,m,nd⟩:=by unfold bu;rw[if_pos h]
theorem gC (mo mt:Mp):∀ (l:List Nm) (a:LR),l.Nodup->(∀ n∈l,aq a.m n=aq mo n)->l.foldl (aQ mt) a=(l.filter fun n=>decide (aq mt n≠aq mo n)).foldl (aQ mt) a
 | [],a,_,_=>rfl
 | n::l,a,nd,h=>by
  obtain⟨n1,n2⟩:=List.nodup_cons.mp nd;have step:∀ x∈l,aq (aQ mt a n).m x=aq mo x:=fun x hx=>by
   show aq (bu a.m a.nd a.st n (aq mt n)).m x=_;rw[mP,if_neg (fun z:x=n=>n1 (z ▸ hx))];exact h x (List.mem_cons_of_mem _ hx)
  rw[List.foldl_cons,List.filter_cons]
  by_cases e:aq mt n=aq mo n
  ·have e2:aQ mt a n=a:=by
    unfold aQ;rw[iA ((h n List.mem_cons_self).trans e.symm)]
    rfl
   rw[if_neg (by simp[e]),e2];exact gC mo mt l a n2 fun x hx=>h x (List.mem_cons_of_mem _ hx)
  ·rw[if_pos (by simp[e]),List.foldl_cons]
   exact gC mo mt l (aQ mt a n) n2 step
theorem pE {mb mo mt:Mp} (h1:aO mb) (h3:aO mt) (nd:Nd) (st:Nat):bQ mb mo mt nd st=(bR mb mo mt).foldl (aQ mt) ⟨0,st,mo,nd⟩:=by
 refine gC mo mt (aW mb mt) _ ?_ fun n _=>rfl;rw[List.nodup_iff_pairwise_ne];exact (nj h1 h3).imp fun {a b} h (e:a=b)=>List.lt_irrefl b (e ▸ h)
noncomputable def under (full:List Nm) (b:Nm):List Nm:=full.filter fun n=>b.isPrefixOf n
theorem cY {full:List Nm}{b n:Nm}:n∈under full b↔n∈full/\b <+: n:=by unfold under;rw[List.mem_filter,List.isPrefixOf_iff_prefix]
theorem nU {full:List Nm} (h:full.Pairwise (·<·)) (b:Nm):(under full b).Pairwise (·<·):=h.sublist List.filter_sublist
theorem sr {full:List Nm} (h:full.Pairwise (·<·)) (b:Nm):∀ (L:List Nat),L.Pairwise (·<·)->(L.flatMap fun c=>under full (b++[c])).Pairwise (·<·)
 | [],_=>.nil
 | c::L,p=>by
  obtain⟨p1,p2⟩:=List.pairwise_cons.mp p;rw[List.flatMap_cons,List.pairwise_append];refine⟨nU h _,sr h b L p2,fun x hx y hy=>?_⟩;obtain⟨d,hd,hy⟩:=List.mem_flatMap.mp hy;obtain⟨_,r,rfl⟩:=cY.mp hx;obtain⟨_,r',rfl⟩:=cY.mp hy;rw[List.append_assoc,List.append_assoc];exact qO (p1 d hd)
theorem qM {full:List Nm} (h:full.Pairwise (·<·)) (b:Nm) (L:List Nat) (p:L.Pairwise (·<·)) (cov:∀ n∈full,∀ c,b++[c] <+: n->c∈L) :
  under full b=(if b∈full then [b] else [])++L.flatMap fun c=>under full (b++[c]):=by
 have fs:=sr h b L p;have low:∀ y∈L.flatMap (fun c=>under full (b++[c])),b<y:=fun y hy=>by
  obtain⟨d,hd,hy⟩:=List.mem_flatMap.mp hy;obtain⟨_,r,rfl⟩:=cY.mp hy;rw[List.append_assoc];exact xC b d r
 refine pU (nU h b) ?_ fun x=>?_
 ·rw[List.pairwise_append]
  refine⟨?_,fs,fun x hx y hy=>?_⟩
  ·split
   ·exact List.pairwise_singleton _ _
   ·exact .nil
  ·split at hx
   ·rw[List.mem_singleton.mp hx];exact low y hy
   ·cases hx
 ·rw[cY,List.mem_append,List.mem_flatMap]
  constructor
  ·rintro ⟨hx,r,rfl⟩
   cases r with
   | nil=>rw[List.append_nil] at hx ⊢;left;rw[if_pos hx];exact List.mem_singleton.mpr rfl
   | cons c r =>
    have q:b++[c] <+: b++c::r:=⟨r,by simp⟩;exact .inr ⟨c,cov _ hx c q,cY.mpr ⟨hx,q⟩⟩
  ·rintro (hx|⟨c,_,hx⟩)
   ·split at hx
    ·rename_i hb;rw[List.mem_singleton.mp hx];exact⟨hb,List.prefix_refl _⟩
    ·cases hx
   ·obtain⟨h1,h2⟩:=cY.mp hx
    exact⟨h1,(List.prefix_append b [c]).trans h2⟩
noncomputable def cnt (B:List Nm) (b:Nm):Nat:=(B.filter fun n=>b.isPrefixOf n).length
theorem cnt_cons (x:Nm) (B:List Nm) (b:Nm):cnt (x::B) b=(if b.isPrefixOf x=true then 1 else 0)+cnt B b:=by
 unfold cnt;rw[List.filter_cons]
 split <;> simp <;> omega
theorem jJ {b x:Nm}:∀ (L:List Nat),L.Nodup->(L.map fun c=>if (b++[c]).isPrefixOf x=true then 1 else 0).sum<=(if b.isPrefixOf x=true/\b≠x then 1 else 0)
 | [],_=>Nat.zero_le _
 | c::L,nd=>by
  obtain⟨n1,n2⟩:=List.nodup_cons.mp nd;rw[List.map_cons,List.sum_cons]
  by_cases e:(b++[c]).isPrefixOf x=true
  ·have p:=List.isPrefixOf_iff_prefix.mp e
   have hz:(L.map fun d=>if (b++[d]).isPrefixOf x=true then 1 else 0).sum=0:=by
    have:∀ d∈L,¬ (b++[d]).isPrefixOf x=true:=fun d hd q=>by
     obtain⟨r,hr⟩:=p;obtain⟨r',hr'⟩:=List.isPrefixOf_iff_prefix.mp q;rw[<- hr',List.append_assoc,List.append_assoc] at hr;have:=List.append_cancel_left hr;have:c=d:=by simpa using (List.cons.inj this).1
     exact n1 (this ▸ hd)
    clear n1 n2 nd e p
    induction L with
    | nil=>rfl
    | cons d L ih =>
     rw[List.map_cons,List.sum_cons,if_neg (this d List.mem_cons_self),ih fun y hy=>this y (List.mem_cons_of_mem _ hy)]
   obtain⟨r,hr⟩:=p;have q:b.isPrefixOf x=true/\b≠x:=by
     refine⟨List.isPrefixOf_iff_prefix.mpr ⟨[c]++r,by rw[<- List.append_assoc];exact hr⟩,fun z=>?_⟩;rw[z] at hr;have:=congrArg List.length hr;simp at this
   rw[hz,if_pos e,if_pos q];exact Nat.le_refl _
  ·rw[if_neg e,Nat.zero_add]
   exact jJ L n2
theorem sum_add {α:Type} (L:List α) (f g:α->Nat):(L.map fun c=>f c+g c).sum=(L.map f).sum+(L.map g).sum:=by
 induction L with
 | nil=>rfl
 | cons a L ih=>simp only[List.map_cons,List.sum_cons,ih];omega
theorem rT (b:Nm) (L:List Nat) (nd:L.Nodup):∀ (B:List Nm),(L.map fun c=>cnt B (b++[c])).sum<=(B.filter fun x=>decide (b.isPrefixOf x=true/\b≠x)).length
 | []=>by
  have:(L.map fun c=>cnt [] (b++[c])).sum=0:=by
   clear nd
   induction L with
   | nil=>rfl
   | cons d L ih=>rw[List.map_cons,List.sum_cons,ih];rfl
  rw[this];exact Nat.zero_le _
 | x::B=>by
  have ih:=rT b L nd B;have o:=jJ (b:=b) (x:=x) L nd;have e:(L.map fun c=>cnt (x::B) (b++[c]))=L.map fun c=>(if (b++[c]).isPrefixOf x=true then 1 else 0)+cnt B (b++[c]):=List.map_congr_left fun c _=>cnt_cons x B (b++[c]);rw[e,sum_add,List.filter_cons]
  split
  ·rename_i h
   rw[if_pos (of_decide_eq_true h)] at o;rw[List.length_cons];omega
  ·rename_i h
   rw[if_neg (fun z=>h (decide_eq_true z))] at o;omega
theorem jz {B:List Nm}{b:Nm} (hb:b∈B) {L:List Nat} (nd:L.Nodup):(L.map fun c=>cnt B (b++[c])).sum+1<=cnt B b:=by
 refine Nat.le_trans (Nat.add_le_add_right (rT b L nd B) 1) ?_;unfold cnt
 induction B with
 | nil=>cases hb
 | cons x B ih =>
  rw[List.filter_cons,List.filter_cons]
  by_cases e:b=x
  ·subst e
   rw[if_neg (by simp),if_pos (by rw[List.isPrefixOf_iff_prefix];exact List.prefix_refl _),List.length_cons];refine Nat.add_le_add_right (List.Sublist.length_le ?_) 1;have:(fun y=>decide (b.isPrefixOf y=true/\b≠y))=fun y=>(b.isPrefixOf y) && decide (b≠y):=by funext y;rw[Bool.decide_and];simp only[Bool.decide_eq_true]
   rw[this,<- List.filter_filter];have e2:(List.filter (fun y=>b.isPrefixOf y) (List.filter (fun y=>decide (b≠y)) B))=List.filter (fun y=>decide (b≠y)) (List.filter (fun y=>b.isPrefixOf y) B):=by
    rw[List.filter_filter,List.filter_filter];congr 1;funext y;exact Bool.and_comm _ _
   rw[e2];exact List.filter_sublist
  ·have ih:=ih ((List.mem_cons.mp hb).resolve_left e)
   by_cases p:b.isPrefixOf x=true
   ·rw[if_pos (by simp[p,e]),if_pos p,List.length_cons,List.length_cons];omega
   ·rw[if_neg (by simp[p]),if_neg p];exact ih
theorem rX {B:List Nm}{b:Nm} (hb:b∈B):1<=cnt B b:=by
 have:=jz hb (L:=[]) List.nodup_nil
 simpa using this
noncomputable def wO (m:Mp):Prop:=∀ n,(aq m n).isSome=true->isNm n=true
noncomputable def Cw (S:LS):Prop:=∀ (i:Nat) m,S.ms[i]?=some m->wO m
theorem vE:wO []:=fun n h=>by cases h
theorem qp {m:Mp} (h:wO m) (nd:Nd) (st:Nat) {n:Nm}{to:Option Nm} (hn:to.isSome=true->isNm n=true):wO (bu m nd st n to).m:=fun j hj=>by
 rw[mP] at hj
 by_cases e:j=n
 ·rw[if_pos e] at hj;exact e ▸ hn hj
 ·rw[if_neg e] at hj;exact h j hj
theorem rp {mt:Mp} (ht:wO mt):∀ (l:List Nm) (a:LR),wO a.m->wO (l.foldl (aQ mt) a).m
 | [],a,h=>h
 | n::l,a,h=>rp ht l (aQ mt a n) (qp h _ _ fun z=>ht n z)
theorem iU {S:LS} (h:Cw S) (i:Nat):wO (S.ms.getD i []):=by
 by_cases q:i<S.ms.length
 ·exact h i _ (by simp[List.getD,q])
 ·have:S.ms.getD i []=[]:=by simp[List.getD,q]
  rw[this];exact vE
theorem jb {S:LS} (h:Cw S) (d:bY):Cw (aD S d).2:=by
 have more:∀ {m:Mp}{nd:Nd}{p:Option Nat}{st md:Nat},wO m->Cw ⟨S.ms++[m],S.ns++[nd],S.par++[p],st,S.made++[md]⟩:=fun {m nd p st md} hm i m' e=>by
  rcases cS e with ⟨_,e⟩|⟨_,rfl⟩
  ·exact h i m' e
  ·exact hm
 unfold aD
 by_cases eb:fc S d=true
 ·rw[if_pos eb];exact h
 ·rw[if_neg eb]
  by_cases en:gc d=true
  ·rw[if_pos en];exact h
  ·rw[if_neg en]
   cases d with
   | put v n x=>exact more (qp (iU h _) _ _ fun _=>by unfold gc lF at en;simpa using en)
   | take v n=>exact more (qp (iU h _) _ _ fun z=>by cases z)
   | join b o t =>
    dsimp only
    split
    ·exact more (rp (iU h _) _ _ (iU h _))
    ·exact h
theorem CK:Cw S0:=fun i m e=>by rw[ed e];exact vE
end
section
section
noncomputable def pt:Option Addr->V
 | none=>.non
 | some a=>.ref a
theorem DX:decide (pt none=V.non)=true:=decide_eq_true rfl
theorem DO (a:Addr):¬ decide (pt (some a)=V.non)=true:=by simp[pt]
noncomputable def lB (y z:V):List (Str×V):=cj "branches" z (cj "value" y [])
theorem CO:¬ (("value":Str)="branches"):=by decide +kernel
theorem iC (y z:V):(lB y z).lookup ("value":Str)=some y:=by
 unfold lB;rw[aB,if_neg CO,aB,if_pos rfl]
theorem cO (y z:V):(lB y z).lookup ("branches":Str)=some z:=by
 unfold lB;rw[aB,if_pos rfl]
structure iO (kvs:List (Nm×Addr)) (nx:Nat->Option Addr):Prop where
 to:∀ c,aq kvs [c]=nx c
 ab:∀ p∈kvs,∃ c,p.1=[c]/\97<=c/\c<=122
 nd:(kvs.map (·.1)).Nodup
noncomputable def jT (CN:Addr) (H:Hp) (a:Addr) (v:Option Nm) (nx:Nat->Option Addr):Prop:=∃ (dx d:Addr) (kvs:List (Nm×Addr)),H a=some (.ins CN dx (lB (oV v) (.ref d)))/\H d=some (.dK (aM V.ref kvs))/\iO kvs nx
noncomputable def cN (CN:Addr) (H:Hp) (o:Option Addr) (v:Option Nm) (nx:Nat->Option Addr):Prop:=match o with
 | none=>v=none/\∀ c,nx c=none
 | some a=>jT CN H a v nx
theorem jT.kp {CN:Addr}{H H':Hp}{a:Addr}{v:Option Nm}{nx:Nat->Option Addr} (x:jT CN H a v nx) (k:Kp H H' []):jT CN H' a v nx:=by
 obtain⟨dx,d,kvs,h1,h2,h3⟩:=x;exact⟨dx,d,kvs,k _ _ h1 (by simp),k _ _ h2 (by simp),h3⟩
theorem cN.kp {CN:Addr}{H H':Hp}{o:Option Addr}{v:Option Nm}{nx:Nat->Option Addr} (x:cN CN H o v nx) (k:Kp H H' []):cN CN H' o v nx:=by
 cases o with
 | none=>exact x
 | some a=>exact jT.kp x k
theorem um {kvs:List (Nm×Addr)}{nx:Nat->Option Addr} (b:iO kvs nx):kvs.length<=26:=by
 have h:(kvs.map (·.1)).length<=((List.range 26).map fun i=>[i+97]).length:=eR b.nd fun x hx=>by
  obtain⟨p,hp,rfl⟩:=List.mem_map.mp hx;obtain⟨c,e,h1,h2⟩:=b.ab p hp;rw[e,List.mem_map];exact⟨c - 97,List.mem_range.mpr (by omega),by simp;omega⟩
 rw[List.length_map,List.length_map,List.length_range] at h;exact h
structure Cy (K:PySem.W.Frag) (CN:Addr):Prop where
 cl:pH K CN
 nv:bp K CN "value"
 nb:bp K CN "branches"
noncomputable abbrev zQ:Stmt:=(inClass (top 2) 0)
theorem DJ:az ["self","value","branches"] ["self","value","branches"] (ao zQ):=by walk_at "s"
noncomputable def rW (CN:Addr):Sp:=fun vs H Q _=>∃ (x dx:Addr) (y z:V),vs=[.ref x,y,z]/\H x=some (.ins CN dx [])/\∀ H',H' x=some (.ins CN dx (lB y z))->(∀ b,b≠x->H' b=H b)->Q .non H'
theorem B3 {f CN:Addr}{fd:FuncData} (T:Cy K CN) (F:cJ K "__init__" "Node.__init__" zQ f fd):aR P w K mg base aT 1 f fd ["self","value","branches"] (rW CN):=by
 have sc:=DJ;walk_at "f"
 ·obtain⟨_,_,_,_,rfl,_⟩:=h
  rfl
 ·obtain⟨x,dx,y,z,rfl,hx,k⟩:=h
  refine⟨_,(af (dS (pv 0) (pv 1) rfl)
   (ak (dS (pv 0) (pv 2) rfl))),?_⟩
  walk_at "rd";refine⟨CN,dx,[],hx,T.cl,T.nv,by decide,CN,dx,_,aa,T.cl,T.nb,(by show 1<1000;decide),?_⟩;exact k _ aa fun b hb=>by rw[ah hb,ah hb]
noncomputable abbrev AM:Stmt:=top 3
theorem Eg:az ["node"] ["node"] (ao AM):=by walk_at "s"
noncomputable def ow (CN:Addr):Sp:=fun vs H Q _=>∃ (o:Option Addr) (v:Option Nm) (nx:Nat->Option Addr),vs=[pt o]/\cN CN H o v nx/\Q (oV v) H
theorem BF {f CN:Addr}{fd:FuncData} (T:Cy K CN) (F:cJ K "value_at" "value_at" AM f fd):aR P w K mg base aT 1 f fd ["node"] (ow CN):=by
 have sc:=Eg;walk_at "f"
 ·obtain⟨_,_,_,rfl,_⟩:=h
  rfl
 ·obtain⟨o,v,nx,rfl,hp,k⟩:=h
  refine⟨_,(ak (aw (gG (dN (fB (pv 0))) fF (aY K (pv 0) rfl)))),?_⟩;walk_at "rd"
  cases o with
  | none =>
   obtain⟨rfl,_⟩:=hp;rw[if_pos DX];exact k
  | some a =>
   obtain⟨dx,d,kvs,h1,h2,h3⟩:=hp;rw[if_neg (DO _)];exact⟨a,rfl,CN,dx,_,h1,T.cl,T.nv,_,iC _ _,k⟩
noncomputable abbrev BQ:Stmt:=top 4
theorem Dn:az ["node"] ["node"] (ao BQ):=by walk_at "s"
noncomputable def sD (CN:Addr):Sp:=fun vs H Q _=>∃ (o:Option Addr) (v:Option Nm) (nx:Nat->Option Addr),vs=[pt o]/\cN CN H o v nx/\∀ (d:Addr) (kvs:List (Nm×Addr)),H d=none->iO kvs nx->Q (.ref d) (upd H d (.dK (aM V.ref kvs)))
theorem zK {nx:Nat->Option Addr} (h:∀ c,nx c=none):iO [] nx:=⟨fun c=>(h c).symm,fun p hp=>absurd hp (by simp),List.nodup_nil⟩
theorem BJ {f CN:Addr}{fd:FuncData} (B:Bl mg) (T:Cy K CN) (F:cJ K "branches_at" "branches_at" BQ f fd):aR P w K mg base aT 1 f fd ["node"] (sD CN):=by
 have sc:=Dn;walk_at "f"
 ·obtain⟨_,_,_,rfl,_⟩:=h
  rfl
 ·obtain⟨o,v,nx,rfl,hp,k⟩:=h
  refine⟨_,(ak (aw (gG (dN (fB (pv 0))) gP (eO eW rfl B.dct boot_dict (ai (aY K (pv 0) rfl) ae))))),?_⟩;walk_at "rd"
  cases o with
  | none =>
   obtain⟨rfl,hn⟩:=hp;rw[if_pos DX];exact fun d hd=>k d [] hd (zK hn)
  | some a =>
   obtain⟨dx,d,kvs,h1,h2,h3⟩:=hp;rw[if_neg (DO _)];exact⟨a,rfl,CN,dx,_,h1,T.cl,T.nb,_,cO _ _,d,rfl,_,.inl h2,fun p hp=>k p kvs hp h3⟩
noncomputable abbrev Aa:Stmt:=top 5
theorem CI:az ["node","letter"] ["node","letter"] (ao Aa):=by walk_at "s"
noncomputable def rh (CN:Addr):Sp:=fun vs H Q _=>∃ (o:Option Addr) (v:Option Nm) (nx:Nat->Option Addr) (c:Nat),vs=[pt o,.str (tx [c])]/\cN CN H o v nx/\Q (pt (nx c)) H
theorem AW (o:Option Addr):((o.map V.ref).getD .non)=pt o:=by cases o <;> rfl
theorem An {f CN:Addr}{fd:FuncData} (T:Cy K CN) (F:cJ K "node_behind" "node_behind" Aa f fd):aR P w K mg base aT 1 f fd ["node","letter"] (rh CN):=by
 have sc:=CI;walk_at "f"
 ·obtain⟨_,_,_,_,rfl,_⟩:=h
  rfl
 ·obtain⟨o,v,nx,c,rfl,hp,k⟩:=h
  have hu:=d_ hr;refine⟨_,(ak (aw (gG (dN (fB (pv 0))) fF (b_ hu (aY K (pv 0) rfl) (pv 1) ⟨rfl,rfl,rfl,rfl⟩)))),?_⟩;walk_at "rd"
  cases o with
  | none =>
   obtain⟨rfl,hn⟩:=hp;rw[if_pos DX];rw[hn c] at k;exact k
  | some a =>
   obtain⟨dx,d,kvs,h1,h2,h3⟩:=hp;rw[if_neg (DO _)];refine⟨a,rfl,CN,dx,_,h1,T.cl,T.nb,_,cO _ _,d,rfl,.inl ⟨_,.inl h2⟩,_,bN.k' (k:=.inr (tx [c])) h2 (cx V.ref [c] kvs),?_⟩;rw[AW,h3.to];exact k
noncomputable abbrev Bb:Stmt:=top 6
theorem Em:az ["node"] ["node"] (ao Bb):=by walk_at "s"
noncomputable def uS (CN:Addr):Sp:=fun vs H Q _=>∃ (o:Option Addr) (v:Option Nm) (nx:Nat->Option Addr),vs=[pt o]/\cN CN H o v nx/\∀ (l:List Nat) H',l.Pairwise (·<·)->(∀ c,c∈l↔(nx c).isSome=true)->(∀ c∈l,97<=c/\c<=122)->Kp H H' []->Q (.str (tx l)) H'
theorem join_eq (sep:Str) (l:List Str):Txt.join sep l=Str.join sep l:=StrLaws.glued_eq_join sep l
theorem lM:∀ (l:List Nat),Str.join (Str.ofString "") (l.map fun c=>tx [c])=tx l
 | []=>rfl
 | [c]=>rfl
 | c::d::l=>by
  have ih:=lM (d::l);have e:Str.join (Str.ofString "") ((c::d::l).map fun c=>tx [c])=tx [c]++Str.ofString ""++Str.join (Str.ofString "") ((d::l).map fun c=>tx [c]):=rfl;rw[e,ih,gY (tx [c]++Str.ofString ""++tx (d::l))];congr 1;have e0:(Str.ofString "").cps=#[]:=by decide +kernel
  rw[fi,fi,e0];simp
theorem join_one (l:List Nat):Txt.join (Str.ofString "") (l.map fun c=>tx [c])=tx l:=(join_eq _ _).trans (lM l)
theorem uF (l:List Nat):((l.map fun c=>tx [c]).map (·.length)).sum=l.length:=by
 induction l with
 | nil=>rfl
 | cons c l ih =>
  rw[List.map_cons,List.map_cons,List.sum_cons,ih,List.length_cons];have:(tx [c]).length=1:=rfl;omega
theorem rK {kvs:List (Nm×Addr)}{nx:Nat->Option Addr} (b:iO kvs nx):∃ ds:List Nat,ds.Nodup/\kvs.map (·.1)=(ds.map fun d=>[d])/\ds.length=kvs.length/\(∀ c,c∈ds↔(nx c).isSome=true)/\∀ c∈ds,97<=c/\c<=122:=by
 have e:kvs.map (·.1)=((kvs.map fun p=>p.1.headD 0).map fun d=>[d]):=by
  rw[List.map_map];refine List.map_congr_left fun p hp=>?_;obtain⟨c,e,_⟩:=b.ab p hp;simp[e]
 refine⟨kvs.map fun p=>p.1.headD 0,?_,e,List.length_map _,fun c=>?_,fun c hc=>?_⟩
 ·have:=b.nd
  rw[e,List.nodup_iff_pairwise_ne,List.pairwise_map] at this;rw[List.nodup_iff_pairwise_ne];exact this.imp fun {a b} h z=>h (by rw[z])
 ·rw[<- b.to c,<- mem_keys kvs [c],e]
  constructor
  ·intro h;exact List.mem_map.mpr ⟨c,h,rfl⟩
  ·intro h
   obtain⟨d,hd,z⟩:=List.mem_map.mp h;have:d=c:=by simpa using z
   exact this ▸ hd
 ·obtain⟨p,hp,rfl⟩:=List.mem_map.mp hc
  obtain⟨c,e,h⟩:=b.ab p hp;rw[e];exact h
theorem BP {f CN:Addr}{fd:FuncData} (B:Bl mg) (T:Cy K CN) (F:cJ K "letters_on" "letters_on" Bb f fd):aR P w K mg base aT 1 f fd ["node"] (uS CN):=by
 have sc:=Em;walk_at "f"
 ·obtain⟨_,_,_,rfl,_⟩:=h
  rfl
 ·obtain⟨o,v,nx,rfl,hp,k⟩:=h
  refine⟨_,(ak (aw (gG (dN (fB (pv 0))) au (eG K PySem.F.plainAttrs_str PySem.F.slot_str_join PySem.F.type_str_join (uV K) au (ai (bg (g_ rfl) rfl B.srt boot_sorted (ai (aY K (pv 0) rfl) ae)) ae))))),?_⟩;walk_at "rd"
  cases o with
  | none =>
   obtain⟨rfl,hn⟩:=hp;rw[if_pos DX];exact k [] H .nil (fun c=>by simp[hn c]) (fun c hc=>absurd hc (by simp)) (Kp.refl _ _)
  | some a =>
   obtain⟨dx,d,kvs,h1,h2,h3⟩:=hp;rw[if_neg (DO _)];obtain⟨ds,nd,e,hl,hm,hab⟩:=rK h3;have hlen:=um h3;refine⟨rfl,a,rfl,CN,dx,_,h1,T.cl,T.nb,_,cO _ _,d,rfl,_,h2,ds.map (fun c=>tx [c]),?_,by rw[List.length_map];omega,fun p ss hp pm srt=>?_⟩
   ·have:(aM V.ref kvs).map (fun kv=>kV kv.1)=(kvs.map (·.1)).map sV:=by
     unfold aM;rw[List.map_map,List.map_map]
     rfl
    rw[this,e,List.map_map,List.map_map]
    rfl
   ·obtain⟨l,rfl,sl,pl⟩:=jE nd pm srt
    have hll:l.length=ds.length:=pl.length_eq;refine⟨_,aP.of aa,?_,?_⟩
    ·rw[uF,List.length_map]
     have:(Str.ofString "").length=0:=by decide +kernel
     rw[this];omega
    ·rw[join_one]
     exact k l _ sl (fun c=>(pl.mem_iff).trans (hm c)) (fun c hc=>hab c (pl.mem_iff.mp hc)) ((Kp.refl H []).new hp)
noncomputable abbrev zw:Stmt:=top 7
theorem DE:az ["value","branches"] ["value","branches"] (ao zw):=by walk_at "s"
noncomputable def Made (CN:Addr) (H:Hp) (v:Option Nm) (nx:Nat->Option Addr) (Q:VK):Prop:=∀ (o:Option Addr) H',cN CN H' o v nx->(o.isSome=true↔v.isSome=true\/∃ c,(nx c).isSome=true)->(∀ a,o=some a->H a=none)->Kp H H' []->Q (pt o) H'
noncomputable def rR (CN:Addr):Sp:=fun vs H Q _=>∃ (v:Option Nm) (d:Addr) (kvs:List (Nm×Addr)) (nx:Nat->Option Addr),vs=[oV v,.ref d]/\H d=some (.dK (aM V.ref kvs))/\iO kvs nx/\Made CN H v nx Q
theorem rO {kvs:List (Nm×Addr)}{nx:Nat->Option Addr} (b:iO kvs nx):kvs=[]↔∀ c,nx c=none:=by
 obtain⟨ds,_,_,hl,hm,_⟩:=rK b;constructor
 ·intro e c
  rw[e] at hl;have:ds=[]:=List.length_eq_zero_iff.mp hl;subst this
  cases h:nx c with
  | none=>rfl
  | some a=>exact absurd ((hm c).mpr (by rw[h];rfl)) (by simp)
 ·intro h
  cases ds with
  | nil=>exact List.length_eq_zero_iff.mp hl.symm
  | cons c r =>
   have:=(hm c).mp List.mem_cons_self;rw[h c] at this
   cases this
theorem BG {f CN:Addr}{fd:FuncData} (B:Bl mg) (n_Node:gd P w K mg base 1 "Node" CN ["self","value","branches"] (rW CN)) (F:cJ K "node_if_needed" "node_if_needed" zw f fd):aR P w K mg base aT 3 f fd ["value","branches"] (rR CN):=by
 have sc:=DE;walk_at "f"
 ·obtain⟨_,_,_,_,rfl,_⟩:=h
  rfl
 ·obtain⟨v,d,kvs,nx,rfl,hd,hb,k⟩:=h
  refine⟨_,(af (eX (PW.pt (ke (dN (fB (pv 0))) (jf (aG dg (bg kN rfl B.len boot_len (ai (pv 1) ae)) aj (aH _))))) (ak (aw fF)) aJ)
   (ak (aw (oj n_Node hr (ai (pv 0) (ai (pv 1) ae)))))),?_⟩
  walk_at "rd";have mk:(v.isSome=true\/∃ c,(nx c).isSome=true)->∀ (x dx:Addr),H x=none->H dx=none->dx≠x->rW CN [V.ref x,oV v,V.ref d] (upd (upd H dx (HO.own x)) x (HO.ins CN dx [])) (fun v H2=>v=V.non/\Q (V.ref x) H2) E0:=by
   intro hs x dx nx1 nx2 ne;refine⟨x,dx,oV v,.ref d,rfl,aa,fun H' hx oth=>⟨rfl,?_⟩⟩;have kp:Kp H H' []:=fun b o e _=>by
    rw[oth b (ag e nx1),ah (ag e nx1),ah (ag e nx2)];exact e
   exact k (some x) H' ⟨dx,d,kvs,hx,kp d _ hd (by simp),hb⟩ ⟨fun _=>hs,fun _=>rfl⟩ (fun a e=>by cases e;exact nx1) kp
  cases v with
  | some y =>
   rw[if_neg (by simp[oV,sV])];exact mk (.inl rfl)
  | none =>
   rw[if_pos (decide_eq_true (show oV none=V.non from rfl))];refine⟨_,hd,rfl,?_⟩;rw[ir]
   by_cases e:kvs=[]
   ·rw[if_pos (by rw[e];rfl)]
    have hn:=(rO hb).mp e;exact k none H ⟨rfl,hn⟩ ⟨fun z=>absurd z (by simp),fun z=>z.elim (fun z=>absurd z (by simp)) fun ⟨c,z⟩=>absurd z (by rw[hn c];simp)⟩ (fun a e=>by cases e) (Kp.refl _ _)
   ·rw[if_neg (by
     have:kvs.length≠0:=fun z=>e (List.length_eq_zero_iff.mp z);simp;exact e)]
    refine mk (.inr ?_)
    by_cases q:∃ c,(nx c).isSome=true
    ·exact q
    ·exact absurd ((rO hb).mpr fun c=>by
      cases z:nx c with
      | none=>rfl
      | some a=>exact absurd ⟨c,by rw[z];rfl⟩ q) e
noncomputable abbrev Gs:Stmt:=top 8
theorem GC:az ["node","value"] ["node","value"] (ao Gs):=by walk_at "s"
noncomputable def BE (CN:Addr):Sp:=fun vs H Q _=>∃ (o:Option Addr) (v to:Option Nm) (nx:Nat->Option Addr),vs=[pt o,oV to]/\cN CN H o v nx/\Made CN H to nx Q
theorem Made.after {CN:Addr}{H H1:Hp}{v:Option Nm}{nx:Nat->Option Addr}{Q:VK} (h:Made CN H v nx Q) (k:Kp H H1 []):Made CN H1 v nx Q:=fun o H' a b c d=>h o H' a b (fun x e=>k.free (c x e) (by simp)) (k.trans d)
theorem DM {f CN:Addr}{fd:FuncData} (cnode_if_needed:bU P w K mg base aT 3 "node_if_needed" ["value","branches"] (rR CN)) (cbranches_at:bU P w K mg base aT 3 "branches_at" ["node"] (sD CN)) (F:cJ K "with_value" "with_value" Gs f fd):aR P w K mg base aT 4 f fd ["node","value"] (BE CN):=by
 have sc:=GC;walk_at "f"
 ·obtain⟨_,_,_,_,rfl,_⟩:=h
  rfl
 ·obtain⟨o,v,to,nx,rfl,hp,k⟩:=h
  refine⟨_,(ak (aw (bJ cnode_if_needed hr (ai (pv 1) (ai (bJ cbranches_at hr (ai (pv 0) ae)) ae))))),?_⟩;walk_at "rd";refine⟨o,v,nx,rfl,hp,fun d kvs hd hb=>?_⟩;exact⟨to,d,kvs,nx,rfl,aa,hb,k.after ((Kp.refl H []).new hd)⟩
noncomputable abbrev GD:Stmt:=top 9
theorem Ft:az ["node","letter","behind","branches"] ["node","letter","behind"] (ao GD):=by walk_at "s"
noncomputable def Bz (CN:Addr):Sp:=fun vs H Q _=>∃ (o ob:Option Addr) (v:Option Nm) (nx:Nat->Option Addr) (c:Nat),vs=[pt o,.str (tx [c]),pt ob]/\97<=c/\c<=122/\cN CN H o v nx/\Made CN H v (fun c'=>if c'=c then ob else nx c') Q
theorem wF {β:Type}{m:List (Nm×β)} (h:(m.map (·.1)).Nodup) (n:Nm) (v:β):((dj m n v).map (·.1)).Nodup:=by
 unfold dj
 split
 ·have:(m.map fun p=>if p.1=n then (p.1,v) else p).map (·.1)=m.map (·.1):=by
   rw[List.map_map];refine List.map_congr_left fun p _=>?_;simp only[Function.comp]
   split <;> rfl
  rw[this];exact h
 ·rename_i q
  rw[List.map_append];refine nC h fun z=>q ?_;obtain⟨p,hp,e⟩:=List.mem_map.mp z;exact List.any_eq_true.mpr ⟨p,hp,decide_eq_true e⟩
theorem By {kvs:List (Nm×Addr)}{nx:Nat->Option Addr} (b:iO kvs nx) {c:Nat} (hc:97<=c/\c<=122) (a:Addr):iO (dj kvs [c] a) (fun c'=>if c'=c then some a else nx c'):=by
 refine⟨fun c'=>?_,fun p hp=>?_,?_⟩
 ·rw[di,b.to]
  by_cases e:c'=c
  ·rw[if_pos e,if_pos (by rw[e])]
  ·rw[if_neg e,if_neg (by simp[e])]
 ·unfold dj at hp
  split at hp
  ·obtain⟨q,hq,rfl⟩:=List.mem_map.mp hp
   split
   ·exact b.ab q hq
   ·exact b.ab q hq
  ·rcases List.mem_append.mp hp with z|z
   ·exact b.ab p z
   ·rw[List.mem_singleton.mp z];exact⟨c,rfl,hc⟩
 ·exact wF b.nd [c] a
theorem xS {kvs:List (Nm×Addr)}{nx:Nat->Option Addr} (b:iO kvs nx) (c:Nat):iO (cW kvs [c]) (fun c'=>if c'=c then none else nx c'):=by
 refine⟨fun c'=>?_,fun p hp=>b.ab p (List.mem_filter.mp hp).1,?_⟩
 ·rw[cZ,b.to]
  by_cases e:c'=c
  ·rw[if_pos e,if_pos (by rw[e])]
  ·rw[if_neg e,if_neg (by simp[e])]
 ·exact b.nd.sublist (List.Sublist.map _ List.filter_sublist)
theorem C1 {f CN:Addr}{fd:FuncData} (cnode_if_needed:bU P w K mg base aT 3 "node_if_needed" ["value","branches"] (rR CN)) (cbranches_at:bU P w K mg base aT 3 "branches_at" ["node"] (sD CN)) (cvalue_at:bU P w K mg base aT 3 "value_at" ["node"] (ow CN))
  (F:cJ K "with_branch" "with_branch" GD f fd):aR P w K mg base aT 4 f fd ["node","letter","behind"] (Bz CN):=by
 have sc:=Ft;walk_at "f"
 ·obtain⟨_,_,_,_,_,rfl,_⟩:=h
  rfl
 ·obtain⟨o,ob,v,nx,c,rfl,c1,c2,hp,k⟩:=h
  have hu:=d_ hr;have hs:=sizeLine_eq;refine⟨_,(af (aA (i:=3) sc.nd rfl (by walk_at "o") (bJ cbranches_at hr (ai (pv 0) ae)))
   (af (dW (eX (dN (fB (pv 2))) (ak (aZ (vj (pv 3) (pv 1) fF ⟨rfl,rfl,rfl,rfl⟩))) (ak (gF hu (pv 3) (pv 1) (pv 2) rfl))))
   (ak (aw (bJ cnode_if_needed hr (ai (bJ cvalue_at hr (ai (pv 0) ae)) (ai (pv 3) ae))))))),?_⟩
  walk_at "rd";refine⟨o,v,nx,rfl,hp,fun d kvs hd hb=>?_⟩;have hlen:=um hb;have k0:Kp H (upd H d (.dK (aM V.ref kvs))) []:=(Kp.refl H []).new hd;have k1:∀ o',Kp H (upd (upd H d (.dK (aM V.ref kvs))) d o') []:=fun o'=>k0.new hd;refine⟨fun σ' H'=>σ'=[some (pt o),some (V.str (tx [c])),some (pt ob),some (.ref d)]/\∃ kvs',H' d=some (.dK (aM V.ref kvs'))/\iO kvs' (fun c'=>if c'=c then ob else nx c')/\Kp H H' [],?_,?_⟩
  ·cases ob with
   | none =>
    rw[if_pos DX];refine⟨d,rfl,.inl ⟨_,.inl aa⟩,_,aa,.inr (tx [c]),rfl,fun v hv=>⟨rfl,cW kvs [c],?_,xS hb c,k1 _⟩,fun hv=>⟨rfl,kvs,aa,?_,k0⟩⟩
    ·rw[aa,mV]
    ·rw[cx] at hv
     have hn:nx c=none:=by
      rw[<- hb.to c]
      cases e:aq kvs [c] with
      | none=>rfl
      | some a=>rw[e] at hv;cases hv
     have e:(fun c'=>if c'=c then none else nx c')=nx:=by
      funext c'
      by_cases q:c'=c
      ·rw[if_pos q,q,hn]
      ·rw[if_neg q]
     rw[e];exact hb
   | some a =>
    rw[if_neg (DO _)];refine⟨d,rfl,_,mJ.k (k:=.inr (tx [c])) aa (by rw[ir];omega),rfl,dj kvs [c] a,?_,By hb ⟨c1,c2⟩ a,k1 _⟩;rw[aa];exact congrArg (fun l=>some (HO.dK l)) (l_ V.ref [c] a kvs)
  ·rintro σ' H' ⟨rfl,kvs',h1,h2,h3⟩
   walk_at "rd";exact⟨o,v,nx,rfl,hp.kp h3,v,d,kvs',_,rfl,h1,h2,k.after h3⟩
end
end
section
section
noncomputable abbrev EU:Stmt:=top 22
theorem Fe:az ["text"] ["text"] (ao EU):=by walk_at "s"
theorem zY:(["sign"]:List Str).Nodup:=by decide +kernel
theorem xW {α β:Type} (f:α->β) (l:List α):(l.filterMap fun c=>some (f c))=l.map f:=by
 induction l with
 | nil=>rfl
 | cons a l ih=>rw[List.filterMap_cons,List.map_cons,ih]
noncomputable def Am:Sp:=fun vs H Q _=>∃ l:List Nat,vs=[.str (tx l)]/\l.length<=1000/\∀ H',Kp H H' []->Q (.bl (isNm l)) H'
theorem Dc {f:Addr}{fd:FuncData} (B:Bl mg) (F:cJ K "is_name" "is_name" EU f fd):aR P w K mg base aT 1 f fd ["text"] Am:=by
 have sc:=Fe;have nA:=zY;walk_at "f"
 ·obtain⟨x,rfl,_⟩:=h
  rfl
 ·obtain⟨l,rfl,hx,k⟩:=h
  have hu0:=hr.cL;have hs:=sizeLine_eq;refine⟨_,(ak (aw (bg (tD K rfl) rfl B.all boot_all (ai (cI (N':=["sign"]) (ix:=[none]) rfl ?S1 (qE (pv 0)) (fun cl C fp s H=>(aI (i:=0) nA rfl (by walk_at "o"))) (fun cl C fp s H=>dZ) (fun cl C fp s H=>(uB lO lO au (pv 0) au))) ae)))),?_⟩
  case S1=>exact nL.is (N:=["text"]) (osc:=ao EU) (by decide +kernel)
  walk_at "rd";refine kR (fun c=>some (.bl (decide (97<=c/\c<=122)))) (by omega) (fun c hc R R' h1 h2=>?_) ?_
  ·refine⟨Wk.set rfl,?_⟩
   walk_at "rd";refine⟨⟨#[c]⟩,rfl,?_⟩;have ea:(Str.ofString "a").cps.toList=[97]:=by decide +kernel
   have ez:(Str.ofString "z").cps.toList=[122]:=by decide +kernel
   have l1:(([c]:List Nat)<[97])↔c<97:=by rw[List.cons_lt_cons_iff];simp
   have l2:(([122]:List Nat)<[c])↔122<c:=by rw[List.cons_lt_cons_iff];simp
   rw[ea]
   by_cases q:97<=c
   ·rw[if_pos (by simp[l1];omega)]
    refine⟨⟨#[c]⟩,rfl,?_⟩;rw[ez];have:(!decide (([122]:List Nat)<[c]))=decide (97<=c/\c<=122):=by
     rw[Bool.eq_iff_iff];simp[l2,q]
    show R (V.bl !decide (([122]:List Nat)<[c])) H;rw[this];exact h1 _ rfl
   ·rw[if_neg (by simp[l1];omega)]
    have:decide (97<=c/\c<=122)=false:=decide_eq_false (fun z=>q z.1);exact h1 _ (by rw[this])
  ·intro d hd
   refine⟨l.map fun c=>decide (97<=c/\c<=122),aP.of (by rw[aa];congr 2;rw[List.map_map];exact xW _ l),?_⟩;have e:(l.map fun c=>decide (97<=c/\c<=122)).all id=isNm l:=by
    rw[List.all_map]
    rfl
   rw[e];exact k _ ((Kp.refl H []).new hd)
noncomputable def Tree (CN:Addr) (H:Hp) (m:Mp) (g:Nm->Option Addr):Prop:=∀ b,cN CN H (g b) (aq m b) (fun c=>g (b++[c]))/\((g b).isSome=true↔vS m b)
theorem Tree.kp {CN:Addr}{H H':Hp}{m:Mp}{g:Nm->Option Addr} (T:Tree CN H m g) (k:Kp H H' []):Tree CN H' m g:=fun b=>⟨(T b).1.kp k,(T b).2⟩
noncomputable abbrev FR:Stmt:=top 24
theorem Fz:az ["root","name","along","letter"] ["root","name"] (ao FR):=by walk_at "s"
noncomputable def B1 (CN:Addr):Sp:=fun vs H Q _=>∃ (m:Mp) (g:Nm->Option Addr) (n:Nm),vs=[pt (g []),sV n]/\Tree CN H m g/\n.length<=1000/\∀ (p:Addr) H',H p=none->H' p=some (.lst ((bq n).map fun b=>pt (g b)))->Kp H H' []->Q (.ref p) H'
structure HN (CN:Addr) (H:Hp) (m:Mp) (g:Nm->Option Addr) (n:Nm) (p:Addr) (i:Nat) (σ:L2.St) (H2:Hp):Prop where
 ls:∃ o,σ=[some (pt (g [])),some (sV n),some (.ref p),o]
 at_:H2 p=some (.lst ((List.range (i+1)).map fun k=>pt (g (n.take k))))
 kp:Kp H H2 []
theorem C6 {f CN:Addr}{fd:FuncData} (cnode_behind:bU P w K mg base aT 2 "node_behind" ["node","letter"] (rh CN)) (F:cJ K "nodes_along" "nodes_along" FR f fd):aR P w K mg base aT 3 f fd ["root","name"] (B1 CN):=by
 have sc:=Fz;walk_at "f"
 ·obtain⟨_,_,_,rfl,_⟩:=h
  rfl
 ·obtain⟨m,g,n,rfl,T,hn,k⟩:=h
  have hs:=sizeLine_eq;refine⟨_,(af (aA (i:=2) sc.nd rfl (by walk_at "o") (bw (ai (pv 0) ae)))
   (af (dv PassesOwn.never rfl (qE (pv 1)) (aI (i:=3) sc.nd rfl (by walk_at "o")) (ak (aZ (eG K PySem.F.plainAttrs_list PySem.F.slot_list_append PySem.F.type_list_append bo (pv 2) (ai (bJ cnode_behind hr (ai (aE (aK K) (pv 2) (fH dJ aj) (fun _ _=>rfl)) (ai (pv 3) ae))) ae)))))
   (ak (aw (pv 2))))),?_⟩
  walk_at "rd";refine⟨by omega,fun p hp=>?_⟩;refine⟨tx n,rfl,uy (l:=n) (HN CN H m g n p) ⟨⟨none,rfl⟩,aa,(Kp.refl H []).new hp⟩ (fun i c σ H2 hi iv=>?_) (fun σ H2 iv=>?_)⟩
  ·obtain⟨⟨o,rfl⟩,ha,kp⟩:=iv
   have hin:i<n.length:=(List.getElem?_eq_some_iff.mp hi).1;walk_at "rd";have e1:((List.range (i+1)).map fun k=>pt (g (n.take k)))=((List.range i).map fun k=>pt (g (n.take k)))++[pt (g (n.take i))]:=by rw[List.range_succ,List.map_append];rfl
   have e2:n.take (i+1)=n.take i++[c]:=by rw[List.take_add_one,hi];rfl
   refine⟨.inl ⟨rfl,_,aP.of ha⟩,_,aP.of ha,pt (g (n.take i)),by rw[e1];exact jv _ _,g (n.take i),_,_,c,rfl,(T (n.take i)).1.kp kp,_,ha,by rw[List.length_map,List.length_range];omega,⟨_,rfl⟩,?_,fun b o hb _=>?_⟩
   ·rw[aa,List.range_succ (n:=i+1),List.map_append,<- e2]
    rfl
   ·rw[ah (ag hb hp)]
    exact kp b o hb (by simp)
  ·obtain⟨⟨o,rfl⟩,ha,kp⟩:=iv
   walk_at "rd";exact k p H2 hp (by rw[ha];unfold bq;rw[List.map_map];rfl) kp
noncomputable def G (n:Nm) (g u:Nm->Option Addr):Nm->Option Addr:=fun b=>if b.isPrefixOf n=true then u b else g b
theorem jt {n b:Nm}{g u:Nm->Option Addr} (h:b <+: n):G n g u b=u b:=if_pos (List.isPrefixOf_iff_prefix.mpr h)
theorem km {n b:Nm}{g u:Nm->Option Addr} (h:¬ b <+: n):G n g u b=g b:=if_neg fun z=>h (List.isPrefixOf_iff_prefix.mp z)
structure ED (n:Nm) (H:Hp) (g g':Nm->Option Addr):Prop where
 old:∀ b,¬ b <+: n->g' b=g b
 new:∀ b a,b <+: n->g' b=some a->H a=none
 inj:∀ b b' a,b <+: n->b' <+: n->g' b=some a->g' b'=some a->b=b'
structure zf (CN:Addr) (H:Hp) (m:Mp) (g:Nm->Option Addr) (n:Nm) (to:Option Nm) (q:Nat) (u:Nm->Option Addr) (H2:Hp):Prop where
 ok:∀ b,b <+: n->q<=b.length->cN CN H2 (G n g u b) (aq (bP m n to) b) (fun c=>G n g u (b++[c]))/\((G n g u b).isSome=true↔vS (bP m n to) b)
 new:∀ b a,b <+: n->q<=b.length->u b=some a->H a=none/\(H2 a).isSome=true
 inj:∀ b b' a,b <+: n->b' <+: n->q<=b.length->q<=b'.length->u b=some a->u b'=some a->b=b'
 kp:Kp H H2 []
theorem pre_take {n b:Nm} (h:b <+: n):b=n.take b.length:=List.prefix_iff_eq_take.mp h
theorem jN {CN:Addr}{H:Hp}{a:Addr}{v:Option Nm}{nx:Nat->Option Addr} (h:cN CN H (some a) v nx):(H a).isSome=true:=by
 obtain⟨_,_,_,h,_⟩:=h;rw[h];rfl
theorem uA {CN:Addr}{H H':Hp}{m:Mp}{g:Nm->Option Addr}{n:Nm}{to:Option Nm} (T:Tree CN H m g) {o:Option Addr} (h1:cN CN H' o to fun c=>g (n++[c])) (h2:o.isSome=true↔to.isSome=true\/∃ c,(g (n++[c])).isSome=true) (h3:∀ a,o=some a->H a=none) (kp:Kp H H' []) :
  zf CN H m g n to n.length (fun _=>o) H':=by
 have whole:∀ b,b <+: n->n.length<=b.length->b=n:=fun b hb hl=>hb.eq_of_length_le hl;have far:∀ c,¬ n++[c] <+: n:=fun c z=>by have:=z.length_le;rw[List.length_append] at this;simp only[List.length_singleton] at this;omega
 have e:(fun c=>G n g (fun _=>o) (n++[c]))=fun c=>g (n++[c]):=funext fun c=>km (far c);refine⟨fun b hb hl=>?_,fun b a hb hl e=>⟨h3 a e,?_⟩,fun b b' a hb hb' hl hl' _ _=>(whole b hb hl).trans (whole b' hb' hl').symm,kp⟩
 ·obtain rfl:=whole b hb hl
  rw[jt (List.prefix_refl _),bX,if_pos rfl,e];refine⟨h1,h2.trans ?_⟩;rw[nR,bX,if_pos rfl];refine or_congr Iff.rfl (exists_congr fun c=>?_);rw[lV (far c)];exact (T _).2
 ·have e:o=some a:=e
  rw[e] at h1;exact jN h1
theorem xI {CN:Addr}{H H2 H3:Hp}{m:Mp}{g u:Nm->Option Addr}{n:Nm}{to:Option Nm}{q:Nat}{c:Nat} (T:Tree CN H m g) (hc:n[q]?=some c) (R:zf CN H m g n to (q+1) u H2) {o:Option Addr}
  (h1:cN CN H3 o (aq m (n.take q)) fun c'=>if c'=c then u (n.take (q+1)) else g (n.take q++[c'])) (h2:o.isSome=true↔(aq m (n.take q)).isSome=true\/∃ c',(if c'=c then u (n.take (q+1)) else g (n.take q++[c'])).isSome=true)
  (h3:∀ a,o=some a->H2 a=none) (kp:Kp H2 H3 []):zf CN H m g n to q (fun b=>if b=n.take q then o else u b) H3:=by
 have hq:q<n.length:=(List.getElem?_eq_some_iff.mp hc).1;have tl:(n.take q).length=q:=by rw[List.length_take];omega
 have e1:n.take (q+1)=n.take q++[c]:=by rw[List.take_add_one,hc];rfl
 have pq:n.take q <+: n:=List.take_prefix _ _;have long:∀ b:Nm,q+1<=b.length->¬ b=n.take q:=fun b h e=>by rw[e,tl] at h;omega
 have letter:∀ c',n.take q++[c'] <+: n↔c'=c:=fun c'=>by
  constructor
  ·intro z
   have:=pre_take z;rw[List.length_append,tl] at this;have this:n.take q++[c']=n.take q++[c]:=this.trans e1
   simpa using this
  ·rintro rfl;rw[<- e1];exact List.take_prefix _ _
 have Gl:∀ b,b <+: n->q+1<=b.length->G n g (fun b=>if b=n.take q then o else u b) b=G n g u b:=fun b hb hl=>by
  rw[jt hb,jt hb,if_neg (long b hl)]
 have Gx:∀ b c',b <+: n->q<=b.length->G n g (fun b=>if b=n.take q then o else u b) (b++[c'])=G n g u (b++[c']):=fun b c' hb hl=>by
  by_cases z:b++[c'] <+: n
  ·exact Gl _ z (by rw[List.length_append];show q+1<=b.length+1;omega)
  ·rw[km z,km z]
 have ex:(fun c'=>if c'=c then u (n.take (q+1)) else g (n.take q++[c']))=fun c'=>G n g (fun b=>if b=n.take q then o else u b) (n.take q++[c']):=funext fun c'=>by
  rw[Gx _ c' pq (by omega)]
  by_cases z:c'=c
  ·rw[if_pos z,jt ((letter c').mpr z),z,e1]
  ·rw[if_neg z,km fun y=>z ((letter c').mp y)]
 have nn:¬ n.take q=n:=fun z=>by have:=congrArg List.length z;omega
 refine⟨fun b hb hl=>?_,fun b a hb hl e=>?_,fun b b' a hb hb' hl hl' e e'=>?_,R.kp.trans kp⟩
 ·by_cases z:b=n.take q
  ·subst z
   rw[jt pq,if_pos rfl,bX,if_neg nn,<- ex];refine⟨h1,h2.trans ?_⟩;rw[nR,bX,if_neg nn];refine or_congr Iff.rfl (exists_congr fun c'=>?_)
   by_cases y:c'=c
   ·rw[if_pos y,y,<- e1]
    have pre:n.take (q+1) <+: n:=List.take_prefix _ _;have:=(R.ok (n.take (q+1)) pre (by rw[List.length_take];omega)).2
    rwa [jt pre] at this
   ·rw[if_neg y,lV fun x=>y ((letter c').mp x)]
    exact (T _).2
  ·have hl':q+1<=b.length:=by
    rcases Nat.lt_or_ge q b.length with y|y
    ·exact y
    ·have:b.length=q:=by omega
     exact absurd (by rw[pre_take hb,this]) z
   obtain⟨r1,r2⟩:=R.ok b hb hl';rw[Gl b hb hl'];have e:(fun c'=>G n g (fun b=>if b=n.take q then o else u b) (b++[c']))=fun c'=>G n g u (b++[c']):=funext fun c'=>Gx b c' hb hl;rw[e];exact⟨r1.kp kp,r2⟩
 ·by_cases z:b=n.take q
  ·have e:o=some a:=by rw[<- e];exact (if_pos z).symm
   refine⟨R.kp.free (h3 a e) (by simp),?_⟩;rw[e] at h1;exact jN h1
  ·have hl':q+1<=b.length:=by
    rcases Nat.lt_or_ge q b.length with y|y
    ·exact y
    ·have:b.length=q:=by omega
     exact absurd (by rw[pre_take hb,this]) z
   have e:u b=some a:=by rw[<- e];exact (if_neg z).symm
   obtain⟨r1,r2⟩:=R.new b a hb hl' e;obtain⟨o',ho'⟩:=Option.isSome_iff_exists.mp r2;exact⟨r1,by rw[kp a o' ho' (by simp)];rfl⟩
 ·have up:∀ b,b <+: n->q<=b.length->¬ b=n.take q->q+1<=b.length:=fun b hb hl z=>by
   rcases Nat.lt_or_ge q b.length with y|y
   ·exact y
   ·have:b.length=q:=by omega
    exact absurd (by rw[pre_take hb,this]) z
  have clash:∀ b a,b <+: n->q+1<=b.length->u b=some a->o=some a->False:=fun b a hb hl e e'=>by
   have:=(R.new b a hb hl e).2;rw[h3 a e'] at this
   cases this
  by_cases z:b=n.take q
  ·by_cases z':b'=n.take q
   ·rw[z,z']
   ·have e:o=some a:=by rw[<- e];exact (if_pos z).symm
    have e':u b'=some a:=by rw[<- e'];exact (if_neg z').symm
    exact (clash b' a hb' (up b' hb' hl' z') e' e).elim
  ·have e:u b=some a:=by rw[<- e];exact (if_neg z).symm
   by_cases z':b'=n.take q
   ·have e':o=some a:=by rw[<- e'];exact (if_pos z').symm
    exact (clash b a hb (up b hb hl z) e e').elim
   ·have e':u b'=some a:=by rw[<- e'];exact (if_neg z').symm
    exact R.inj b b' a hb hb' (up b hb hl z) (up b' hb' hl' z') e e'
theorem zr {CN:Addr}{H H2:Hp}{m:Mp}{g u:Nm->Option Addr}{n:Nm}{to:Option Nm} (T:Tree CN H m g) (R:zf CN H m g n to 0 u H2):Tree CN H2 (bP m n to) (G n g u)/\ED n H g (G n g u):=by
 refine⟨fun b=>?_,fun b hb=>km hb,fun b a hb e=>?_,fun b b' a hb hb' e e'=>?_⟩
 ·by_cases hb:b <+: n
  ·exact R.ok b hb (Nat.zero_le _)
  ·have far:∀ c,¬ b++[c] <+: n:=fun c z=>hb ((List.prefix_append b [c]).trans z)
   have e:(fun c=>G n g u (b++[c]))=fun c=>g (b++[c]):=funext fun c=>km (far c);rw[km hb,e,bX,if_neg (fun z:b=n=>hb (z ▸ List.prefix_refl _)),lV hb];exact⟨(T b).1.kp R.kp,(T b).2⟩
 ·rw[jt hb] at e
  exact (R.new b a hb (Nat.zero_le _) e).1
 ·rw[jt hb] at e
  rw[jt hb'] at e';exact R.inj b b' a hb hb' (Nat.zero_le _) (Nat.zero_le _) e e'
noncomputable abbrev yw:Stmt:=top 26
noncomputable abbrev Dm:List Str:=["along","name","value","made","place"]
theorem C2:az Dm ["along","name","value"] (ao yw):=by walk_at "s"
theorem xo:(["node"]:List Str).Nodup:=by decide +kernel
noncomputable def uX (CN:Addr):Sp:=fun vs H Q _=>∃ (al:Addr) (m:Mp) (g:Nm->Option Addr) (n:Nm) (to:Option Nm),vs=[.ref al,sV n,oV to]/\H al=some (.lst ((bq n).map fun b=>pt (g b)))/\Tree CN H m g/\isNm n=true/\n.length<=1000 /\
 ∀ (p:Addr) (g':Nm->Option Addr) H',H' p=some (.tup [pt (g' []),nV ((bq n).filter fun b=>kz (bP m n to) b).length])->Tree CN H' (bP m n to) g'->ED n H g g'->Kp H H' []->Q (.ref p) H'
noncomputable def cH (n:Nm) (u:Nm->Option Addr) (i:Nat):List V:=(List.range (i+1)).map fun j=>pt (u (n.take (n.length - j)))
structure Hu (CN:Addr) (H:Hp) (m:Mp) (g:Nm->Option Addr) (n:Nm) (to:Option Nm) (al p:Addr) (i:Nat) (σ:L2.St) (H2:Hp):Prop where
 ls:∃ o,σ=[some (.ref al),some (sV n),some (oV to),some (.ref p),o]
 hp:H p=none
 rb:∃ u,zf CN H m g n to (n.length - i) u H2/\H2 p=some (.lst (cH n u i))
theorem cN.put {CN:Addr}{H:Hp}{o:Option Addr}{v:Option Nm}{nx:Nat->Option Addr} (x:cN CN H o v nx) {p:Addr}{xs:List V} (hp:H p=some (.lst xs)) (o':HO):cN CN (upd H p o') o v nx:=by
 cases o with
 | none=>exact x
 | some a =>
  obtain⟨dx,d,kvs,h1,h2,h3⟩:=x;exact⟨dx,d,kvs,by rw[ah (bV h1 hp (by intro z;cases z))];exact h1,by rw[ah (bV h2 hp (by intro z;cases z))];exact h2,h3⟩
theorem zf.put {CN:Addr}{H H2:Hp}{m:Mp}{g u:Nm->Option Addr}{n:Nm}{to:Option Nm}{q:Nat} (R:zf CN H m g n to q u H2) {p:Addr}{xs ys:List V} (hp:H2 p=some (.lst xs)) (h0:H p=none):zf CN H m g n to q u (upd H2 p (.lst ys)):=by
 refine⟨fun b hb hl=>⟨(R.ok b hb hl).1.put hp _,(R.ok b hb hl).2⟩,fun b a hb hl e=>⟨(R.new b a hb hl e).1,?_⟩,R.inj,R.kp.new h0⟩
 by_cases z:a=p
 ·rw[z,aa];rfl
 ·rw[ah z];exact (R.new b a hb hl e).2
theorem kL (n:Nm) (g:Nm->Option Addr):kU ((bq n).map fun b=>pt (g b)) (-1)=some (pt (g n)):=by
 have e:(bq n).map (fun b=>pt (g b))=((List.range n.length).map fun k=>pt (g (n.take k)))++[pt (g n)]:=by
  unfold bq;rw[List.range_succ,List.map_append,List.map_append,List.map_map];simp[Function.comp_def]
 rw[e];exact jv _ _
theorem yg (n:Nm) (g:Nm->Option Addr) {q:Nat} (h:q<=n.length):kU ((bq n).map fun b=>pt (g b)) (q:Int)=some (pt (g (n.take q))):=by
 refine bS ?_;unfold bq;rw[List.map_map,List.getElem?_map,List.getElem?_range (by omega)]
 rfl
theorem kT (n:Nm) (u:Nm->Option Addr) (i:Nat):kU (cH n u i) (-1)=some (pt (u (n.take (n.length - i)))):=by
 unfold cH;rw[List.range_succ,List.map_append];exact jv _ _
theorem tE (n:Nm) (u:Nm->Option Addr) (o:Option Addr) {i:Nat} (h:i<n.length):cH n (fun b=>if b=n.take (n.length - 1 - i) then o else u b) (i+1)=cH n u i++[pt o]:=by
 unfold cH;rw[List.range_succ (n:=i+1),List.map_append];have e:n.length - (i+1)=n.length - 1 - i:=by omega
 congr 1
 ·refine List.map_congr_left fun j hj=>?_
  have hj:=List.mem_range.mp hj;have ne:¬ n.take (n.length - j)=n.take (n.length - 1 - i):=fun z=>by
   have:=congrArg List.length z;rw[List.length_take,List.length_take] at this;omega
  exact congrArg pt (if_neg ne)
 ·rw[List.map_singleton,e]
  exact congrArg (fun x=>[pt x]) (if_pos rfl)
theorem uv (n:Nm):((List.range (n.length+1)).map fun j=>n.take (n.length - j))=(bq n).reverse:=by
 unfold bq;rw[<- List.map_reverse];refine List.ext_getElem (by simp) fun i h1 h2=>?_;simp at h1 h2 ⊢
theorem qi {n:Nm}{u:Nm->Option Addr}{M:Mp} (h:∀ b,b <+: n->((u b).isSome=true↔vS M b)):((cH n u n.length).filter fun v=>decide (v≠.non)).length=((bq n).filter fun b=>kz M b).length:=by
 have e:cH n u n.length=((bq n).reverse).map fun b=>pt (u b):=by rw[<- uv,List.map_map];rfl
 rw[e,List.filter_map,List.length_map,List.filter_reverse,List.length_reverse];congr 1;refine List.filter_congr fun b hb=>?_;simp only[Function.comp];have q:=(h b (cn.mp hb)).trans (oi M b).symm;rw[Bool.eq_iff_iff,decide_eq_true_eq,<- q];generalize u b=o
 cases o with
 | none=>simp[pt]
 | some a=>simp[pt]
theorem AU {f CN:Addr}{fd:FuncData} (B:Bl mg) (cwith_value:bU P w K mg base aT 5 "with_value" ["node","value"] (BE CN)) (cwith_branch:bU P w K mg base aT 5 "with_branch" ["node","letter","behind"] (Bz CN))
  (F:cJ K "rebuilt" "rebuilt" yw f fd):aR P w K mg base aT 6 f fd ["along","name","value"] (uX CN):=by
 have sc:=C2;walk_at "f"
 ·obtain⟨_,_,_,_,_,rfl,_⟩:=h
  rfl
 ·obtain⟨al,m,g,n,to,rfl,hal,T,hnm,hn,k⟩:=h
  have hs:=sizeLine_eq;refine⟨_,(af (aA (i:=3) sc.nd rfl (by walk_at "o") (bw (ai (bJ cwith_value hr (ai (aE (aK K) (pv 0) (fH dJ aj) (fun _ _=>rfl)) (ai (pv 2) ae))) ae)))
   (af (dv PassesOwn.never rfl (sW rfl B.rng (ai (aC ff (bg (aX K) rfl B.len boot_len (ai (pv 1) ae)) aj) (ai (fH dJ aj) (ai (fH dJ aj) ae)))) (aI (i:=4) sc.nd rfl (by walk_at "o")) (ak (aZ (eG K PySem.F.plainAttrs_list PySem.F.slot_list_append PySem.F.type_list_append bo (pv 3) (ai (bJ cwith_branch hr (ai (aE (aK K) (pv 0) (pv 4) (fun _ _=>rfl)) (ai (aE qC (pv 1) (pv 4) (fun _ _=>rfl)) (ai (aE (aK K) (pv 3) (fH dJ aj) (fun _ _=>rfl)) ae)))) ae)))))
   (ak (aw (cm (ai (aE (aK K) (pv 3) (fH dJ aj) (fun _ _=>rfl)) (ai (bg (aX K) rfl B.len boot_len (ai (cI (N':=["node"]) (ix:=[none]) rfl ?S1 (bI K (pv 3)) (fun cl C fp s H=>(aI (i:=0) xo rfl (by walk_at "o"))) (fun cl C fp s H=>(eY (dN (qW (pv 0))))) (fun cl C fp s H=>(pv 0))) ae)) ae))))))),?_⟩
  case S1=>exact nL.is (N:=Dm) (osc:=ao yw) (by decide +kernel)
  walk_at "rd";refine⟨_,aP.of hal,_,kL n g,g n,aq m n,to,_,rfl,(T n).1,fun o H1 h1 h2 h3 kp=>⟨by omega,fun p hp=>?_⟩⟩;have hp0:H p=none:=kp.free hp (by simp);have tl:(tx n).length=n.length:=by simp[Str.length]
  refine⟨n.length,⟨by omega,tl.symm⟩,_,_,⟨rfl,rfl⟩,⟨by omega,by omega,by omega,by omega⟩,?_⟩;have e0:((n.length:Int) - 1 - -1).toNat=n.length:=by omega
  rw[e0];have R0:=(uA (to:=to) T h1 h2 h3 kp);refine uc (Hu CN H m g n to al p) ⟨⟨none,rfl⟩,hp0,fun _=>o,⟨fun b hb hl=>⟨(R0.ok b hb (by omega)).1.kp ((Kp.refl H1 []).new hp),(R0.ok b hb (by omega)).2⟩,fun b a hb hl e=>⟨(R0.new b a hb (by omega) e).1,?_⟩,fun b b' a hb hb' hl hl' e e'=>R0.inj b b' a hb hb' (by omega) (by omega) e e',R0.kp.new hp0⟩,?_⟩ (fun i σ H2 hi iv=>?_) (fun σ H2 iv=>?_)
  ·have:=(R0.new b a hb (by omega) e).2
   obtain⟨o',ho'⟩:=Option.isSome_iff_exists.mp this;rw[ah (ag ho' hp),ho'];rfl
  ·rw[aa];unfold cH;simp
  ·obtain⟨⟨o',rfl⟩,_,u,R,hm⟩:=iv
   walk_at "rd";obtain⟨c,hc⟩:∃ c,n[n.length - 1 - i]?=some c:=⟨n[n.length - 1 - i]'(by omega),by simp[show n.length - 1 - i<n.length by omega]⟩;have hci:=of_decide_eq_true (List.all_eq_true.mp hnm c (List.mem_of_getElem? hc));have eq:(n.length:Int) - 1 - (i:Int)=((n.length - 1 - i:Nat):Int):=by omega
   have e1:n.length - i=n.length - 1 - i+1:=by omega
   rw[eq];have hal2:=R.kp al _ hal (by simp);rw[e1] at R;refine⟨.inl ⟨rfl,_,aP.of hm⟩,_,aP.of hal2,_,yg n g (by omega),tx n,rfl,by omega,c,?_,_,aP.of hm,_,kT n u i,g (n.take (n.length - 1 - i)),u (n.take (n.length - i)),aq m (n.take (n.length - 1 - i)),_,c,rfl,hci.1,hci.2,(T _).1.kp R.kp,fun ob H3 q1 q2 q3 kp3=>?_⟩
   ·rw[fg];exact bS hc
   ·have hm3:=kp3 p _ hm (by simp)
    have ml:(cH n u i).length=i+1:=by unfold cH;rw[List.length_map,List.length_range]
    refine⟨_,hm3,by omega,⟨_,rfl⟩,hp0,fun b=>if b=n.take (n.length - 1 - i) then ob else u b,?_,?_⟩
    ·rw[e1] at q1 q2
     have:=(xI T hc R q1 q2 q3 kp3).put hm3 (ys:=cH n u i++[pt ob]) hp0;have e2:n.length - (i+1)=n.length - 1 - i:=by omega
     rw[e2];exact this
    ·rw[aa,tE n u ob hi]
  ·obtain⟨⟨o',rfl⟩,_,u,R,hm⟩:=iv
   walk_at "rd";rw[Nat.sub_self] at R;obtain⟨T',N'⟩:=zr T R;have ml:(cH n u n.length).length=n.length+1:=by unfold cH;rw[List.length_map,List.length_range]
   refine⟨_,aP.of hm,_,kT n u n.length,⟨_,aP.of hm⟩,eU (xs:=cH n u n.length) (fun v=>if v=.non then none else some v) (aP.of hm) (by omega) (fun x hx Ra Rb r1 r2=>?_) ?_⟩
   ·refine⟨Wk.set rfl,?_⟩
    walk_at "rd"
    by_cases z:x=.non
    ·rw[if_neg (by simp[z])]
     exact r2 (if_pos z)
    ·rw[if_pos (by simp[z])]
     exact r1 _ (if_neg z)
   ·intro d hd
    have hd0:H d=none:=R.kp.free hd (by simp);have fm:(cH n u n.length).filterMap (fun v=>if v=.non then none else some v)=(cH n u n.length).filter fun v=>decide (v≠.non):=by
     generalize cH n u n.length=l
     induction l with
     | nil=>rfl
     | cons v l ih =>
      rw[List.filterMap_cons,List.filter_cons]
      by_cases z:v=.non
      ·simp only[if_pos z,ih];simp[z]
      ·simp only[if_neg z,ih];simp[z]
    rw[fm];refine⟨_,.inl ⟨_,aP.of aa,rfl⟩,by omega,fun p1 hp1=>?_⟩;have k1:Kp H2 (upd H2 d (.lst ((cH n u n.length).filter fun v=>decide (v≠.non)))) []:=(Kp.refl H2 []).new hd;have hp2:H2 p1=none:=k1.free hp1 (by simp);have k2:Kp H2 (upd (upd H2 d (.lst ((cH n u n.length).filter fun v=>decide (v≠.non)))) p1 (HO.tup [pt (u (List.take (List.length n - List.length n) n)),V.int ((cH n u n.length).filter fun v=>decide (v≠.non)).length])) []:=k1.new hp2;have cnt:=qi (n:=n) (u:=u) (M:=bP m n to) fun b hb=>by
     have:=(T' b).2
     rwa [jt hb] at this
    refine k p1 (G n g u) _ ?_ (T'.kp k2) N' (R.kp.trans k2);rw[aa,cnt];have e0:List.take (List.length n - List.length n) n=[]:=by simp
    rw[e0,jt (List.nil_prefix)]
    rfl
end
end
section
section
variable {B0 newId initId:String}{bmB:List Value}
noncomputable abbrev Ai:Stmt:=top 23
theorem Eo:az ["text"] ["text"] (ao Ai):=by walk_at "s"
noncomputable def uM (CNN:Addr):Sp:=fun vs H Q E=>∃ l:List Nat,vs=[.str (tx l)]/\l.length<=1000/\(∀ c∈l,c<128)/\∀ H',Kp H H' []->(isNm l=true->Q .non H')/\(isNm l=false->E (.ref CNN) none H')
theorem B4 {f CNN:Addr}{fd:FuncData} (O_NoName:OwnCls "NoName" CNN bmB newId mg base) (FB:ExcBaseFacts B0 newId initId bmB) (cis_name:bU P w K mg base aT 1 "is_name" ["text"] Am) (F:cJ K "refuse_no_name" "refuse_no_name" Ai f fd) :
  aR P w K mg base (fz P w) 2 f fd ["text"] (uM CNN):=by
 have sc:=Eo;refine F.AB sc (fun vs H Q E h=>?_) (fun cdv A outer s H vs Q E hr h=>?_)
 ·obtain⟨x,rfl,_⟩:=h
  rfl
 ·obtain⟨l,rfl,hx,h128,k⟩:=h
  refine⟨_,(ak (eX (eA (cF (bJ cis_name hr (ai (pv 0) ae)))) (ak (oH O_NoName FB rfl ly (ai (qP 0 (pv 0)) ae))) aJ)),?_⟩;walk_at "rd";have tl:(tx l).length=l.length:=by simp[Str.length]
  have hs:=sizeLine_eq;refine⟨l,rfl,hx,fun H1 k1=>⟨_,rfl,?_⟩⟩
  cases e:isNm l with
  | true=>exact (k H1 k1).1 e
  | false=>exact⟨by omega,fun c hc=>Nat.lt_of_lt_of_le (h128 c hc) (by decide),fun _=>⟨by omega,(k H1 k1).2 e⟩⟩
noncomputable def vP (m:Mp) (n:Nm) (to:Option Nm):Mp:=if aq m n=to then m else bP m n to
theorem om (m:Mp) (nd:Nd) (st:Nat) (n:Nm) (to:Option Nm):(bu m nd st n to).m=vP m n to:=by
 unfold vP bu
 split <;> rfl
structure EY (CN:Addr) (H H':Hp) (m:Mp) (g:Nm->Option Addr) (n:Nm) (to:Option Nm) (g':Nm->Option Addr) (k:Nat):Prop where
 made:∀ nd st,(bu m nd st n to).made=k
 tree:Tree CN H' (vP m n to) g'
 new:(aq m n=to/\g'=g)\/(aq m n≠to/\ED n H g g')
noncomputable abbrev AX:Stmt:=top 25
theorem Ec:az ["root","name","value","along"] ["root","name","value"] (ao AX):=by walk_at "s"
noncomputable def su (CN CNN:Addr):Sp:=fun vs H Q E=>∃ (m:Mp) (g:Nm->Option Addr) (n:Nm) (to:Option Nm),vs=[pt (g []),sV n,oV to]/\Tree CN H m g/\n.length<=1000/\(∀ c∈n,c<128)/\(isNm n=false->∀ H',Kp H H' []->E (.ref CNN) none H') /\
 (isNm n=true->∀ (p:Addr) (g':Nm->Option Addr) (k:Nat) H',H' p=some (.tup [pt (g' []),nV k])->EY CN H H' m g n to g' k->Kp H H' []->Q (.ref p) H')
theorem Cd {f CN CNN:Addr}{fd:FuncData} (crefuse_no_name:bU P w K mg base (fz P w) 7 "refuse_no_name" ["text"] (uM CNN)) (cnodes_along:bU P w K mg base aT 7 "nodes_along" ["root","name"] (B1 CN)) (cvalue_at:bU P w K mg base aT 7 "value_at" ["node"] (ow CN))
  (crebuilt:bU P w K mg base aT 7 "rebuilt" ["along","name","value"] (uX CN)) (F:cJ K "changed" "changed" AX f fd):aR P w K mg base (fz P w) 8 f fd ["root","name","value"] (su CN CNN):=by
 have sc:=Ec;refine F.AB sc (fun vs H Q E h=>?_) (fun cdv A outer s H vs Q E hr h=>?_)
 ·obtain⟨_,_,_,_,rfl,_⟩:=h
  rfl
 ·obtain⟨m,g,n,to,rfl,T,hn,h128,kb,kg⟩:=h
  have hs:=sizeLine_eq;refine⟨_,(af (aZ (wK crefuse_no_name hr cf (ai (pv 1) ae)))
   (af (aA (i:=3) sc.nd rfl (by walk_at "o") (bJ cnodes_along hr (ai (pv 0) (ai (pv 1) ae))))
   (af (eX (aG dg (bJ cvalue_at hr (ai (aE (aK K) (pv 3) (fH dJ aj) (fun _ _=>rfl)) ae)) (pv 2) (aH _)) (ak (aw (cm (ai (pv 0) (ai aj ae))))) aJ)
   (ak (aw (bJ crebuilt hr (ai (pv 3) (ai (pv 1) (ai (pv 2) ae))))))))),?_⟩
  walk_at "rd";refine⟨n,rfl,hn,h128,fun H1 k1=>⟨fun e=>?_,fun e=>kb e H1 k1⟩⟩;have T1:=T.kp k1;refine⟨m,g,n,rfl,T1,hn,fun p H2 hp hl k2=>?_⟩;have T2:=T1.kp k2;walk_at "rd";refine⟨_,aP.of hl,_,kL n g,g n,aq m n,_,rfl,(T2 n).1,gw _ _,?_⟩
  by_cases q:aq m n=to
  ·rw[if_pos (decide_eq_true (dQ.mpr q))]
   refine⟨by omega,fun p' hp'=>?_⟩;have k3:Kp H2 (upd H2 p' (HO.tup [pt (g []),V.int 0])) []:=(Kp.refl H2 []).new hp';refine kg e p' g 0 _ aa ⟨fun nd st=>by rw[iA q],?_,.inl ⟨q,rfl⟩⟩ ((k1.trans k2).trans k3);have:vP m n to=m:=if_pos q;rw[this];exact T2.kp k3
  ·rw[if_neg (fun z=>q (dQ.mp (of_decide_eq_true z)))]
   refine⟨p,m,g,n,to,rfl,hl,T2,e,hn,fun p' g' H' h1 h2 h3 h4=>?_⟩;have k5:=(k1.trans k2).trans h4;refine kg e p' g' _ H' h1 ⟨fun nd st=>(pP q nd st).1,?_,.inr ⟨q,h3.old,fun b a hb ha=>(k1.trans k2).free (h3.new b a hb ha) (by simp),h3.inj⟩⟩ k5;have:vP m n to=bP m n to:=if_neg q;rw[this];exact h2
end
end
section
section
noncomputable def ui (t b o w:V):List (Str×V):=cj "two" w (cj "one" o (cj "base" b (cj "text" t [])))
theorem kX:¬ (("text":Str)="two")/\¬ (("text":Str)="one")/\¬ (("text":Str)="base")/\¬ (("base":Str)="two")/\¬ (("base":Str)="one")/\¬ (("one":Str)="two"):=by decide +kernel
theorem oS (t b o w:V):(ui t b o w).lookup ("text":Str)=some t:=by
 unfold ui;rw[aB,if_neg kX.1,aB,if_neg kX.2.1,aB,if_neg kX.2.2.1,aB,if_pos rfl]
theorem jH (t b o w:V):(ui t b o w).lookup ("base":Str)=some b:=by
 unfold ui;rw[aB,if_neg kX.2.2.2.1,aB,if_neg kX.2.2.2.2.1,aB,if_pos rfl]
theorem jg (t b o w:V):(ui t b o w).lookup ("one":Str)=some o:=by
 unfold ui;rw[aB,if_neg kX.2.2.2.2.2,aB,if_pos rfl]
theorem gH (t b o w:V):(ui t b o w).lookup ("two":Str)=some w:=by
 unfold ui;rw[aB,if_pos rfl]
theorem jm (t b o w:V) {m:Str} (h1:¬ m="two") (h2:¬ m="one") (h3:¬ m="base") (h4:¬ m="text"):(ui t b o w).lookup m=none:=by
 unfold ui;rw[aB,if_neg h1,aB,if_neg h2,aB,if_neg h3,aB,if_neg h4]
 rfl
theorem rm (f g:Str) (x y:V):(cj f x (cj g y [])).length<1000:=by
 have h1:=cu f x (cj g y []);have h2:=cu g y [];have h3:([]:List (Str×V)).length=0:=rfl;omega
theorem xB (f g h:Str) (x y z:V):(cj f x (cj g y (cj h z []))).length<1000:=by
 have h0:=cu f x (cj g y (cj h z []));have h1:=cu g y (cj h z []);have h2:=cu h z [];have h3:([]:List (Str×V)).length=0:=rfl;omega
structure Cz (K:PySem.W.Frag) (CP:Addr):Prop where
 cl:pH K CP
 nt:bp K CP "text"
 nb:bp K CP "base"
 no:bp K CP "one"
 nw:bp K CP "two"
noncomputable abbrev Ab:Stmt:=(inClass (top 11) 0)
noncomputable abbrev sQ:List Str:=["self","text","base","one","two"]
theorem CW:az sQ sQ (ao Ab):=by walk_at "s"
noncomputable def rP (CP:Addr):Sp:=fun vs H Q _=>∃ (x dx:Addr) (t b o w:V),vs=[.ref x,t,b,o,w]/\H x=some (.ins CP dx [])/\∀ H',H' x=some (.ins CP dx (ui t b o w))->(∀ b,b≠x->H' b=H b)->Q .non H'
theorem AV {f CP:Addr}{fd:FuncData} (T:Cz K CP) (F:cJ K "__init__" "Place.__init__" Ab f fd):aR P w K mg base aT 1 f fd sQ (rP CP):=by
 have sc:=CW;walk_at "f"
 ·obtain⟨_,_,_,_,_,_,rfl,_⟩:=h
  rfl
 ·obtain⟨x,dx,t,b,o,w,rfl,hx,k⟩:=h
  refine⟨_,(af (dS (pv 0) (pv 1) rfl)
   (af (dS (pv 0) (pv 2) rfl)
   (af (dS (pv 0) (pv 3) rfl)
   (ak (dS (pv 0) (pv 4) rfl))))),?_⟩
  walk_at "rd";refine⟨CP,dx,[],hx,T.cl,T.nt,by decide,CP,dx,_,aa,T.cl,T.nb,(by show 1<1000;decide),CP,dx,_,aa,T.cl,T.no,rm _ _ _ _,CP,dx,_,aa,T.cl,T.nw,xB _ _ _ _ _ _,?_⟩;exact k _ aa fun b hb=>by rw[ah hb,ah hb,ah hb,ah hb]
structure ux (CN:Addr) (H:Hp) (mb mo mt:Mp) (gB gO gT:Nm->Option Addr):Prop where
 b:Tree CN H mb gB
 o:Tree CN H mo gO
 t:Tree CN H mt gT
theorem ux.kp {CN:Addr}{H H':Hp}{mb mo mt:Mp}{gB gO gT:Nm->Option Addr} (T:ux CN H mb mo mt gB gO gT) (k:Kp H H' []):ux CN H' mb mo mt gB gO gT:=⟨T.b.kp k,T.o.kp k,T.t.kp k⟩
noncomputable def eF (CP:Addr) (H:Hp) (p:Addr) (gB gO gT:Nm->Option Addr) (b:Nm):Prop:=∃ dx,H p=some (.ins CP dx (ui (sV b) (pt (gB b)) (pt (gO b)) (pt (gT b))))
theorem eF.kp {CP:Addr}{H H':Hp}{p:Addr}{gB gO gT:Nm->Option Addr}{b:Nm} (h:eF CP H p gB gO gT b) (k:Kp H H' []):eF CP H' p gB gO gT b:=let ⟨dx,h⟩:=h;⟨dx,k _ _ h (by simp)⟩
theorem vf {a b:Option Addr}:pt a=pt b↔a=b:=by
 cases a <;> cases b <;> simp[pt]
theorem mK {CN:Addr}{H:Hp}{m:Mp}{g:Nm->Option Addr} (T:Tree CN H m g) (b:Nm):Gm CN H (pt (g b)):=by
 have:=(T b).1
 cases e:g b with
 | none=>exact .inl rfl
 | some a =>
  rw[e] at this;obtain⟨dx,d,kvs,h,_⟩:=this;exact .inr ⟨a,dx,_,rfl,h⟩
noncomputable abbrev FF:Stmt:=(inClass (top 11) 1)
theorem Gi:az ["self"] ["self"] (ao FF):=by walk_at "s"
noncomputable def tw (gB gO gT:Nm->Option Addr) (b:Nm):Bool:=decide (gT b=gB b) || decide (gT b=gO b)
noncomputable def Bf (CN CP:Addr):Sp:=fun vs H Q _=>∃ (p:Addr) (mb mo mt:Mp) (gB gO gT:Nm->Option Addr) (b:Nm),vs=[.ref p]/\ux CN H mb mo mt gB gO gT/\eF CP H p gB gO gT b/\Q (.bl (tw gB gO gT b)) H
theorem EC {f CN CP:Addr}{fd:FuncData} (eqN:zS K CN) (T:Cz K CP) (F:cJ K "is_shared" "Place.is_shared" FF f fd):aR P w K mg base aT 1 f fd ["self"] (Bf CN CP):=by
 have sc:=Gi;walk_at "f"
 ·obtain⟨_,_,_,_,_,_,_,_,rfl,_⟩:=h
  rfl
 ·obtain⟨p,mb,mo,mt,gB,gO,gT,b,rfl,Tr,⟨dx,hp⟩,k⟩:=h
  have hu0:=hr.cL;refine⟨_,(ak (aw (EB (fV (vz K hu0 eqN) (aY K (pv 0) rfl) (aY K (pv 0) rfl) (aH _)) (qr (fV (vz K hu0 eqN) (aY K (pv 0) rfl) (aY K (pv 0) rfl) (aH _)))))),?_⟩;walk_at "rd";have e1:decide (pt (gT b)=pt (gB b))=decide (gT b=gB b):=decide_eq_decide.mpr vf;have e2:decide (pt (gT b)=pt (gO b))=decide (gT b=gO b):=decide_eq_decide.mpr vf;refine⟨CP,dx,_,hp,T.cl,T.nw,_,gH _ _ _ _,CP,dx,_,hp,T.cl,T.nb,_,jH _ _ _ _,mK Tr.t b,mK Tr.b b,_,rfl,?_⟩;rw[e1];unfold tw at k
  cases q:decide (gT b=gB b) with
  | true=>rw[q,Bool.true_or] at k;exact k
  | false =>
   rw[q,Bool.false_or] at k;refine⟨CP,dx,_,hp,T.cl,T.nw,_,gH _ _ _ _,CP,dx,_,hp,T.cl,T.no,_,jg _ _ _ _,mK Tr.t b,mK Tr.o b,?_⟩;rw[e2];exact k
noncomputable abbrev Bg:Stmt:=(inClass (top 11) 2)
theorem CG:az ["self"] ["self"] (ao Bg):=by walk_at "s"
noncomputable def vT (CN CP:Addr):Sp:=fun vs H Q _=>∃ (p:Addr) (mb mo mt:Mp) (gB gO gT:Nm->Option Addr) (b:Nm),vs=[.ref p]/\ux CN H mb mo mt gB gO gT/\eF CP H p gB gO gT b/\∀ q,H q=none->Q (.ref q) (upd H q (.tup (gN (fA mb mo mt b))))
theorem BK {f CN CP:Addr}{fd:FuncData} (cvalue_at:bU P w K mg base aT 2 "value_at" ["node"] (ow CN)) (T:Cz K CP) (F:cJ K "row" "Place.row" Bg f fd):aR P w K mg base aT 3 f fd ["self"] (vT CN CP):=by
 have sc:=CG;walk_at "f"
 ·obtain⟨_,_,_,_,_,_,_,_,rfl,_⟩:=h
  rfl
 ·obtain⟨p,mb,mo,mt,gB,gO,gT,b,rfl,Tr,⟨dx,hp⟩,k⟩:=h
  have hs:=sizeLine_eq;refine⟨_,(ak (aw (cm (ai (aY K (pv 0) rfl) (ai (bJ cvalue_at hr (ai (aY K (pv 0) rfl) ae)) (ai (bJ cvalue_at hr (ai (aY K (pv 0) rfl) ae)) (ai (bJ cvalue_at hr (ai (aY K (pv 0) rfl) ae)) ae))))))),?_⟩;walk_at "rd";refine⟨CP,dx,_,hp,T.cl,T.nt,_,oS _ _ _ _,CP,dx,_,hp,T.cl,T.nb,_,jH _ _ _ _,gB b,_,_,rfl,(Tr.b b).1,CP,dx,_,hp,T.cl,T.no,_,jg _ _ _ _,gO b,_,_,rfl,(Tr.o b).1,CP,dx,_,hp,T.cl,T.nw,_,gH _ _ _ _,gT b,_,_,rfl,(Tr.t b).1,by omega,fun q hq=>?_⟩;exact k q hq
noncomputable abbrev E2:Stmt:=(inClass (top 11) 3)
noncomputable abbrev G_:List Str:=["self","letter","behind"]
theorem Gu:az G_ ["self","letter"] (ao E2):=by walk_at "s"
theorem DW:(["node","letter"]:List Str).Nodup:=by decide +kernel
noncomputable def zX (CN CP:Addr):Sp:=fun vs H Q _=>∃ (p:Addr) (mb mo mt:Mp) (gB gO gT:Nm->Option Addr) (b:Nm) (c:Nat),vs=[.ref p,.str (tx [c])]/\ux CN H mb mo mt gB gO gT/\eF CP H p gB gO gT b/\b.length<=1000/\∀ q H',H q=none->eF CP H' q gB gO gT (b++[c])->Kp H H' []->Q (.ref q) H'
theorem Dl {f CN CP:Addr}{fd:FuncData} (cnode_behind:bU P w K mg base aT 2 "node_behind" ["node","letter"] (rh CN)) (n_Place:gd P w K mg base 1 "Place" CP sQ (rP CP)) (T:Cz K CP) (F:cJ K "place_behind" "Place.place_behind" E2 f fd):aR P w K mg base aT 3 f fd ["self","letter"] (zX CN CP):=by
 have sc:=Gu;have nd_node_letter:=DW;walk_at "f"
 ·obtain⟨_,_,_,_,_,_,_,_,_,rfl,_⟩:=h
  rfl
 ·obtain⟨p,mb,mo,mt,gB,gO,gT,b,c,rfl,Tr,⟨dx,hp⟩,hb,k⟩:=h
  have hs:=sizeLine_eq;refine⟨_,(af (mv (i:=2) (N':=["node","letter"]) (ix:=[none,some 1]) sc.nd rfl rfl rfl ?S1 (nq K (cm (ai (aY K (pv 0) rfl) (ai (aY K (pv 0) rfl) (ai (aY K (pv 0) rfl) ae))))) (fun cl C fp s H=>(aI (i:=0) nd_node_letter rfl (by walk_at "o"))) (fun cl C fp s H=>dZ) (fun cl C fp s H=>(bJ cnode_behind hr (ai (pv 0) (ai (pv 1) ae)))))
   (ak (aw (oj n_Place hr (ai (aC cK (aY K (pv 0) rfl) (pv 1)) (ai (aE (aK K) (pv 2) aj (fun _ _=>rfl)) (ai (aE (aK K) (pv 2) aj (fun _ _=>rfl)) (ai (aE (aK K) (pv 2) aj (fun _ _=>rfl)) ae)))))))),?_⟩
  case S1=>exact nL.is (N:=G_) (osc:=ao E2) (by decide +kernel)
  walk_at "rd";refine⟨CP,dx,_,hp,T.cl,T.nb,_,jH _ _ _ _,CP,dx,_,hp,T.cl,T.no,_,jg _ _ _ _,CP,dx,_,hp,T.cl,T.nw,_,gH _ _ _ _,by omega,fun t ht=>⟨⟨_,cE.of aa⟩,?_⟩⟩;have k1:Kp H (upd H t (.tup [pt (gB b),pt (gO b),pt (gT b)])) []:=(Kp.refl H []).new ht;have Tr1:=Tr.kp k1;refine uf (xs:=[pt (gB b),pt (gO b),pt (gT b)]) (fun i ys H'=>ys=[pt (gB (b++[c])),pt (gO (b++[c])),pt (gT (b++[c]))].take i/\H'=upd H t (.tup [pt (gB b),pt (gO b),pt (gT b)])) ⟨rfl,rfl⟩ (by show 3<=_;omega) ?_ ?_ ?_ ?_
  ·rintro i ys H' ⟨rfl,_⟩
   exact List.length_take_le _ _
  ·rintro i ys H' ⟨_,rfl⟩
   exact cE.of aa
  ·rintro i ys H' x hx ⟨rfl,rfl⟩ R R' r1 r2
   refine⟨Wk.set rfl,?_⟩;walk_at "rd"
   match i,hx with
   | 0,hx =>
    cases hx;exact⟨gB b,_,_,c,rfl,(Tr1.b b).1,r1 _ _ ⟨rfl,rfl⟩⟩
   | 1,hx =>
    cases hx;exact⟨gO b,_,_,c,rfl,(Tr1.o b).1,r1 _ _ ⟨rfl,rfl⟩⟩
   | 2,hx =>
    cases hx;exact⟨gT b,_,_,c,rfl,(Tr1.t b).1,r1 _ _ ⟨rfl,rfl⟩⟩
   | i+3,hx=>simp at hx
  ·rintro ys H' ⟨rfl,rfl⟩ d hd
   have hd0:H d=none:=k1.free hd (by simp);have k2:Kp H (upd (upd H t (.tup [pt (gB b),pt (gO b),pt (gT b)])) d (.lst ([pt (gB (b++[c])),pt (gO (b++[c])),pt (gT (b++[c]))].take [pt (gB b),pt (gO b),pt (gT b)].length))) []:=k1.new hd0;have hp2:=k2 p _ hp (by simp);have e3:[pt (gB (b++[c])),pt (gO (b++[c])),pt (gT (b++[c]))].take [pt (gB b),pt (gO b),pt (gT b)].length=[pt (gB (b++[c])),pt (gO (b++[c])),pt (gT (b++[c]))]:=rfl;rw[e3] at hp2 k2 ⊢;have hd3:(upd (upd H t (HO.tup [pt (gB b),pt (gO b),pt (gT b)])) d (HO.lst [pt (gB (b++[c])),pt (gO (b++[c])),pt (gT (b++[c]))])) d=some (HO.lst [pt (gB (b++[c])),pt (gO (b++[c])),pt (gT (b++[c]))]):=aa;generalize upd (upd H t (HO.tup [pt (gB b),pt (gO b),pt (gT b)])) d (HO.lst [pt (gB (b++[c])),pt (gO (b++[c])),pt (gT (b++[c]))])=H3 at hp2 k2 hd3 ⊢;have tl:(tx b).length+(tx [c]).length=b.length+1:=by simp[Str.length]
   have et:tx b++tx [c]=tx (b++[c]):=by
    rw[gY (tx b++tx [c]),fi,fg,fg]
   refine⟨CP,dx,_,hp2,T.cl,T.nt,_,oS _ _ _ _,tx b,rfl,by omega,_,aP.of hd3,_,rfl,_,aP.of hd3,_,rfl,_,aP.of hd3,_,rfl,fun x dx' nx ndx ne=>?_⟩;refine⟨x,dx',_,_,_,_,rfl,aa,fun H4 hx oth=>⟨rfl,?_⟩⟩;have k4:Kp H3 H4 []:=fun y o e _=>by
    rw[oth y (ag e nx),ah (ag e nx),ah (ag e ndx)];exact e
   rw[et] at hx;exact k x H4 (k2.free nx (by simp)) ⟨dx',hx⟩ (k2.trans k4)
noncomputable abbrev yc:Stmt:=(inClass (top 11) 4)
noncomputable abbrev C7:List Str:=["self","letters"]
theorem Es:az C7 ["self"] (ao yc):=by walk_at "s"
theorem Dx:(["letter","self"]:List Str).Nodup:=by decide +kernel
noncomputable def uW (CN CP:Addr):Sp:=fun vs H Q _=>∃ (p:Addr) (mb mo mt:Mp) (gB gO gT:Nm->Option Addr) (b:Nm),vs=[.ref p]/\ux CN H mb mo mt gB gO gT/\eF CP H p gB gO gT b/\b.length<=1000 /\
 ∀ (q:Addr) (L:List Nat) (ps:List Addr) H',L.Pairwise (·<·)->(∀ c,c∈L↔(gO (b++[c])).isSome=true\/(gT (b++[c])).isSome=true)->H' q=some (.lst (ps.map V.ref))->Paired (fun a c=>eF CP H' a gB gO gT (b++[c])) ps L.reverse->Kp H H' []->Q (.ref q) H'
structure HA (CP:Addr) (H4:Hp) (gB gO gT:Nm->Option Addr) (b:Nm) (L:List Nat) (i:Nat) (ys:List V) (H':Hp):Prop where
 ex:∃ ps:List Addr,ys=ps.map V.ref/\ps.length=i/\Paired (fun a c=>eF CP H' a gB gO gT (b++[c])) ps (L.reverse.take i)
 kp:Kp H4 H' []
theorem kF {CP:Addr}{H H':Hp}{gB gO gT:Nm->Option Addr}{b:Nm} (k:Kp H H' []) {ps:List Addr}{L:List Nat} (h:Paired (fun a c=>eF CP H a gB gO gT (b++[c])) ps L):Paired (fun a c=>eF CP H' a gB gO gT (b++[c])) ps L:=Paired.imp' (fun a c x=>x.kp k) h
theorem zC {f CN CP:Addr}{fd:FuncData} (B:Bl mg) (B2:Ha mg) (cletters_on:bU P w K mg base aT 4 "letters_on" ["node"] (uS CN)) (m_Place_place_behind:ck P w K mg base aT 4 CP "place_behind" ["self","letter"] (zX CN CP)) (T:Cz K CP) (F:cJ K "places_behind" "Place.places_behind" yc f fd):aR P w K mg base aT 5 f fd ["self"] (uW CN CP):=by
 have sc:=Es;have nd_letter_self:=Dx;walk_at "f"
 ·obtain⟨_,_,_,_,_,_,_,_,rfl,_⟩:=h
  rfl
 ·obtain⟨p,mb,mo,mt,gB,gO,gT,b,rfl,Tr,⟨dx,hp⟩,hb,k⟩:=h
  have hs:=sizeLine_eq;refine⟨_,(af (aA (i:=1) sc.nd rfl (by walk_at "o") (bg (iR rfl) rfl B.srt boot_sorted (ai (eO (mq rfl) rfl B2.set PyProof.Rows.boot_set (ai (aC cK (bJ cletters_on hr (ai (aY K (pv 0) rfl) ae)) (bJ cletters_on hr (ai (aY K (pv 0) rfl) ae))) ae)) ae)))
   (ak (aw (cI (N':=["letter","self"]) (ix:=[none,some 0]) rfl ?S1 (yd K rfl B2.rev PyProof.Rows.boot_reversed (pv 1)) (fun cl C fp s H=>(aI (i:=0) nd_letter_self rfl (by walk_at "o"))) (fun cl C fp s H=>dZ) (fun cl C fp s H=>(cV m_Place_place_behind hr eu (pv 1) (ai (pv 0) ae))))))),?_⟩
  case S1=>exact nL.is (N:=C7) (osc:=ao yc) (by decide +kernel)
  walk_at "rd";refine⟨CP,dx,_,hp,T.cl,T.no,_,jg _ _ _ _,gO b,_,_,rfl,(Tr.o b).1,fun l1 H1 s1 m1 a1 k1=>?_⟩;have hp1:=k1 p _ hp (by simp);have Tr1:=Tr.kp k1;refine⟨CP,dx,_,hp1,T.cl,T.nw,_,gH _ _ _ _,gT b,_,_,rfl,(Tr1.t b).1,fun l2 H2 s2 m2 a2 k2=>?_⟩;have Tr2:=Tr1.kp k2;have few:∀ {l:List Nat},l.Pairwise (·<·)->(∀ c∈l,97<=c/\c<=122)->l.length<=26:=fun {l} p a=>by
   have nd:l.Nodup:=by
    rw[List.nodup_iff_pairwise_ne];exact p.imp fun {a b} h=>Nat.ne_of_lt h
   have:=fW nd (u:=(List.range 26).map (·+97)) fun x hx=>by
    obtain⟨h1,h2⟩:=a x hx;exact List.mem_map.mpr ⟨x - 97,List.mem_range.mpr (by omega),by omega⟩
   simpa using this
  have f1:=few s1 a1;have f2:=few s2 a2;have t1:(tx l1).length=l1.length:=by simp[Str.length]
  have t2:(tx l2).length=l2.length:=by simp[Str.length]
  have et:(tx l1++tx l2).cps.toList=l1++l2:=by rw[fi,fg,fg]
  refine⟨tx l1,rfl,tx l2,rfl,by omega,?_,fun q1 hq1=>⟨l1++l2,?_,?_⟩⟩
  ·have:=congrArg List.length et
   rw[Array.length_toList,List.length_append] at this;omega
  ·rw[aa,et]
  have k3:Kp H1 (upd H2 q1 (sZ P w q1 (tx l1++tx l2).cps.toList)) []:=k2.new (k2.free hq1 (by simp));refine⟨fun c hc=>(List.mem_append.mp hc).elim (a1 c) (a2 c),fun q2 L hq2 sL mL=>?_⟩;have k4:=k3.new (p:=q2) (o:=.lst (L.map fun c=>.str (tx [c]))) (k3.free hq2 (by simp));have aL:∀ c∈L,97<=c/\c<=122:=fun c hc=>(List.mem_append.mp ((mL c).mp hc)).elim (a1 c) (a2 c);have fL:=few sL aL;have mL':∀ c,c∈L↔(gO (b++[c])).isSome=true\/(gT (b++[c])).isSome=true:=fun c=>by rw[mL,List.mem_append,m1,m2]
  have hq2':(upd (upd H2 q1 (sZ P w q1 (tx l1++tx l2).cps.toList)) q2 (.lst (L.map fun c=>.str (tx [c])))) q2=some (.lst (L.map fun c=>.str (tx [c]))):=aa;dsimp only[iN];generalize (upd (upd H2 q1 (sZ P w q1 (tx l1++tx l2).cps.toList)) q2 (.lst (L.map fun c=>.str (tx [c]))))=H4 at k4 hq2' ⊢;have k5:=k1.trans k4;have hp4:=k5 p _ hp (by simp);refine⟨_,aP.of hq2',tq (xs:=L.map fun c=>.str (tx [c])) (HA CP H4 gB gO gT b L) ⟨⟨[],rfl,rfl,.nil⟩,Kp.refl _ _⟩ (by rw[List.length_map];omega) ?_ ?_ ?_ ?_⟩
  ·rintro i ys H' ⟨⟨ps,rfl,hl,_⟩,_⟩
   rw[List.length_map,hl];exact Nat.le_refl _
  ·rintro i ys H' ⟨_,kp⟩
   exact aP.of (kp _ _ hq2' (by simp))
  ·rintro i ys H' x hx ⟨⟨ps,rfl,hl,hpr⟩,kp⟩ R R' r1 r2
   rw[<- List.map_reverse,List.getElem?_map] at hx;obtain⟨c,hc,rfl⟩:=Option.map_eq_some_iff.mp hx;refine⟨Wk.set rfl,?_⟩;walk_at "rd";have hpx:=kp p _ hp4 (by simp);refine⟨dx,_,hpx,jm _ _ _ _ (by decide +kernel) (by decide +kernel) (by decide +kernel) (by decide +kernel),p,mb,mo,mt,gB,gO,gT,b,c,rfl,(Tr.kp k5).kp kp,⟨dx,hpx⟩,hb,fun q H5 hq pl k6=>?_⟩;refine r1 _ _ ⟨⟨ps++[q],by rw[List.map_append];rfl,by rw[List.length_append,hl];rfl,?_⟩,kp.trans k6⟩;rw[List.take_add_one,hc];exact bK (kF k6 hpr) pl
  ·rintro ys H' ⟨⟨ps,rfl,hl,hpr⟩,kp⟩ d hd
   rw[List.length_map,<- List.length_reverse,List.take_of_length_le (Nat.le_refl _)] at hpr;have k6:Kp H' (upd H' d (.lst (ps.map V.ref))) []:=(Kp.refl H' []).new hd;exact k d L ps _ sL mL' aa (kF k6 hpr) ((k5.trans kp).trans k6)
noncomputable abbrev Ao:Stmt:=top 12
theorem Dg:az ["row"] ["row"] (ao Ao):=by walk_at "s"
noncomputable def E3 (r:Row):Bool:=decide (r.2.2.2≠r.2.1) && decide (r.2.2.2≠r.2.2.1)
noncomputable def uK:Sp:=fun vs H Q _=>∃ (a:Addr) (r:Row),vs=[.ref a]/\H a=some (.tup (gN r))/\Q (.bl (E3 r)) H
theorem As {f:Addr}{fd:FuncData} (F:cJ K "is_changed_from_both" "is_changed_from_both" Ao f fd):aR P w K mg base aT 1 f fd ["row"] uK:=by
 have sc:=Dg;walk_at "f"
 ·obtain⟨_,_,rfl,_⟩:=h
  rfl
 ·obtain⟨a,r,rfl,ha,k⟩:=h
  refine⟨_,(ak (aw (wD (fV dY (aE (aF K) (pv 0) aj (fun _ _=>rfl)) (aE (aF K) (pv 0) aj (fun _ _=>rfl)) (aH _)) (qr (fV dY (aE (aF K) (pv 0) aj (fun _ _=>rfl)) (aE (aF K) (pv 0) aj (fun _ _=>rfl)) (aH _)))))),?_⟩;walk_at "rd";obtain⟨n,x,y,z⟩:=r;have sq:cE K H a (gN (n,x,y,z)):=cE.of ha;refine⟨_,sq,oV z,rfl,_,sq,oV x,rfl,gw _ _,?_⟩;have e1:decide (oV z=oV x)=decide (z=x):=decide_eq_decide.mpr dQ;have e2:decide (oV z=oV y)=decide (z=y):=decide_eq_decide.mpr dQ;rw[e1];unfold E3 at k;dsimp only at k
  by_cases q:z=x
  ·rw[if_neg (by simp[q])]
   have:(decide (z≠x) && decide (z≠y))=false:=by simp[q]
   rw[this] at k;exact k
  ·rw[if_pos (by simp[q])]
   refine⟨_,sq,oV z,rfl,_,sq,oV y,rfl,gw _ _,?_⟩;have:(decide (z≠x) && decide (z≠y))=!decide (z=y):=by simp[q]
   rw[this] at k;rw[e2];exact k
end
end
section
section
theorem uE {α:Type} (f:α->V) (hf:∀ a b,f a=f b->a=b):∀ {m m':List (Nm×α)},aM f m=aM f m'->m=m'
 | [],[],_=>rfl
 | [],_::_,h=>by cases h
 | _::_,[],h=>by cases h
 | (n,a)::m,(n',a')::m',h=>by
  have h:(Sum.inr (tx n),f a)::aM f m=(Sum.inr (tx n'),f a')::aM f m':=h;have h1:=(List.cons.inj h).1;have h2:=(List.cons.inj h).2;have e1:n=n':=mI.mp (Sum.inr.inj (congrArg Prod.fst h1));have e2:a=a':=hf _ _ (congrArg Prod.snd h1);rw[e1,e2,uE f hf h2]
theorem nW {CN:Addr}{H:Hp}{o:Option Addr}{v v':Option Nm}{nx nx':Nat->Option Addr} (h:cN CN H o v nx) (h':cN CN H o v' nx'):v=v'/\∀ c,nx c=nx' c:=by
 cases o with
 | none=>exact⟨h.1.trans h'.1.symm,fun c=>(h.2 c).trans (h'.2 c).symm⟩
 | some a =>
  obtain⟨dx,d,kvs,h1,h2,h3⟩:=h;obtain⟨dx',d',kvs',h1',h2',h3'⟩:=h';rw[h1] at h1';have e:=(HO.ins.inj (Option.some.inj h1')).2.2;have ev:=congrArg (fun fs=>fs.lookup ("value":Str)) e;have eb:=congrArg (fun fs=>fs.lookup ("branches":Str)) e;simp only[iC,cO,Option.some.injEq,V.ref.injEq] at ev eb;subst eb;rw[h2] at h2';have ek:=uE V.ref (fun a b z=>V.ref.inj z) (HO.dK.inj (Option.some.inj h2'));subst ek;exact⟨dQ.mp ev,fun c=>(h3.to c).symm.trans (h3'.to c)⟩
theorem ko {CN:Addr}{H:Hp}{m m':Mp}{g g':Nm->Option Addr} (T:Tree CN H m g) (T':Tree CN H m' g') {b:Nm} (e:g b=g' b):∀ s,g (b++s)=g' (b++s):=by
 intro s
 induction s generalizing b with
 | nil=>rw[List.append_nil];exact e
 | cons c s ih =>
  have h1:=(T b).1;have h2:=(T' b).1;rw[<- e] at h2;have:=ih (b:=b++[c]) ((nW h1 h2).2 c);rw[List.append_assoc] at this;exact this
theorem jI {CN:Addr}{H:Hp}{m m':Mp}{g g':Nm->Option Addr} (T:Tree CN H m g) (T':Tree CN H m' g') {b n:Nm} (e:g b=g' b) (hn:b <+: n):aq m n=aq m' n:=by
 obtain⟨s,rfl⟩:=hn;have q:=ko T T' e s;have h1:=(T (b++s)).1;have h2:=(T' (b++s)).1;rw[<- q] at h2;exact (nW h1 h2).1
theorem qc {CN:Addr}{H:Hp}{mb mo mt:Mp}{gB gO gT:Nm->Option Addr} (Tr:ux CN H mb mo mt gB gO gT) {b:Nm} (h:tw gB gO gT b=true):under (bR mb mo mt) b=[]:=by
 refine List.eq_nil_iff_forall_not_mem.mpr fun n hn=>?_;obtain⟨h1,h2⟩:=cY.mp hn;obtain⟨q1,q2⟩:=dD.mp h1;unfold tw at h;rcases Bool.or_eq_true_iff.mp h with z|z
 ·exact q1 (jI Tr.t Tr.b (of_decide_eq_true z) h2)
 ·exact q2 (jI Tr.t Tr.o (of_decide_eq_true z) h2)
structure w_ (mo mt:Mp) (U:List Nm):Prop where
 len:U.length<=64
 lo:∀ u∈U,u.length<=90
 mem:∀ n,((aq mo n).isSome=true\/(aq mt n).isSome=true)->n∈U
noncomputable def pJ (U:List Nm):List Nm:=[]::U.flatMap bq
theorem yh {mo mt:Mp}{U:List Nm} (h:w_ mo mt U):(pJ U).length<=6000:=by
 have go:∀ l:List Nm,(∀ u∈l,u.length<=90)->(l.flatMap bq).length<=91 * l.length:=fun l=>by
  induction l with
  | nil=>intro _;exact Nat.le_refl _
  | cons a l ih =>
   intro h;rw[List.flatMap_cons,List.length_append,jY,List.length_cons];have:=ih fun u hu=>h u (List.mem_cons_of_mem _ hu);have:=h a List.mem_cons_self;omega
 have:=go U h.lo;have:=h.len;unfold pJ;rw[List.length_cons];omega
theorem yD {mo mt:Mp}{U:List Nm} (h:w_ mo mt U) {b:Nm} (hb:vS mo b\/vS mt b):b∈pJ U:=by
 unfold pJ;refine List.mem_cons_of_mem _ (List.mem_flatMap.mpr ?_);rcases hb with ⟨j,hj,p⟩|⟨j,hj,p⟩
 ·exact⟨j,h.mem j (.inl hj),cn.mpr p⟩
 ·exact⟨j,h.mem j (.inr hj),cn.mpr p⟩
theorem tR {mo mt:Mp}{U:List Nm} (h:w_ mo mt U) {b:Nm} (hb:b∈pJ U):b.length<=90:=by
 unfold pJ at hb;rcases List.mem_cons.mp hb with z|z
 ·rw[z];exact Nat.zero_le _
 ·obtain⟨u,hu,q⟩:=List.mem_flatMap.mp z
  have:=(cn.mp q).length_le;have:=h.lo u hu;omega
theorem ie {mb mo mt:Mp}{U:List Nm} (h:w_ mo mt U) (h1:aO mb) (h3:aO mt):(bR mb mo mt).length<=64:=by
 have nd:(bR mb mo mt).Nodup:=by
  rw[List.nodup_iff_pairwise_ne];exact (jo h1 h3).imp fun {a b} h (e:a=b)=>List.lt_irrefl b (e ▸ h)
 refine Nat.le_trans (eR nd (u:=U) fun n hn=>h.mem n ?_) h.len;have:=(dD.mp hn).2
 cases e1:aq mo n with
 | some _=>exact .inl rfl
 | none =>
  cases e2:aq mt n with
  | some _=>exact .inr rfl
  | none=>rw[e1,e2] at this;exact absurd rfl this
structure uL (mb mo mt:Mp) (U:List Nm) (gO gT:Nm->Option Addr) (done bs:List Nm) (M:Nat):Prop where
 all:bR mb mo mt=done++(bs.reverse.flatMap fun b=>under (bR mb mo mt) b)
 inB:∀ b∈bs,b∈pJ U
 sum:(bs.map fun b=>cnt (pJ U) b).sum=M
 le:M<=(pJ U).length
theorem qZ {U:List Nm}:∀ (bs:List Nm),(∀ b∈bs,b∈pJ U)->bs.length<=(bs.map fun b=>cnt (pJ U) b).sum
 | [],_=>Nat.le_refl _
 | b::bs,h=>by
  rw[List.map_cons,List.sum_cons,List.length_cons];have:=qZ bs fun x hx=>h x (List.mem_cons_of_mem _ hx);have:=rX (h b List.mem_cons_self);omega
theorem xY {mb mo mt:Mp}{U:List Nm}{gO gT:Nm->Option Addr}{done bs:List Nm}{b:Nm}{M:Nat} (S:uL mb mo mt U gO gT done (bs++[b]) M) (h:under (bR mb mo mt) b=[]):∃ M',M'<M/\uL mb mo mt U gO gT done bs M':=by
 refine⟨(bs.map fun b=>cnt (pJ U) b).sum,?_,?_,fun x hx=>S.inB x (List.mem_append_left _ hx),rfl,?_⟩
 ·have:=S.sum
  rw[List.map_append,List.sum_append,List.map_singleton,List.sum_singleton] at this;have:=rX (S.inB b (List.mem_append_right _ (List.mem_singleton.mpr rfl)));omega
 ·have:=S.all
  rw[List.reverse_append,List.reverse_singleton,List.singleton_append,List.flatMap_cons,h,List.nil_append] at this;exact this
 ·have:=S.sum
  have:=S.le;rw[List.map_append,List.sum_append] at *;omega
theorem sk {α:Type} (l:List α) (f:α->Nat):(l.reverse.map f).sum=(l.map f).sum:=by
 rw[List.map_reverse,List.sum_reverse]
theorem wx {CN:Addr}{H:Hp}{mb mo mt:Mp}{U:List Nm}{gB gO gT:Nm->Option Addr} (Tr:ux CN H mb mo mt gB gO gT) (hB:w_ mo mt U) (h1:aO mb) (h3:aO mt) {done bs:List Nm}{b:Nm}{M:Nat} (S:uL mb mo mt U gO gT done (bs++[b]) M)
  {L:List Nat} (sL:L.Pairwise (·<·)) (mL:∀ c,c∈L↔(gO (b++[c])).isSome=true\/(gT (b++[c])).isSome=true) :
  ∃ M',M'<M/\uL mb mo mt U gO gT (done++(if b∈bR mb mo mt then [b] else [])) (bs++L.reverse.map fun c=>b++[c]) M':=by
 have hb:=S.inB b (List.mem_append_right _ (List.mem_singleton.mpr rfl));have nd:L.Nodup:=by
  rw[List.nodup_iff_pairwise_ne];exact sL.imp fun {a b} h=>Nat.ne_of_lt h
 have st:=jz hb nd;have sm:=S.sum;have le:=S.le;rw[List.map_append,List.sum_append,List.map_singleton,List.sum_singleton] at sm;have e:((bs++L.reverse.map fun c=>b++[c]).map fun b=>cnt (pJ U) b).sum=(bs.map fun b=>cnt (pJ U) b).sum+(L.map fun c=>cnt (pJ U) (b++[c])).sum:=by
  rw[List.map_append,List.sum_append,List.map_map];congr 1;exact sk L _
 refine⟨_,?_,?_,fun x hx=>?_,rfl,?_⟩
 ·rw[e];omega
 ·have al:=S.all
  rw[List.reverse_append,List.reverse_singleton,List.singleton_append,List.flatMap_cons] at al;have us:=qM (jo h1 h3 (mo:=mo)) b L sL fun n hn c p=>by
   rw[mL,(Tr.o _).2,(Tr.t _).2];have:=(dD.mp hn).2
   cases e1:aq mo n with
   | some _=>exact .inl ⟨n,by rw[e1];rfl,p⟩
   | none =>
    cases e2:aq mt n with
    | some _=>exact .inr ⟨n,by rw[e2];rfl,p⟩
    | none=>rw[e1,e2] at this;exact absurd rfl this
  rw[us] at al;rw[List.reverse_append,<- List.map_reverse,List.reverse_reverse,List.flatMap_append,List.flatMap_map];rw[<- List.append_assoc] at al
  conv=>lhs;rw[al]
  simp only[List.append_assoc]
 ·rcases List.mem_append.mp hx with z|z
  ·exact S.inB x (List.mem_append_left _ z)
  ·obtain⟨c,hc,rfl⟩:=List.mem_map.mp z
   refine yD hB ?_;have:=(mL c).mp (List.mem_reverse.mp hc)
   rwa [(Tr.o _).2,(Tr.t _).2] at this
 ·rw[e];omega
theorem ka {α:Type} (f:α->Nat):∀ {L:List α}{c:α},c∈L->f c<=(L.map f).sum
 | a::L,c,h=>by
  rw[List.map_cons,List.sum_cons];rcases List.mem_cons.mp h with rfl|h
  ·exact Nat.le_add_right _ _
  ·exact Nat.le_trans (ka f h) (Nat.le_add_left _ _)
theorem wY (b:Nm) (L:List Nat):∀ (B:List Nm),B.Nodup->(∀ x∈B,b <+: x->x≠b->∃ c∈L,b++[c] <+: x)->cnt B b<=(L.map fun c=>cnt B (b++[c])).sum+(if b∈B then 1 else 0)
 | [],_,_=>Nat.zero_le _
 | x::B,nd,h=>by
  obtain⟨n1,n2⟩:=List.nodup_cons.mp nd;have ih:=wY b L B n2 fun y hy=>h y (List.mem_cons_of_mem _ hy);have e:(L.map fun c=>cnt (x::B) (b++[c]))=L.map fun c=>(if (b++[c]).isPrefixOf x=true then 1 else 0)+cnt B (b++[c]):=List.map_congr_left fun c _=>cnt_cons x B (b++[c]);rw[e,sum_add,cnt_cons]
  by_cases eb:x=b
  ·subst eb
   rw[if_neg n1] at ih;rw[if_pos List.mem_cons_self]
   split <;> omega
  ·have m:(if b∈x::B then 1 else 0)=if b∈B then 1 else 0:=by simp[Ne.symm eb]
   rw[m]
   by_cases p:b.isPrefixOf x=true
   ·obtain⟨c,hc,q⟩:=h x List.mem_cons_self (List.isPrefixOf_iff_prefix.mp p) eb
    have:=ka (fun c=>if (b++[c]).isPrefixOf x=true then 1 else 0) hc;rw[if_pos (List.isPrefixOf_iff_prefix.mpr q)] at this;rw[if_pos p];omega
   ·rw[if_neg p]
    omega
structure E_ (gB gO gT:Nm->Option Addr) (D:List Nm):Prop where
 nd:D.Nodup
 mem:∀ x,x∈D↔∀ b,b <+: x->tw gB gO gT b=false
structure Cn (gB gO gT:Nm->Option Addr) (D bs:List Nm) (k:Nat):Prop where
 up:∀ b∈bs,∀ b',b' <+: b->b'≠b->tw gB gO gT b'=false
 sum:k+(bs.map fun b=>cnt D b).sum=D.length
section
variable {gB gO gT:Nm->Option Addr}{D bs:List Nm}{b:Nm}{k:Nat}
theorem vU:Cn gB gO gT D [[]] 0:=by
 refine⟨fun b hb b' h1 h2=>?_,?_⟩
 ·rw[List.mem_singleton.mp hb] at h1 h2
  exact absurd (List.prefix_nil.mp h1) h2
 ·rw[List.map_singleton,List.sum_singleton,Nat.zero_add]
  unfold cnt;congr 1;exact List.filter_eq_self.mpr fun a _=>rfl
theorem Bx (O:E_ gB gO gT D) (C:Cn gB gO gT D (bs++[b]) k) (sh:tw gB gO gT b=true):Cn gB gO gT D bs k:=by
 refine⟨fun x hx=>C.up x (List.mem_append_left _ hx),?_⟩;have:=C.sum;have z:cnt D b=0:=by
  unfold cnt;rw[List.length_eq_zero_iff,List.filter_eq_nil_iff];intro x hx p;rw[(O.mem x).mp hx b (List.isPrefixOf_iff_prefix.mp p)] at sh
  cases sh
 rw[List.map_append,List.sum_append,List.map_singleton,List.sum_singleton,z] at this;exact this
theorem yK (O:E_ gB gO gT D) (C:Cn gB gO gT D (bs++[b]) k) (sh:tw gB gO gT b=false) {L:List Nat} (sL:L.Pairwise (·<·)) (mL:∀ c,c∈L↔(gO (b++[c])).isSome=true\/(gT (b++[c])).isSome=true):Cn gB gO gT D (bs++L.reverse.map fun c=>b++[c]) (k+1):=by
 have nd:L.Nodup:=by
  rw[List.nodup_iff_pairwise_ne];exact sL.imp fun {a b} h=>Nat.ne_of_lt h
 have up:=C.up b (List.mem_append_right _ (List.mem_singleton.mpr rfl));have ok:∀ b',b' <+: b->tw gB gO gT b'=false:=fun b' h=>if e:b'=b then e ▸ sh else up b' h e
 have hb:b∈D:=(O.mem b).mpr ok;refine⟨fun x hx b' h1 h2=>?_,?_⟩
 ·rcases List.mem_append.mp hx with z|z
  ·exact C.up x (List.mem_append_left _ z) b' h1 h2
  ·obtain⟨c,_,rfl⟩:=List.mem_map.mp z
   rcases List.prefix_concat_iff.mp h1 with e|h
   ·exact absurd e h2
   ·exact ok b' h
 ·have s1:=jz hb nd
  have s2:=wY b L D O.nd fun x hx p ne=>by
   obtain⟨r,rfl⟩:=p
   cases r with
   | nil=>exact absurd (List.append_nil b) ne
   | cons c r =>
    have pr:b++[c] <+: b++c::r:=⟨r,by simp⟩;refine⟨c,(mL c).mpr ?_,pr⟩;have:=(O.mem _).mp hx _ pr;unfold tw at this;rw[Bool.or_eq_false_iff,decide_eq_false_iff_not,decide_eq_false_iff_not] at this;have:=this.2
    cases e1:gO (b++[c]) with
    | some _=>exact .inl rfl
    | none =>
     cases e2:gT (b++[c]) with
     | some _=>exact .inr rfl
     | none=>rw[e1,e2] at this;exact absurd rfl this
  rw[if_pos hb] at s2;have e:((bs++L.reverse.map fun c=>b++[c]).map fun b=>cnt D b).sum=(bs.map fun b=>cnt D b).sum+(L.map fun c=>cnt D (b++[c])).sum:=by
   rw[List.map_append,List.sum_append,List.map_map];congr 1;exact sk L _
  have:=C.sum;rw[List.map_append,List.sum_append,List.map_singleton,List.sum_singleton] at this;rw[e];omega
end
noncomputable abbrev Gd:Stmt:=top 13
noncomputable abbrev HU:List Str:=["base","one","two","rows","opened","ahead","place"]
theorem Fw:az HU ["base","one","two"] (ao Gd):=by walk_at "s"
noncomputable def gf (H:Hp) (rs:List Addr) (rows:List Row):Prop:=Paired (fun a row=>H a=some (.tup (gN row))) rs rows
noncomputable def yy (CN:Addr):Sp:=fun vs H Q _=>∃ (mb mo mt:Mp) (gB gO gT:Nm->Option Addr) (U:List Nm),vs=[pt (gB []),pt (gO []),pt (gT [])]/\ux CN H mb mo mt gB gO gT/\w_ mo mt U/\aO mb/\aO mt /\
 ∀ (p r:Addr) (rs:List Addr) (k:Nat) H',H' p=some (.tup [.ref r,nV k])->H' r=some (.lst (rs.map V.ref))->gf H' rs ((bR mb mo mt).map (fA mb mo mt))->(∀ D,E_ gB gO gT D->k=D.length)->Kp H H' []->Q (.ref p) H'
structure HK (CP:Addr) (H:Hp) (mb mo mt:Mp) (gB gO gT:Nm->Option Addr) (U:List Nm) (r q:Addr) (M:Nat) (σ:L2.St) (H2:Hp):Prop where
 ex:∃ (pl:Option V) (k:Nat) (rs ps:List Addr) (done bs:List Nm),σ=[some (pt (gB [])),some (pt (gO [])),some (pt (gT [])),some (.ref r),some (nV k),some (.ref q),pl]/\H2 r=some (.lst (rs.map V.ref))/\gf H2 rs (done.map (fA mb mo mt)) /\
  H2 q=some (.lst (ps.map V.ref))/\Paired (fun a b=>eF CP H2 a gB gO gT b) ps bs/\uL mb mo mt U gO gT done bs M/\∀ D,E_ gB gO gT D->Cn gB gO gT D bs k
 kp:Kp H H2 []
 hr:H r=none
 hq:H q=none
 ne:r≠q
theorem hE {H:Hp}{rs:List Addr}{rows:List Row} (h:gf H rs rows) {p:Addr}{xs:List V} (hp:H p=some (.lst xs)) (o:HO):gf (upd H p o) rs rows:=Paired.imp' (fun a row x=>by rw[ah (bV x hp (by intro z;cases z))];exact x) h
theorem dE {H H':Hp}{rs:List Addr}{rows:List Row} (h:gf H rs rows) (k:Kp H H' []):gf H' rs rows:=Paired.imp' (fun a row x=>k _ _ x (by simp)) h
theorem mG {CP:Addr}{gB gO gT:Nm->Option Addr}{H:Hp}{ps:List Addr}{bs:List Nm} (h:Paired (fun a b=>eF CP H a gB gO gT b) ps bs) {p:Addr}{xs:List V} (hp:H p=some (.lst xs)) (o:HO):Paired (fun a b=>eF CP (upd H p o) a gB gO gT b) ps bs :=
 Paired.imp' (fun a b ⟨dx,x⟩=>⟨dx,by rw[ah (bV x hp (by intro z;cases z))];exact x⟩) h
theorem pN {CP:Addr}{gB gO gT:Nm->Option Addr}{H H':Hp}{ps:List Addr}{bs:List Nm} (h:Paired (fun a b=>eF CP H a gB gO gT b) ps bs) (k:Kp H H' []):Paired (fun a b=>eF CP H' a gB gO gT b) ps bs:=Paired.imp' (fun a b x=>x.kp k) h
theorem gp {α β:Type}{R:α->β->Prop}:∀ {l:List α}{r:List β}{b:β},Paired R l (r++[b])->∃ l' a,l=l'++[a]/\Paired R l' r/\R a b
 | _,[],b,.cons h .nil=>⟨[],_,rfl,.nil,h⟩
 | _,x::r,b,.cons h t=>by
  obtain⟨l',a,e,p,q⟩:=gp t;exact⟨_::l',a,by rw[e];rfl,.cons h p,q⟩
theorem kq {α β:Type}{R:α->β->Prop}:∀ {l l':List α}{r r':List β},Paired R l r->Paired R l' r'->Paired R (l++l') (r++r')
 | _,_,_,_,.nil,h=>h
 | _,_,_,_,.cons a q,h=>.cons a (kq q h)
theorem jF {α β γ:Type}{R:α->β->Prop} (f:γ->β):∀ {l:List α}{r:List γ},Paired (fun a c=>R a (f c)) l r->Paired R l (r.map f)
 | _,_,.nil=>.nil
 | _,_,.cons a q=>.cons a (jF f q)
theorem Ej {f CN CP:Addr}{fd:FuncData} (B:Bl mg) (n_Place:gd P w K mg base 5 "Place" CP sQ (rP CP)) (m_Place_is_shared:ck P w K mg base aT 6 CP "is_shared" ["self"] (Bf CN CP)) (m_Place_row:ck P w K mg base aT 6 CP "row" ["self"] (vT CN CP))
  (m_Place_places_behind:ck P w K mg base aT 6 CP "places_behind" ["self"] (uW CN CP)) (cis_changed_from_both:bU P w K mg base aT 6 "is_changed_from_both" ["row"] uK) (F:cJ K "rows_apart" "rows_apart" Gd f fd):aR P w K mg base aT 7 f fd ["base","one","two"] (yy CN):=by
 have sc:=Fw;walk_at "f"
 ·obtain⟨_,_,_,_,_,_,_,rfl,_⟩:=h
  rfl
 ·obtain⟨mb,mo,mt,gB,gO,gT,U,rfl,Tr,hB,n1,n3,k⟩:=h
  have hs:=sizeLine_eq;refine⟨_,(af (aA (i:=3) sc.nd rfl (by walk_at "o") (bw ae))
   (af (aA (i:=4) sc.nd rfl (by walk_at "o") aj)
   (af (aA (i:=5) sc.nd rfl (by walk_at "o") (bw (ai (oj n_Place hr (ai au (ai (pv 0) (ai (pv 1) (ai (pv 2) ae))))) ae)))
   (af (og PassesOwn.never (aG zk (bg (aX K) rfl B.len boot_len (ai (pv 5) ae)) aj (aH _)) (af (cU (aA (i:=6) sc.nd rfl (by walk_at "o") (ny K PySem.F.plainAttrs_list PySem.F.slot_list_pop PySem.F.type_list_pop pM (pv 5))))
    (af (dW (a_ (cF (nz m_Place_is_shared hr eu (pv 6))) (ak pA) aJ))
    (af (uZ (i:=4) sc.nd rfl (by walk_at "o") aj vK)
    (af (dW (a_ (cF (bJ cis_changed_from_both hr (ai (nz m_Place_row hr eu (pv 6)) ae))) (ak (aZ (eG K PySem.F.plainAttrs_list PySem.F.slot_list_append PySem.F.type_list_append bo (pv 3) (ai (nz m_Place_row hr eu (pv 6)) ae)))) aJ))
    (ak (aZ (eG K PySem.F.plainAttrs_list PySem.F.slot_list_extend PySem.F.type_list_extend iu (pv 5) (ai (nz m_Place_places_behind hr eu (pv 6)) ae)))))))))
   (ak (aw (cm (ai (pv 3) (ai (pv 4) ae))))))))),?_⟩
  walk_at "rd";refine⟨by omega,fun r hr0 x dx nx ndx ne=>?_⟩;refine⟨x,dx,_,_,_,_,rfl,aa,fun H1 hx oth=>⟨rfl,by omega,fun q hq=>?_⟩⟩;have k0:Kp H (upd H r (.lst [])) []:=(Kp.refl H []).new hr0;have k1:Kp (upd H r (.lst [])) H1 []:=fun y o e _=>by
   rw[oth y (ag e nx),ah (ag e nx),ah (ag e ndx)];exact e
  have hr1:H1 r=some (.lst []):=k1 r _ aa (by simp);have k2:Kp H1 (upd H1 q (.lst [.ref x])) []:=(Kp.refl H1 []).new hq;have k3:=(k0.trans k1).trans k2;have rq:r≠q:=ag hr1 hq;have hr2:=k2 r _ hr1 (by simp);have hq0:H q=none:=(k0.trans k1).free hq (by simp);have hx2:eF CP (upd H1 q (.lst [.ref x])) x gB gO gT []:=⟨dx,k2 x _ hx (by simp)⟩;have hq2:(upd H1 q (.lst [.ref x])) q=some (.lst [.ref x]):=aa;generalize upd H1 q (.lst [.ref x])=H2 at k2 k3 hr2 hx2 hq2 ⊢;refine si (fun m σ H'=>HK CP H mb mo mt gB gO gT U r q m σ H') (cnt (pJ U) []) ⟨⟨none,0,[],[x],[],[[]],rfl,hr2,.nil,hq2,.cons hx2 .nil,⟨?_,?_,?_,?_⟩,fun D _=>vU⟩,k3,hr0,hq0,rq⟩ ?_ ?_
  ·rw[List.nil_append,List.reverse_singleton,List.flatMap_singleton]
   unfold under
   symm
   rw[List.filter_eq_self];intro a _
   rfl
  ·intro b hb
   rw[List.mem_singleton.mp hb];exact List.mem_cons_self
  ·rw[List.map_singleton,List.sum_singleton]
  ·unfold cnt
   exact List.length_filter_le _ _
  ·rintro M σ H3 ⟨⟨pl,kk,rs,ps,done,bs,rfl,h1,h2,h3,h4,S,Ct⟩,kp,_,_,_⟩
   walk_at "rd";rcases List.eq_nil_or_concat bs with rfl|⟨bs',b,rfl⟩
   ·cases h4
    refine⟨0,.inl ⟨_,aP.of h3,rfl⟩,?_⟩;rw[if_neg (by simp)];refine⟨by omega,fun p hp=>?_⟩;have k4:Kp H3 (upd H3 p (HO.tup [V.ref r,nV kk])) []:=(Kp.refl H3 []).new hp;have al:=S.all;rw[List.reverse_nil,List.flatMap_nil,List.append_nil] at al;exact k p r rs kk _ aa (k4 r _ h1 (by simp)) (by rw[al];exact dE h2 k4) (fun D O=>(Ct D O).sum) (kp.trans k4)
   ·rw[List.concat_eq_append] at h4 S Ct
    obtain⟨ps',a,rfl,h4',pa⟩:=gp h4;refine⟨ps'.length+1,.inl ⟨_,aP.of h3,by simp⟩,?_⟩;rw[if_pos (by simp)];have em:(ps'++[a]).map V.ref=ps'.map V.ref++[.ref a]:=by rw[List.map_append];rfl
    rw[em] at h3;intro I hI;refine⟨.inl ⟨rfl,_,aP.of h3⟩,_,h3,V.ref a,by simp,?_⟩;rw[List.dropLast_concat];have k4:Kp H (upd H3 q (.lst (ps'.map V.ref))) []:=kp.new hq0;have f3:(upd H3 q (.lst (ps'.map V.ref))) q=some (.lst (ps'.map V.ref)):=aa;have f1:(upd H3 q (.lst (ps'.map V.ref))) r=some (.lst (rs.map V.ref)):=by rw[ah rq];exact h1
    have f2:=hE h2 h3 (.lst (ps'.map V.ref));have f4:=mG h4' h3 (.lst (ps'.map V.ref));have fa:eF CP (upd H3 q (.lst (ps'.map V.ref))) a gB gO gT b:=by
     obtain⟨dx,z⟩:=pa;exact⟨dx,by rw[ah (bV z h3 (by intro z;cases z))];exact z⟩
    generalize upd H3 q (.lst (ps'.map V.ref))=H4 at k4 f1 f2 f3 f4 fa ⊢;have Tr4:=Tr.kp k4;obtain⟨dxa,fa'⟩:=id fa;refine hI.go ?_;walk_at "rd";refine⟨fun σ' H'=>tw gB gO gT b=false/\σ'=[some (pt (gB [])),some (pt (gO [])),some (pt (gT [])),some (.ref r),some (nV kk),some (.ref q),some (.ref a)]/\H'=H4,?_,?_⟩
    ·intro J hJ
     refine⟨dxa,_,fa',jm _ _ _ _ (by decide +kernel) (by decide +kernel) (by decide +kernel) (by decide +kernel),a,mb,mo,mt,gB,gO,gT,b,rfl,Tr4,fa,_,rfl,hJ.go ?_⟩
     cases sh:tw gB gO gT b with
     | true =>
      rw[if_pos rfl];walk_at "rd";obtain⟨M',lt,S'⟩:=xY S (qc Tr sh);exact⟨M',lt,⟨some (.ref a),kk,rs,ps',done,bs',rfl,f1,f2,f3,f4,S',fun D O=>Bx O (Ct D O) sh⟩,k4,hr0,hq0,rq⟩
     | false =>
      rw[if_neg (by simp)];walk_at "rd"
    ·rintro σ' H' ⟨sh,rfl,rfl⟩
     walk_at "rd";have alen:=ie hB n1 n3;have dlen:done.length<=64:=by
      have:=congrArg List.length S.all;rw[List.length_append] at this;omega
     have rl:rs.length=done.length:=by
      have:=aN f2
      rwa [List.length_map] at this
     refine⟨_,_,rfl,rfl,fun σ' H5=>σ'=[some (pt (gB [])),some (pt (gO [])),some (pt (gT [])),some (.ref r),some (nV (kk+1)),some (.ref q),some (.ref a)]/\∃ rs',H5 r=some (.lst (rs'.map V.ref))/\gf H5 rs' ((done++(if b∈bR mb mo mt then [b] else [])).map (fA mb mo mt))/\H5 q=some (.lst (ps'.map V.ref))/\Paired (fun a b=>eF CP H5 a gB gO gT b) ps' bs'/\eF CP H5 a gB gO gT b/\Kp H H5 [],?_,?_⟩
     ·intro J hJ
      refine⟨dxa,_,fa',jm _ _ _ _ (by decide +kernel) (by decide +kernel) (by decide +kernel) (by decide +kernel),a,mb,mo,mt,gB,gO,gT,b,rfl,Tr4,fa,fun t1 ht1=>?_⟩;have k5:Kp H' (upd H' t1 (.tup (gN (fA mb mo mt b)))) []:=(Kp.refl H' []).new ht1;refine⟨t1,fA mb mo mt b,rfl,aa,_,rfl,hJ.go ?_⟩;have ei:E3 (fA mb mo mt b)=decide (b∈bR mb mo mt):=by
       unfold E3 fA;rw[Bool.eq_iff_iff,Bool.and_eq_true,decide_eq_true_eq,decide_eq_true_eq,decide_eq_true_eq,dD]
      rw[ei];have g1:=k5 r _ f1 (by simp);have g2:=dE f2 k5;have g3:=k5 q _ f3 (by simp);have g4:=pN f4 k5;have ga:=fa.kp k5;have k6:=k4.trans k5;generalize upd H' t1 (.tup (gN (fA mb mo mt b)))=H5 at k5 g1 g2 g3 g4 ga k6 ⊢
      by_cases hin:b∈bR mb mo mt
      ·rw[if_pos (decide_eq_true hin)]
       walk_at "rd";obtain⟨dxb,gb⟩:=id ga;refine⟨.inl ⟨rfl,_,aP.of g1⟩,dxb,_,gb,jm _ _ _ _ (by decide +kernel) (by decide +kernel) (by decide +kernel) (by decide +kernel),a,mb,mo,mt,gB,gO,gT,b,rfl,Tr.kp k6,ga,fun t2 ht2=>?_⟩;have k7:Kp H5 (upd H5 t2 (.tup (gN (fA mb mo mt b)))) []:=(Kp.refl H5 []).new ht2;have i1:=k7 r _ g1 (by simp);have i2:=dE g2 k7;have i3:=k7 q _ g3 (by simp);have i4:=pN g4 k7;have ia:=ga.kp k7;have k8:=k6.trans k7;have it2:(upd H5 t2 (.tup (gN (fA mb mo mt b)))) t2=some (.tup (gN (fA mb mo mt b))):=aa;generalize upd H5 t2 (.tup (gN (fA mb mo mt b)))=H6 at k7 i1 i2 i3 i4 ia k8 it2 ⊢;refine⟨_,i1,by rw[List.length_map];omega,rfl,rs++[t2],?_,?_,?_,mG i4 i1 _,?_,k8.new hr0⟩
       ·rw[aa,List.map_append];rfl
       ·rw[if_pos hin,List.map_append]
        exact hE (bK i2 it2) i1 _
       ·rw[ah rq.symm];exact i3
       ·obtain⟨dxc,ic⟩:=ia
        exact⟨dxc,by rw[ah (bV ic i1 (by intro z;cases z))];exact ic⟩
      ·rw[if_neg (by simp[hin])]
       walk_at "rd";exact⟨rfl,rs,g1,by rw[if_neg hin,List.append_nil];exact g2,g3,g4,ga,k6⟩
     ·rintro σ' H5 ⟨rfl,rs',g1,g2,g3,g4,ga,k6⟩
      walk_at "rd";obtain⟨dxb,gb⟩:=id ga;have bl:=tR hB (S.inB b (List.mem_append_right _ (List.mem_singleton.mpr rfl)));refine⟨.inl ⟨rfl,_,aP.of g3⟩,dxb,_,gb,jm _ _ _ _ (by decide +kernel) (by decide +kernel) (by decide +kernel) (by decide +kernel),a,mb,mo,mt,gB,gO,gT,b,rfl,Tr.kp k6,ga,by omega,fun q2 L ps2 H7 sL mL hq2 hpr k7=>?_⟩;obtain⟨M',lt,S'⟩:=wx Tr hB n1 n3 S sL mL;have i1:=k7 r _ g1 (by simp);have i3:=k7 q _ g3 (by simp);have ln:=qZ _ S'.inB;rw[S'.sum] at ln;have le:=S'.le;have bl2:=yh hB;have lp2:=aN hpr;have lp1:=aN g4;have l1:(bs'++L.reverse.map fun c=>b++[c]).length=ps'.length+ps2.length:=by rw[List.length_append,List.length_map,<- lp2,<- lp1]
      refine⟨q2,rfl,_,i3,_,hq2,by rw[List.length_map,List.length_map];omega,M',lt,⟨some (.ref a),kk+1,rs',ps'++ps2,_,_,rfl,?_,hE (dE g2 k7) i3 _,?_,?_,S',fun D O=>yK O (Ct D O) sh sL mL⟩,(k6.trans k7).new hq0,hr0,hq0,rq⟩
      ·rw[ah rq];exact i1
      ·rw[aa,List.map_append]
      ·exact mG (kq (pN g4 k7) (jF (fun c=>b++[c]) hpr)) i3 _
  ·intro σ H2 Q1 Q2 mono h
   revert h;walk_at "rd";rintro ⟨v,e1,n,e2,z⟩;exact⟨v,e1,n,e2,mono _ _ z⟩
end
end
section
section
variable {B0 newId initId:String}{bmB:List Value}
noncomputable abbrev FI:Stmt:=top 14
theorem Gz:az ["base","one","two"] ["base","one","two"] (ao FI):=by walk_at "s"
noncomputable def BB (CN:Addr):Sp:=fun vs H Q _=>∃ (mb mo mt:Mp) (gB gO gT:Nm->Option Addr) (U:List Nm),vs=[pt (gB []),pt (gO []),pt (gT [])]/\ux CN H mb mo mt gB gO gT/\w_ mo mt U/\aO mb/\aO mt /\
 ∀ (r:Addr) (rs:List Addr) H',H' r=some (.lst (rs.map V.ref))->gf H' rs ((bR mb mo mt).map (fA mb mo mt))->Kp H H' []->Q (.ref r) H'
theorem C0 {f CN:Addr}{fd:FuncData} (crows_apart:bU P w K mg base aT 8 "rows_apart" ["base","one","two"] (yy CN)) (F:cJ K "rows_to_join" "rows_to_join" FI f fd):aR P w K mg base aT 9 f fd ["base","one","two"] (BB CN):=by
 have sc:=Gz;walk_at "f"
 ·obtain⟨_,_,_,_,_,_,_,rfl,_⟩:=h
  rfl
 ·obtain⟨mb,mo,mt,gB,gO,gT,U,rfl,Tr,hB,n1,n3,k⟩:=h
  refine⟨_,(ak (aw (aE (aF K) (bJ crows_apart hr (ai (pv 0) (ai (pv 1) (ai (pv 2) ae)))) aj (fun _ _=>rfl)))),?_⟩;walk_at "rd";refine⟨mb,mo,mt,gB,gO,gT,U,rfl,Tr,hB,n1,n3,fun p r rs kk H' h1 h2 h3 _ h4=>?_⟩;exact⟨p,rfl,_,cE.of h1,_,rfl,k r rs H' h2 h3 h4⟩
noncomputable def E5 (r p m:V):List (Str×V):=cj "made" m (cj "parent" p (cj "root" r []))
theorem zj:¬ (("root":Str)="made")/\¬ (("root":Str)="parent")/\¬ (("parent":Str)="made"):=by decide +kernel
theorem uN (r p m:V):(E5 r p m).lookup ("root":Str)=some r:=by
 unfold E5;rw[aB,if_neg zj.1,aB,if_neg zj.2.1,aB,if_pos rfl]
structure Fv (K:PySem.W.Frag) (CV:Addr):Prop where
 cl:pH K CV
 nr:bp K CV "root"
 np:bp K CV "parent"
 nm:bp K CV "made"
noncomputable abbrev Aw:Stmt:=(inClass (top 28) 0)
noncomputable abbrev uh:List Str:=["self","root","parent","made"]
theorem DZ:az uh uh (ao Aw):=by walk_at "s"
noncomputable def rA (CV:Addr):Sp:=fun vs H Q _=>∃ (x dx:Addr) (r p m:V),vs=[.ref x,r,p,m]/\H x=some (.ins CV dx [])/\∀ H',H' x=some (.ins CV dx (E5 r p m))->(∀ b,b≠x->H' b=H b)->Q .non H'
theorem A7 {f CV:Addr}{fd:FuncData} (T:Fv K CV) (F:cJ K "__init__" "Version.__init__" Aw f fd):aR P w K mg base aT 1 f fd uh (rA CV):=by
 have sc:=DZ;walk_at "f"
 ·obtain⟨_,_,_,_,_,rfl,_⟩:=h
  rfl
 ·obtain⟨x,dx,r,p,m,rfl,hx,k⟩:=h
  refine⟨_,(af (dS (pv 0) (pv 1) rfl)
   (af (dS (pv 0) (pv 2) rfl)
   (ak (dS (pv 0) (pv 3) rfl)))),?_⟩
  walk_at "rd";refine⟨CV,dx,[],hx,T.cl,T.nr,by decide,CV,dx,_,aa,T.cl,T.np,(by show 1<1000;decide),CV,dx,_,aa,T.cl,T.nm,rm _ _ _ _,?_⟩;exact k _ aa fun b hb=>by rw[ah hb,ah hb,ah hb]
noncomputable def xb (v a:V):List (Str×V):=cj "answers" a (cj "versions" v [])
theorem Er:¬ (("versions":Str)="answers"):=by decide +kernel
theorem dz (v a:V):(xb v a).lookup ("versions":Str)=some v:=by
 unfold xb;rw[aB,if_neg Er,aB,if_pos rfl]
theorem o_ (v a:V):(xb v a).lookup ("answers":Str)=some a:=by
 unfold xb;rw[aB,if_pos rfl]
theorem dt (v a:V) {m:Str} (h1:¬ m="answers") (h2:¬ m="versions"):(xb v a).lookup m=none:=by
 unfold xb;rw[aB,if_neg h1,aB,if_neg h2]
 rfl
structure Ez (K:PySem.W.Frag) (CB:Addr):Prop where
 cl:pH K CB
 nv:bp K CB "versions"
 na:bp K CB "answers"
structure ee where
 m:Mp
 g:Nm->Option Addr
 p:Option Nat
 k:Nat
noncomputable def iD (CN CV:Addr) (H:Hp) (a:Addr) (v:ee):Prop:=(∃ dx,H a=some (.ins CV dx (E5 (pt (v.g [])) (pV v.p) (nV v.k))))/\Tree CN H v.m v.g
theorem iD.kp {CN CV:Addr}{H H':Hp}{a:Addr}{v:ee} (h:iD CN CV H a v) (k:Kp H H' []):iD CN CV H' a v:=let ⟨⟨dx,h⟩,t⟩:=h;⟨⟨dx,k _ _ h (by simp)⟩,t.kp k⟩
structure fR (CN CV CB:Addr) (H:Hp) (bk vl al:Addr) (vs:List ee) (as:List V):Prop where
 ob:∃ dx,H bk=some (.ins CB dx (xb (.ref vl) (.ref al)))
 ve:∃ vas:List Addr,H vl=some (.lst (vas.map V.ref))/\Paired (fun a v=>iD CN CV H a v) vas vs
 an:H al=some (.lst as)
 ne:vl≠al
noncomputable abbrev A0:Stmt:=(inClass (top 29) 0)
theorem Eu:az ["self"] ["self"] (ao A0):=by walk_at "s"
noncomputable def V0:ee:=⟨[],fun _=>none,none,0⟩
noncomputable def vg (CN CV CB:Addr):Sp:=fun vs H Q _=>∃ (x dx:Addr),vs=[.ref x]/\H x=some (.ins CB dx [])/\∀ (vl al:Addr) H',fR CN CV CB H' x vl al [V0] []->H vl=none->H al=none->(∀ b o,b≠x->H b=some o->H' b=some o)->Q .non H'
theorem vM {CN:Addr}{H:Hp}:Tree CN H [] (fun _=>none):=fun b=>⟨⟨rfl,fun _=>rfl⟩,by
 constructor
 ·intro h;cases h
 ·rintro ⟨j,hj,_⟩;cases hj⟩
theorem AS {f CN CV CB:Addr}{fd:FuncData} (G_EMPTY:mg "EMPTY"=some Value.none) (n_Version:gd P w K mg base 1 "Version" CV uh (rA CV)) (T:Ez K CB) (F:cJ K "__init__" "Book.__init__" A0 f fd):aR P w K mg base aT 3 f fd ["self"] (vg CN CV CB):=by
 have sc:=Eu;walk_at "f"
 ·obtain⟨_,_,rfl,_⟩:=h
  rfl
 ·obtain⟨x,dx,rfl,hx,k⟩:=h
  have hs:=sizeLine_eq;refine⟨_,(af (dS (pv 0) (bw (ai (oj n_Version hr (ai (yB (v:=.non) rfl G_EMPTY rfl) (ai fF (ai aj ae)))) ae)) rfl)
   (ak (dS (pv 0) (bw ae) rfl))),?_⟩
  walk_at "rd";intro v0 dxv nv ndv nev;refine⟨v0,dxv,_,_,_,rfl,aa,fun H1 hv oth=>⟨rfl,by omega,fun vl hvl=>?_⟩⟩;have kp1:Kp H H1 []:=fun b o e _=>by
   rw[oth b (ag e nv),ah (ag e nv),ah (ag e ndv)];exact e
  have hx1:=kp1 x _ hx (by simp);have xvl:x≠vl:=ag hx1 hvl;have vvl:v0≠vl:=ag hv hvl;have xv:x≠v0:=ag hx nv;refine⟨CB,dx,[],(by rw[ah xvl];exact hx1),T.cl,T.nv,by decide,by omega,fun al hal=>?_⟩;have xal:x≠al:=fun z=>by rw[z,aa] at hal;cases hal
  rw[ah xal.symm] at hal;have vlal:vl≠al:=fun z=>by rw[z,aa] at hal;cases hal
  rw[ah vlal.symm] at hal;have val:v0≠al:=ag hv hal;refine⟨CB,dx,_,(by rw[ah xal];exact aa),T.cl,T.na,(by show 1<1000;decide),?_⟩;refine k vl al _ ⟨⟨dx,aa⟩,⟨[v0],?_,.cons ⟨⟨dxv,?_⟩,vM⟩ .nil⟩,?_,vlal⟩ (kp1.free hvl (by simp)) (kp1.free hal (by simp)) fun b o hb e=>?_
  ·rw[ah xvl.symm,ah vlal,ah xvl.symm,aa];rfl
  ·rw[ah xv.symm,ah val,ah xv.symm,ah vvl];exact hv
  ·rw[ah xal.symm,aa]
  ·have e1:=kp1 b o e (by simp)
   rw[ah hb,ah (ag e1 hal),ah hb,ah (ag e1 hvl)];exact e1
noncomputable abbrev zF:Stmt:=(inClass (top 29) 1)
theorem EG:az ["self","number"] ["self","number"] (ao zF):=by walk_at "s"
noncomputable def bx (n:Nat) (i:Int):Bool:=decide (i<0) || decide ((n:Int)<=i)
noncomputable def wR (CN CV CB CNV:Addr):Sp:=fun vs H Q E=>∃ (bk vl al:Addr) (ves:List ee) (as:List V) (i:Int),vs=[.ref bk,.int i]/\fR CN CV CB H bk vl al ves as/\ves.length<=1000/\(bx ves.length i=true->∀ H',Kp H H' []->E (.ref CNV) none H') /\
 (bx ves.length i=false->∀ (a:Addr) (v:ee),ves[i.toNat]?=some v->iD CN CV H a v->Q (.ref a) H)
theorem iH {α β:Type}{R:α->β->Prop}:∀ {xs:List α}{ys:List β},Paired R xs ys->∀ {i:Nat}{y:β},ys[i]?=some y->∃ x,xs[i]?=some x/\R x y
 | _,_,.nil,i,x,h=>by cases i <;> cases h
 | _,_,.cons h t,0,x,e=>⟨_,rfl,by cases e;exact h⟩
 | _,_,.cons h t,i+1,x,e=>iH t (i:=i) e
theorem BW {f CN CV CB CNV:Addr}{fd:FuncData} (B:Bl mg) (O_NoVersion:OwnCls "NoVersion" CNV bmB newId mg base) (FB:ExcBaseFacts B0 newId initId bmB) (T:Ez K CB) (F:cJ K "version_at" "Book.version_at" zF f fd):aR P w K mg base (fz P w) 1 f fd ["self","number"] (wR CN CV CB CNV):=by
 have sc:=EG;refine F.AB sc (fun vs H Q E h=>?_) (fun cdv A outer s H vs Q E hr h=>?_)
 ·obtain⟨_,_,_,_,_,_,rfl,_⟩:=h
  rfl
 ·obtain⟨bk,vl,al,ves,as,i,rfl,⟨⟨dx,hb⟩,⟨vas,hv,hp⟩,ha,ne⟩,hl,kb,kg⟩:=h
  have hs:=sizeLine_eq;have lv:=aN hp;refine⟨_,(af (eX (PW.pt (gg (aG oR (pv 1) aj (aH _)) (fC (aG yX (pv 1) (bg (aX K) rfl B.len boot_len (ai (aY K (pv 0) rfl) ae)) (aH _))))) (ak (oH O_NoVersion FB rfl ly (ai au ae))) aJ)
   (ak (aw (aE (aK K) (aY K (pv 0) rfl) (pv 1) (fun _ _=>rfl))))),?_⟩
  walk_at "rd"
  by_cases c1:i<0
  ·rw[if_pos (decide_eq_true c1)]
   exact⟨by omega,kb (by unfold bx;simp[c1]) H (Kp.refl _ _)⟩
  ·rw[if_neg (by simp[c1])]
   refine⟨CB,dx,_,hb,T.cl,T.nv,_,dz _ _,vas.length,.inl ⟨_,aP.of hv,by rw[List.length_map]⟩,?_⟩
   by_cases c2:(vas.length:Int)<=i
   ·rw[if_pos (decide_eq_true c2)]
    exact⟨by omega,kb (by unfold bx;rw[lv] at c2;simp[c2]) H (Kp.refl _ _)⟩
   ·rw[if_neg (by simp[c2])]
    have hi:i.toNat<ves.length:=by omega
    obtain⟨a,ea,va⟩:=iH hp (i:=i.toNat) (y:=ves[i.toNat]) (by simp[hi]);have ei:i=((i.toNat:Nat):Int):=by omega
    refine⟨CB,dx,_,hb,T.cl,T.nv,_,dz _ _,vl,rfl,_,aP.of hv,.ref a,?_,kg (by rw[lv] at c2;unfold bx;simp[c1,c2]) a ves[i.toNat] (by simp[hi]) va⟩;rw[ei];exact bS (by rw[List.getElem?_map,ea];rfl)
noncomputable abbrev BZ:Stmt:=(inClass (top 29) 2)
theorem CZ:az ["self","number"] ["self","number"] (ao BZ):=by walk_at "s"
noncomputable def lQ (CN CV CB CNV:Addr):Sp:=fun vs H Q E=>∃ (bk vl al:Addr) (ves:List ee) (as:List V) (i:Int),vs=[.ref bk,.int i]/\fR CN CV CB H bk vl al ves as/\ves.length<=1000/\(bx ves.length i=true->∀ H',Kp H H' []->E (.ref CNV) none H') /\
 (bx ves.length i=false->∀ (v:ee),ves[i.toNat]?=some v->Tree CN H v.m v.g->Q (pt (v.g [])) H)
theorem AZ {f CN CV CB CNV:Addr}{fd:FuncData} (m_Book_version_at:ck P w K mg base (fz P w) 2 CB "version_at" ["self","number"] (wR CN CV CB CNV)) (T:Fv K CV) (F:cJ K "root_at" "Book.root_at" BZ f fd):aR P w K mg base (fz P w) 3 f fd ["self","number"] (lQ CN CV CB CNV):=by
 have sc:=CZ;refine F.AB sc (fun vs H Q E h=>?_) (fun cdv A outer s H vs Q E hr h=>?_)
 ·obtain⟨_,_,_,_,_,_,rfl,_⟩:=h
  rfl
 ·obtain⟨bk,vl,al,ves,as,i,rfl,B,hl,kb,kg⟩:=h
  refine⟨_,(ak (aw (aY K (cV m_Book_version_at hr cf (pv 0) (ai (pv 1) ae)) rfl))),?_⟩;walk_at "rd";obtain⟨dx,hb⟩:=id B.ob;refine⟨dx,_,hb,dt _ _ (by decide +kernel) (by decide +kernel),bk,vl,al,ves,as,i,rfl,B,hl,kb,fun e a v hv va=>?_⟩;obtain⟨⟨dxa,ha⟩,t⟩:=va;exact⟨a,rfl,CV,dxa,_,ha,T.cl,T.nr,_,uN _ _ _,kg e v hv t⟩
noncomputable abbrev vW:Stmt:=(inClass (top 29) 4)
noncomputable abbrev lE:List Str:=["self","root","parent","made"]
theorem A9:az lE lE (ao vW):=by walk_at "s"
noncomputable def mj (CN CV CB:Addr):Sp:=fun vs H Q _=>∃ (bk vl al:Addr) (ves:List ee) (as:List V) (v:ee),vs=[.ref bk,pt (v.g []),pV v.p,nV v.k]/\fR CN CV CB H bk vl al ves as/\ves.length<=1000/\Tree CN H v.m v.g /\
 ∀ H',fR CN CV CB H' bk vl al (ves++[v]) as->Kp H H' [vl]->Q (nV ves.length) H'
theorem Tree.put {CN:Addr}{H:Hp}{m:Mp}{g:Nm->Option Addr} (T:Tree CN H m g) {p:Addr}{xs:List V} (hp:H p=some (.lst xs)) (o:HO):Tree CN (upd H p o) m g:=fun b=>⟨(T b).1.put hp o,(T b).2⟩
theorem iD.put {CN CV:Addr}{H:Hp}{a:Addr}{v:ee} (h:iD CN CV H a v) {p:Addr}{xs:List V} (hp:H p=some (.lst xs)) (o:HO):iD CN CV (upd H p o) a v:=let ⟨⟨dx,h⟩,t⟩:=h;⟨⟨dx,by rw[ah (bV h hp (by intro z;cases z))];exact h⟩,t.put hp o⟩
theorem fR.kp {CN CV CB:Addr}{H H':Hp}{bk vl al:Addr}{ves:List ee}{as:List V} (h:fR CN CV CB H bk vl al ves as) (k:Kp H H' []):fR CN CV CB H' bk vl al ves as:=by
 obtain⟨⟨dx,h1⟩,⟨vas,h2,h3⟩,h4,h5⟩:=h;exact⟨⟨dx,k _ _ h1 (by simp)⟩,⟨vas,k _ _ h2 (by simp),Paired.imp' (fun a v x=>x.kp k) h3⟩,k _ _ h4 (by simp),h5⟩
theorem xr {f CN CV CB:Addr}{fd:FuncData} (B:Bl mg) (n_Version:gd P w K mg base 1 "Version" CV uh (rA CV)) (T:Ez K CB) (F:cJ K "keep" "Book.keep" vW f fd):aR P w K mg base aT 3 f fd lE (mj CN CV CB):=by
 have sc:=A9;walk_at "f"
 ·obtain⟨_,_,_,_,_,_,rfl,_⟩:=h
  rfl
 ·obtain⟨bk,vl,al,ves,as,v,rfl,Bk,hl,Tv,k⟩:=h
  have hs:=sizeLine_eq;refine⟨_,(af (aZ (eG K PySem.F.plainAttrs_list PySem.F.slot_list_append PySem.F.type_list_append bo (aY K (pv 0) rfl) (ai (oj n_Version hr (ai (pv 1) (ai (pv 2) (ai (pv 3) ae)))) ae)))
   (ak (aw (aC ff (bg (aX K) rfl B.len boot_len (ai (aY K (pv 0) rfl) ae)) aj)))),?_⟩
  walk_at "rd";obtain⟨⟨dx,hb⟩,⟨vas,hv,hp⟩,ha,ne⟩:=id Bk;have lv:=aN hp;refine⟨CB,dx,_,hb,T.cl,T.nv,_,dz _ _,.inl ⟨rfl,_,aP.of hv⟩,fun v0 dxv nv ndv nev=>?_⟩;refine⟨v0,dxv,_,_,_,rfl,aa,fun H1 hv0 oth=>⟨rfl,?_⟩⟩;have kp1:Kp H H1 []:=fun b o e _=>by
   rw[oth b (ag e nv),ah (ag e nv),ah (ag e ndv)];exact e
  have Bk1:=Bk.kp kp1;have hb1:=kp1 _ _ hb (by simp);have hv1:=kp1 _ _ hv (by simp);have ha1:=kp1 _ _ ha (by simp);have hb2:(upd H1 vl (.lst (vas.map V.ref++[.ref v0]))) bk=some (.ins CB dx (xb (.ref vl) (.ref al))):=by rw[ah (bV hb1 hv1 (by intro z;cases z))];exact hb1
  have e2:vas.map V.ref++[.ref v0]=(vas++[v0]).map V.ref:=by rw[List.map_append];rfl
  refine⟨vl,rfl,_,hv1,by rw[List.length_map];omega,?_⟩;refine⟨CB,dx,_,hb2,T.cl,T.nv,_,dz _ _,vas.length+1,.inl ⟨_,aP.of aa,by simp⟩,?_⟩;have en:V.int (((vas.length+1:Nat):Int) - 1)=nV ves.length:=by
   unfold nV;congr 1;omega
  rw[en];refine k _ ⟨⟨dx,hb2⟩,⟨vas++[v0],by rw[aa,e2],bK (Paired.imp' (fun a v x=>(x.kp kp1).put hv1 _) hp) ⟨⟨dxv,?_⟩,(Tv.kp kp1).put hv1 _⟩⟩,by rw[ah ne.symm];exact ha1,ne⟩ fun c o hc hn=>?_
  ·rw[ah (bV hv0 hv1 (by intro z;cases z))];exact hv0
  ·rw[ah (fun z=>hn (by simp[z]))]
   exact kp1 c o hc (by simp)
end
end
section
structure xc (H:Hp) (φ:Nat->Addr) (g:Nm->Option Addr) (nd:Nd) (st:Nat):Prop where
 inj:∀ s t,0<s->s<=st->0<t->t<=st->φ s=φ t->s=t
 al:∀ s,0<s->s<=st->(H (φ s)).isSome=true
 eq:∀ b,g b=(aq nd b).map φ
 le:∀ b s,aq nd b=some s->0<s/\s<=st
noncomputable def mh (H:Hp) (g:Nm->Option Addr) (nd:Nd) (st:Nat) (H':Hp) (g':Nm->Option Addr) (nd':Nd) (st':Nat):Prop :=
 st<=st'/\∀ φ,xc H φ g nd st->∃ φ':Nat->Addr,(∀ s,s<=st->φ' s=φ s)/\xc H' φ' g' nd' st'
noncomputable def Ck (H H':Hp):Prop:=∀ a,(H a).isSome=true->(H' a).isSome=true
section
variable {H H1 H2 H':Hp}{g g1 g2 g':Nm->Option Addr}{nd nd1 nd2 nd':Nd}{st st1 st2 st':Nat}{φ:Nat->Addr}
theorem jL (k:Kp H H' []):Ck H H':=fun a h=>by
 obtain⟨o,e⟩:=Option.isSome_iff_exists.mp h;rw[k a o e (by simp)]
 rfl
theorem xc.Cv (h:xc H φ g nd st) (k:Ck H H'):xc H' φ g nd st:=⟨h.inj,fun s a b=>k _ (h.al s a b),h.eq,h.le⟩
theorem mh.refl (k:Ck H H'):mh H g nd st H' g nd st:=⟨Nat.le_refl _,fun φ h=>⟨φ,fun _ _=>rfl,h.Cv k⟩⟩
theorem mh.trans (a:mh H g nd st H1 g1 nd1 st1) (b:mh H1 g1 nd1 st1 H2 g2 nd2 st2):mh H g nd st H2 g2 nd2 st2 :=
 ⟨Nat.le_trans a.1 b.1,fun φ h=>by
  obtain⟨φ1,e1,h1⟩:=a.2 φ h;obtain⟨φ2,e2,h2⟩:=b.2 φ1 h1;exact⟨φ2,fun s hs=>(e2 s (Nat.le_trans hs a.1)).trans (e1 s hs),h2⟩⟩
theorem xc.iff (h:xc H φ g nd st) (h':xc H φ g' nd' st) (b:Nm):aq nd b=aq nd' b↔g b=g' b:=by
 rw[h.eq,h'.eq];constructor
 ·intro e;rw[e]
 ·intro e
  cases e1:aq nd b with
  | none =>
   rw[e1] at e
   cases e2:aq nd' b with
   | none=>rfl
   | some t=>rw[e2] at e;cases e
  | some s =>
   rw[e1] at e
   cases e2:aq nd' b with
   | none=>rw[e2] at e;cases e
   | some t =>
    rw[e2] at e;have z:=Option.some.inj e;rw[h.inj s t (h.le b s e1).1 (h.le b s e1).2 (h'.le b t e2).1 (h'.le b t e2).2 z]
structure Cq (H:Hp) (φ:Nat->Addr) (g g':Nm->Option Addr) (done:List Nm) (s:Nat) (nd:Nd):Prop where
 inj:∀ s1 t,0<s1->s1<=s->0<t->t<=s->φ s1=φ t->s1=t
 al:∀ t,0<t->t<=s->(H (φ t)).isSome=true\/∃ b∈done,g' b=some (φ t)
 new:∀ b,b∈done->g' b=(aq nd b).map φ
 old:∀ b,b∉done->g b=(aq nd b).map φ
 le:∀ b t,aq nd b=some t->0<t/\t<=s
theorem vB {done:List Nm}{b:Nm} (hb:b∉done) (e:g' b=none) (h:Cq H φ g g' done st nd):Cq H φ g g' (done++[b]) st (cW nd b):=by
 refine⟨h.inj,fun t a c=>?_,fun x hx=>?_,fun x hx=>?_,fun x t q=>?_⟩
 ·rcases h.al t a c with z|⟨y,hy,z⟩
  ·exact .inl z
  ·exact .inr ⟨y,List.mem_append_left _ hy,z⟩
 ·rw[cZ]
  by_cases q:x=b
  ·rw[if_pos q,q,e];rfl
  ·rw[if_neg q]
   exact h.new x ((List.mem_append.mp hx).resolve_right fun z=>q (List.mem_singleton.mp z))
 ·rw[cZ,if_neg fun z=>hx (List.mem_append_right _ (List.mem_singleton.mpr z))]
  exact h.old x fun z=>hx (List.mem_append_left _ z)
 ·rw[cZ] at q
  split at q
  ·cases q
  ·exact h.le x t q
theorem xU {done:List Nm}{b n:Nm}{a:Addr} (N:ED n H g g') (hn:b <+: n) (hd:∀ x∈done,x <+: n) (hb:b∉done) (e:g' b=some a) (h:Cq H φ g g' done st nd) :
  Cq H (fun t=>if t=st+1 then a else φ t) g g' (done++[b]) (st+1) (dj nd b (st+1)):=by
 have far:∀ t,0<t->t<=st->a≠φ t:=fun t h1 h2 z=>by
  rcases h.al t h1 h2 with q|⟨y,hy,q⟩
  ·rw[<- z,N.new b a hn e] at q;cases q
  ·rw[<- z] at q
   exact hb (N.inj b y a hn (hd y hy) e q ▸ hy)
 have keep:∀ t,t<=st->(if t=st+1 then a else φ t)=φ t:=fun t ht=>if_neg (by omega);have mp:∀ {o:Option Nat},(∀ t,o=some t->t<=st)->o.map (fun t=>if t=st+1 then a else φ t)=o.map φ:=fun {o} ho=>by
  cases o with
  | none=>rfl
  | some t=>exact congrArg some (keep t (ho t rfl))
 refine⟨fun s t a1 a2 b1 b2 z=>?_,fun t h1 h2=>?_,fun x hx=>?_,fun x hx=>?_,fun x t q=>?_⟩
 ·by_cases c1:s=st+1
  ·by_cases c2:t=st+1
   ·rw[c1,c2]
   ·rw[if_pos c1,if_neg c2] at z
    exact absurd z (far t b1 (by omega))
  ·by_cases c2:t=st+1
   ·rw[if_neg c1,if_pos c2] at z
    exact absurd z.symm (far s a1 (by omega))
   ·rw[if_neg c1,if_neg c2] at z
    exact h.inj s t a1 (by omega) b1 (by omega) z
 ·by_cases c:t=st+1
  ·rw[if_pos c]
   exact .inr ⟨b,List.mem_append_right _ (List.mem_singleton.mpr rfl),e⟩
  ·rw[if_neg c]
   rcases h.al t h1 (by omega) with z|⟨y,hy,z⟩
   ·exact .inl z
   ·exact .inr ⟨y,List.mem_append_left _ hy,z⟩
 ·rw[di]
  by_cases q:x=b
  ·rw[if_pos q,q,e]
   exact congrArg some (if_pos rfl).symm
  ·rw[if_neg q,mp fun t ht=>(h.le x t ht).2]
   exact h.new x ((List.mem_append.mp hx).resolve_right fun z=>q (List.mem_singleton.mp z))
 ·rw[di,if_neg fun z=>hx (List.mem_append_right _ (List.mem_singleton.mpr z)),mp fun t ht=>(h.le x t ht).2]
  exact h.old x fun z=>hx (List.mem_append_left _ z)
 ·rw[di] at q
  split at q
  ·cases q;exact⟨Nat.succ_pos _,Nat.le_refl _⟩
  ·have:=h.le x t q
   omega
theorem ki {n:Nm}{M:Mp} (N:ED n H g g') (hg:∀ b,b <+: n->((g' b).isSome=true↔vS M b)):∀ (L done:List Nm) (k s:Nat) (nd:Nd) (φ:Nat->Addr),(∀ b∈L,b <+: n)->(∀ b∈done,b <+: n)->L.Nodup->(∀ b∈L,b∉done)->Cq H φ g g' done s nd ->
  s<=(L.foldl (bF M) (k,s,nd)).2.1/\∃ φ':Nat->Addr,(∀ t,t<=s->φ' t=φ t)/\Cq H φ' g g' (done++L) (L.foldl (bF M) (k,s,nd)).2.1 (L.foldl (bF M) (k,s,nd)).2.2
 | [],done,k,s,nd,φ,_,_,_,_,h=>⟨Nat.le_refl _,φ,fun _ _=>rfl,by rw[List.append_nil];exact h⟩
 | b::L,done,k,s,nd,φ,h1,h2,h3,h4,h=>by
  obtain⟨n1,n2⟩:=List.nodup_cons.mp h3;have hb:=h1 b List.mem_cons_self;have nb:=h4 b List.mem_cons_self;have ap:done++b::L=done++[b]++L:=by simp
  have d2:∀ x∈done++[b],x <+: n:=fun x hx=>(List.mem_append.mp hx).elim (h2 x) fun z=>List.mem_singleton.mp z ▸ hb;have d4:∀ x∈L,x∉done++[b]:=fun x hx z=>(List.mem_append.mp z).elim (h4 x (List.mem_cons_of_mem _ hx)) fun z=>n1 (List.mem_singleton.mp z ▸ hx);have d1:∀ x∈L,x <+: n:=fun x hx=>h1 x (List.mem_cons_of_mem _ hx);have hq:=(hg b hb).trans (oi M b).symm;rw[ap,List.foldl_cons]
  cases eB:kz M b with
  | false =>
   have em:(M.all fun p=>!b.isPrefixOf p.1)=true:=by
    unfold kz at eB
    simpa using eB
   have eg:g' b=none:=by
    cases eg:g' b with
    | none=>rfl
    | some a=>rw[eg,eB] at hq;exact absurd (hq.mp rfl) (by simp)
   have es:bF M (k,s,nd) b=(k,s,cW nd b):=if_pos em;rw[es];exact ki N hg L (done++[b]) k s (cW nd b) φ d1 d2 n2 d4 (vB nb eg h)
  | true =>
   have em:¬ (M.all fun p=>!b.isPrefixOf p.1)=true:=fun z=>by
    unfold kz at eB;rw[z] at eB
    cases eB
   obtain⟨a,eg⟩:=Option.isSome_iff_exists.mp (hq.mpr eB);have es:bF M (k,s,nd) b=(k+1,s+1,dj nd b (s+1)):=if_neg em;rw[es];obtain⟨q1,φ',q2,q3⟩:=ki N hg L (done++[b]) (k+1) (s+1) (dj nd b (s+1)) _ d1 d2 n2 d4 (xU N hb h2 nb eg h);exact⟨by omega,φ',fun t ht=>(q2 t (by omega)).trans (if_neg (by omega)),q3⟩
theorem sf {CN:Addr}{m:Mp}{n:Nm}{to:Option Nm}{k:Nat} (ch:EY CN H H' m g n to g' k) (kp:Kp H H' []) (nd:Nd) (st:Nat):mh H g nd st H' g' (bu m nd st n to).nd (bu m nd st n to).st:=by
 rcases ch.new with ⟨q,rfl⟩|⟨q,N⟩
 ·rw[iA q]
  exact mh.refl (jL kp)
 ·have T:=ch.tree
  rw[show vP m n to=bP m n to from if_neg q] at T;have e:bu m nd st n to=⟨((bq n).foldl (bF (bP m n to)) (0,st,nd)).1,((bq n).foldl (bF (bP m n to)) (0,st,nd)).2.1,bP m n to,((bq n).foldl (bF (bP m n to)) (0,st,nd)).2.2⟩:=if_neg q;rw[e];have go:=fun φ (h:xc H φ g nd st)=>ki N (fun b _=>(T b).2) (bq n) [] 0 st nd φ (fun b hb=>cn.mp hb) (fun b hb=>by cases hb) (jZ n) (fun b _ z=>by cases z) ⟨h.inj,fun t a b=>.inl (h.al t a b),(fun b hb=>by cases hb),fun b _=>h.eq b,h.le⟩;have mono:∀ (M:Mp) (L:List Nm) (a:Nat×Nat×Nd),a.2.1<=(L.foldl (bF M) a).2.1:=fun M L=>by
   induction L with
   | nil=>intro a;exact Nat.le_refl _
   | cons b L ih =>
    intro a;rw[List.foldl_cons];refine Nat.le_trans ?_ (ih _);unfold bF
    split
    ·exact Nat.le_refl _
    ·exact Nat.le_succ _
  refine⟨mono _ _ (0,st,nd),fun φ h=>?_⟩;obtain⟨_,φ',e1,F⟩:=go φ h;refine⟨φ',e1,F.inj,fun t a b=>?_,fun b=>?_,F.le⟩
  ·rcases F.al t a b with z|⟨y,_,z⟩
   ·exact (jL kp) _ z
   ·have:=(T y).1
    rw[z] at this;exact jN this
  ·by_cases hb:b <+: n
   ·exact F.new b (by rw[List.nil_append];exact cn.mpr hb)
   ·rw[N.old b hb]
    exact F.old b fun z=>hb (cn.mp (by rwa [List.nil_append] at z))
theorem wL {CN CV CB bk vl al:Addr}{ves:List ee}{as:List V} (k:Kp H H' [vl]) (b:fR CN CV CB H' bk vl al ves as):Ck H H':=fun a h=>by
 by_cases e:a=vl
 ·obtain⟨_,q,_⟩:=b.ve
  rw[e,q];rfl
 ·obtain⟨o,z⟩:=Option.isSome_iff_exists.mp h
  rw[k a o z (by simp[e])];rfl
theorem yj {p:Addr}{o:HO}:Ck H (upd H p o):=fun a h=>by
 by_cases e:a=p
 ·rw[e,aa];rfl
 ·rw[ah e];exact h
noncomputable def yW (H:Hp) (ves:List ee) (ns:List Nd) (st:Nat):Prop:=∃ φ:Nat->Addr,∀ (i:Nat) v nd,ves[i]?=some v->ns[i]?=some nd->xc H φ v.g nd st
theorem yW.Cv {ves:List ee}{ns:List Nd} (h:yW H ves ns st) (k:Ck H H'):yW H' ves ns st:=let ⟨φ,h⟩:=h;⟨φ,fun i v nd h1 h2=>(h i v nd h1 h2).Cv k⟩
theorem D2:yW H [V0] [[]] 0:=⟨fun _=>0,fun i v nd h1 h2=>by
 rw[ed h1,ed h2];exact⟨fun s t a b=>by omega,fun s a b=>by omega,fun b=>rfl,fun b s z=>by cases z⟩⟩
theorem yW.more {ves:List ee}{ns:List Nd}{i:Nat}{v v':ee} (h:yW H ves ns st) (l:ves.length=ns.length) (hv:ves[i]?=some v) (S:mh H v.g (ns.getD i []) st H' v'.g nd' st'):yW H' (ves++[v']) (ns++[nd']) st':=by
 obtain⟨φ,h⟩:=h;have hi:i<ns.length:=by have:=(List.getElem?_eq_some_iff.mp hv).1;omega
 obtain⟨φ',e,A⟩:=S.2 φ (h i v _ hv (by simp[List.getD,hi]));refine⟨φ',fun j w nd h1 h2=>?_⟩;rcases cS h1 with ⟨hj,h1⟩|⟨hj,rfl⟩
 ·rcases cS h2 with ⟨_,h2⟩|⟨hk,_⟩
  ·have B:=h j w nd h1 h2
   refine⟨A.inj,A.al,fun b=>?_,fun b s z=>⟨(B.le b s z).1,Nat.le_trans (B.le b s z).2 S.1⟩⟩;rw[B.eq]
   cases z:aq nd b with
   | none=>rfl
   | some s=>exact congrArg some (e s (B.le b s z).2).symm
  ·omega
 ·rcases cS h2 with ⟨hk,_⟩|⟨_,rfl⟩
  ·omega
  ·exact A
end
end
section
section
variable {B0 newId initId:String}{bmB:List Value}
noncomputable abbrev GL:Stmt:=(inClass (top 29) 5)
noncomputable abbrev Hk:List Str:=["self","parent","name","value","change"]
theorem Fh:az Hk ["self","parent","name","value"] (ao GL):=by walk_at "s"
noncomputable def B6 (CN CV CB CNV CNN:Addr):Sp:=fun vs H Q E=>∃ (bk vl al:Addr) (ves:List ee) (as:List V) (i:Int) (n:Nm) (to:Option Nm),vs=[.ref bk,.int i,sV n,oV to]/\fR CN CV CB H bk vl al ves as/\ves.length<=1000/\n.length<=1000/\(∀ c∈n,c<128) /\
 (bx ves.length i=true->∀ H',Kp H H' []->E (.ref CNV) none H')/\(bx ves.length i=false->isNm n=false->∀ H',Kp H H' []->E (.ref CNN) none H') /\
 (bx ves.length i=false->isNm n=true->∀ (v:ee) (g':Nm->Option Addr) (k:Nat) H1 H',ves[i.toNat]?=some v->EY CN H H1 v.m v.g n to g' k->(∀ nd st,mh H v.g nd st H' g' (bu v.m nd st n to).nd (bu v.m nd st n to).st)->fR CN CV CB H' bk vl al (ves++[⟨vP v.m n to,g',some i.toNat,k⟩]) as->Kp H H' [vl]->Q (nV ves.length) H')
theorem DN {f CN CV CB CNV CNN:Addr}{fd:FuncData} (m_Book_root_at:ck P w K mg base (fz P w) 9 CB "root_at" ["self","number"] (lQ CN CV CB CNV)) (cchanged:bU P w K mg base (fz P w) 9 "changed" ["root","name","value"] (su CN CNN)) (m_Book_keep:ck P w K mg base aT 9 CB "keep" lE (mj CN CV CB))
  (F:cJ K "keep_changed" "Book.keep_changed" GL f fd):aR P w K mg base (fz P w) 10 f fd ["self","parent","name","value"] (B6 CN CV CB CNV CNN):=by
 have sc:=Fh;refine F.AB sc (fun vs H Q E h=>?_) (fun cdv A outer s H vs Q E hr h=>?_)
 ·obtain⟨_,_,_,_,_,_,_,_,rfl,_⟩:=h
  rfl
 ·obtain⟨bk,vl,al,ves,as,i,n,to,rfl,Bk,hl,hn,h128,kb,kn,kg⟩:=h
  refine⟨_,(af (aA (i:=4) sc.nd rfl (by walk_at "o") (wK cchanged hr cf (ai (cV m_Book_root_at hr cf (pv 0) (ai (pv 1) ae)) (ai (pv 2) (ai (pv 3) ae)))))
   (ak (aw (cV m_Book_keep hr eu (pv 0) (ai (aE (aF K) (pv 4) aj (fun _ _=>rfl)) (ai (pv 1) (ai (aE (aF K) (pv 4) aj (fun _ _=>rfl)) ae))))))),?_⟩
  walk_at "rd";obtain⟨dx,hb⟩:=id Bk.ob;refine⟨dx,_,hb,dt _ _ (by decide +kernel) (by decide +kernel),bk,vl,al,ves,as,i,rfl,Bk,hl,kb,fun e v hv Tv=>?_⟩;refine⟨v.m,v.g,n,to,rfl,Tv,hn,h128,kn e,fun en p g' kk H1 hp ch k1=>?_⟩;walk_at "rd";have Bk1:=Bk.kp k1;have hi0:0<=i:=by
   unfold bx at e;simp only[Bool.or_eq_false_iff,decide_eq_false_iff_not] at e;omega
  have ei:V.int i=pV (some i.toNat):=by
   show V.int i=V.int ((i.toNat:Nat):Int);congr 1;omega
  refine⟨dx,_,k1 _ _ hb (by simp),dt _ _ (by decide +kernel) (by decide +kernel),_,cE.of hp,_,rfl,_,cE.of hp,_,rfl,bk,vl,al,ves,as,⟨vP v.m n to,g',some i.toNat,kk⟩,?_,Bk1,hl,ch.tree,fun H' Bk' k2=>?_⟩
  ·rw[ei]
  ·exact kg e en v g' kk H1 H' hv ch (fun nd st=>(sf ch k1 nd st).trans (mh.refl (wL k2 Bk'))) Bk' fun c o hc hn=>k2 c o (k1 c o hc (by simp)) hn
noncomputable abbrev FL:Stmt:=(inClass (top 29) 7)
noncomputable abbrev HV:List Str:=["self","parent","pairs","root","made","name","value","change"]
theorem Gp:az HV ["self","parent","pairs"] (ao FL):=by walk_at "s"
noncomputable def Be (CN CV CB:Addr):Sp:=fun vs H Q _=>∃ (bk vl al pl:Addr) (ves:List ee) (as:List V) (o:Nat) (v:ee) (prs:List Addr) (l:List Nm) (mt:Mp) (nd:Nd) (st:Nat),vs=[.ref bk,.int (o:Int),.ref pl]/\fR CN CV CB H bk vl al ves as/\ves.length<=1000/\ves[o]?=some v /\
 H pl=some (.lst (prs.map V.ref))/\Paired (fun a n=>H a=some (.tup [sV n,oV (aq mt n)])) prs l/\l.length<=1000/\(∀ n∈l,n.length<=1000/\isNm n=true) /\
 ∀ (g':Nm->Option Addr) H',fR CN CV CB H' bk vl al (ves++[⟨(l.foldl (aQ mt) ⟨0,st,v.m,nd⟩).m,g',some o,(l.foldl (aQ mt) ⟨0,st,v.m,nd⟩).made⟩]) as->mh H v.g nd st H' g' (l.foldl (aQ mt) ⟨0,st,v.m,nd⟩).nd (l.foldl (aQ mt) ⟨0,st,v.m,nd⟩).st->Kp H H' [vl]->Q (nV ves.length) H'
structure HC (CN CV CB:Addr) (H:Hp) (bk vl al pl:Addr) (ves:List ee) (as:List V) (o:Nat) (v:ee) (l:List Nm) (mt:Mp) (nd:Nd) (st:Nat) (i:Nat) (σ:L2.St) (H2:Hp):Prop where
 ls:∃ (g:Nm->Option Addr) (x y z:Option V),σ=[some (.ref bk),some (.int (o:Int)),some (.ref pl),some (pt (g [])),some (nV ((l.take i).foldl (aQ mt) ⟨0,st,v.m,nd⟩).made),x,y,z]/\Tree CN H2 ((l.take i).foldl (aQ mt) ⟨0,st,v.m,nd⟩).m g/\mh H v.g nd st H2 g ((l.take i).foldl (aQ mt) ⟨0,st,v.m,nd⟩).nd ((l.take i).foldl (aQ mt) ⟨0,st,v.m,nd⟩).st
 kp:Kp H H2 []
theorem D9 {f CN CV CB CNV CNN:Addr}{fd:FuncData} (m_Book_root_at:ck P w K mg base (fz P w) 9 CB "root_at" ["self","number"] (lQ CN CV CB CNV)) (cchanged:bU P w K mg base (fz P w) 9 "changed" ["root","name","value"] (su CN CNN)) (m_Book_keep:ck P w K mg base aT 9 CB "keep" lE (mj CN CV CB))
  (F:cJ K "keep_all_changed" "Book.keep_all_changed" FL f fd):aR P w K mg base aT 10 f fd ["self","parent","pairs"] (Be CN CV CB):=by
 have sc:=Gp;walk_at "f"
 ·obtain⟨_,_,_,_,_,_,_,_,_,_,_,_,_,rfl,_⟩:=h
  rfl
 ·obtain⟨bk,vl,al,pl,ves,as,o,v,prs,l,mt,nd,st,rfl,Bk,hl,hv,hpl,hpr,hll,hln,k⟩:=h
  refine⟨_,(af (aA (i:=3) sc.nd rfl (by walk_at "o") (cV m_Book_root_at hr e_ (pv 0) (ai (pv 1) ae)))
   (af (aA (i:=4) sc.nd rfl (by walk_at "o") aj)
   (af (dv PassesOwn.never rfl (bI K (pv 2)) (mw K (n:=2) rfl (cw (aI (i:=5) sc.nd rfl (by walk_at "o")) (cw (aI (i:=6) sc.nd rfl (by walk_at "o")) ja))) (af (aA (i:=7) sc.nd rfl (by walk_at "o") (wK cchanged hr e_ (ai (pv 3) (ai (pv 5) (ai (pv 6) ae)))))
    (af (aA (i:=3) sc.nd rfl (by walk_at "o") (aE (aF K) (pv 7) aj (fun _ _=>rfl)))
    (ak (uZ (i:=4) sc.nd rfl (by walk_at "o") (aE (aF K) (pv 7) aj (fun _ _=>rfl)) vK)))))
   (ak (aw (cV m_Book_keep hr eu (pv 0) (ai (pv 3) (ai (pv 1) (ai (pv 4) ae))))))))),?_⟩
  walk_at "rd";obtain⟨dx,hb⟩:=id Bk.ob;have ov:o<ves.length:=(List.getElem?_eq_some_iff.mp hv).1;have eb:bx ves.length (o:Int)=false:=by
   unfold bx;simp only[Bool.or_eq_false_iff,decide_eq_false_iff_not];omega
  refine⟨dx,_,hb,dt _ _ (by decide +kernel) (by decide +kernel),bk,vl,al,ves,as,o,rfl,Bk,hl,(fun e=>absurd e (by rw[eb];simp)),fun _ v' hv' Tv=>?_⟩;rw[Int.toNat_natCast,hv] at hv'
  cases hv';have lp:=aN hpr;refine⟨⟨_,aP.of hpl⟩,cC (xs:=prs.map V.ref) (HC CN CV CB H bk vl al pl ves as o v l mt nd st) ⟨⟨v.g,none,none,none,rfl,Tv,mh.refl fun _ z=>z⟩,Kp.refl _ _⟩ (fun i σ H2 iv=>aP.of (iv.kp _ _ hpl (by simp))) (fun i x σ H2 hx iv=>?_) (fun σ H2 iv=>?_)⟩
  ·obtain⟨⟨g,x1,y1,z1,rfl,Tg,Sg⟩,kp⟩:=iv
   rw[List.getElem?_map] at hx;obtain⟨a,ha,rfl⟩:=Option.map_eq_some_iff.mp hx;obtain⟨n,hn,hat⟩:=da hpr ha;have hat2:=kp _ _ hat (by simp);have ln:=hln n (List.mem_of_getElem? hn);walk_at "rd";have t128:∀ c∈n,c<128:=fun c hc=>by
    have:=of_decide_eq_true (List.all_eq_true.mp ln.2 c hc);omega
   refine⟨_,cE.of hat2,rfl,_,_,rfl,_,_,rfl,rfl,_,g,n,aq mt n,rfl,Tg,ln.1,t128,(fun e=>absurd e (by rw[ln.2];simp)),fun _ p g' kk H3 hp ch k3=>?_⟩;refine⟨p,rfl,_,cE.of hp,_,rfl,p,rfl,_,cE.of hp,_,rfl,_,_,rfl,rfl,⟨g',some (sV n),some (oV (aq mt n)),some (V.ref p),?_,?_,?_⟩,kp.trans k3⟩
   ·rw[List.take_add_one,hn,Option.toList_some,List.foldl_append]
    have e:=ch.made ((l.take i).foldl (aQ mt) ⟨0,st,v.m,nd⟩).nd ((l.take i).foldl (aQ mt) ⟨0,st,v.m,nd⟩).st;rw[<- e]
    rfl
   ·rw[List.take_add_one,hn,Option.toList_some,List.foldl_append]
    show Tree CN H3 (bu _ _ _ n (aq mt n)).m g';rw[om];exact ch.tree
   ·rw[List.take_add_one,hn,Option.toList_some,List.foldl_append]
    exact Sg.trans (sf ch k3 _ _)
  ·obtain⟨⟨g,x1,y1,z1,rfl,Tg,Sg⟩,kp⟩:=iv
   rw[List.length_map,lp,List.take_of_length_le (Nat.le_refl _)] at Tg Sg;rw[List.length_map,lp,List.take_of_length_le (Nat.le_refl _)];walk_at "rd";have Bk2:=Bk.kp kp;exact⟨dx,_,kp _ _ hb (by simp),dt _ _ (by decide +kernel) (by decide +kernel),bk,vl,al,ves,as,⟨_,g,some o,_⟩,rfl,Bk2,hl,Tg,fun H' Bk' k2=>k g H' Bk' (Sg.trans (mh.refl (wL k2 Bk'))) fun c o hc hn=>k2 c o (kp c o hc (by simp)) hn⟩
noncomputable abbrev Dd:Stmt:=(inClass (top 29) 6)
noncomputable abbrev GB:List Str:=["self","base","one","two","rows","clashes"]
theorem GI:az GB ["self","base","one","two"] (ao Dd):=by walk_at "s"
theorem nH:(["row"]:List Str).Nodup:=by decide +kernel
structure yp (vb vo vt:ee) (U:List Nm):Prop where
 bd:w_ vo.m vt.m U
 n1:aO vb.m
 n2:aO vo.m
 n3:aO vt.m
 nm:wO vo.m/\wO vt.m
noncomputable def Aj (CN CV CB CNV:Addr):Sp:=fun vs H Q E=>∃ (bk vl al:Addr) (ves:List ee) (as:List V) (ib io it:Int) (nd:Nd) (st:Nat),vs=[.ref bk,.int ib,.int io,.int it]/\fR CN CV CB H bk vl al ves as/\ves.length<=1000 /\
 ((bx ves.length ib || bx ves.length io || bx ves.length it)=true->∀ H',Kp H H' []->E (.ref CNV) none H') /\
 ((bx ves.length ib || bx ves.length io || bx ves.length it)=false->∃ vb vo vt U,ves[ib.toNat]?=some vb/\ves[io.toNat]?=some vo/\ves[it.toNat]?=some vt/\yp vb vo vt U /\
  (cX vb.m vo.m vt.m≠[]->∀ v H',gx (fun r=>H r=none) H' v (cX vb.m vo.m vt.m)->Kp H H' []->Q v H') /\
  (cX vb.m vo.m vt.m=[]->∀ (g':Nm->Option Addr) H',fR CN CV CB H' bk vl al (ves++[⟨(bQ vb.m vo.m vt.m nd st).m,g',some io.toNat,(bQ vb.m vo.m vt.m nd st).made⟩]) as->mh H vo.g nd st H' g' (bQ vb.m vo.m vt.m nd st).nd (bQ vb.m vo.m vt.m nd st).st->Kp H H' [vl]->Q (nV ves.length) H'))
noncomputable def pY (H:Hp):V->Option V
 | .ref a=>(match H a with
  | some (.tup [_,b,o,_])=>if b=o then none else some (.ref a)
  | _=>none)
 | _=>none
theorem lg {H:Hp}{a:Addr}{r:Row} (h:H a=some (.tup (gN r))):pY H (.ref a)=if r.2.1=r.2.2.1 then none else some (.ref a):=by
 show (match H a with
  | some (.tup [_,b,o,_])=>if b=o then none else some (V.ref a)
  | _=>none)=_
 rw[h];show (if oV r.2.1=oV r.2.2.1 then none else some (V.ref a))=_
 by_cases q:r.2.1=r.2.2.1
 ·rw[if_pos q,if_pos (dQ.mpr q)]
 ·rw[if_neg q,if_neg (fun z=>q (dQ.mp z))]
theorem ji {H:Hp}:∀ {rs:List Addr}{rows:List Row},gf H rs rows->∃ cs:List Addr,(rs.map V.ref).filterMap (pY H)=cs.map V.ref/\gf H cs (rows.filter fun r=>decide (r.2.1≠r.2.2.1))
 | _,_,.nil=>⟨[],rfl,.nil⟩
 | a::rs,r::rows,.cons h t=>by
  obtain⟨cs,e,p⟩:=ji t;rw[List.map_cons,List.filterMap_cons,lg h,List.filter_cons]
  by_cases q:r.2.1=r.2.2.1
  ·rw[if_pos q,if_neg (by simp[q])]
   exact⟨cs,e,p⟩
  ·rw[if_neg q,if_pos (by simp[q])]
   exact⟨a::cs,by rw[List.map_cons,e],.cons h p⟩
structure HM (H2:Hp) (mt:Mp) (l:List Nm) (i:Nat) (ys:List V) (H':Hp):Prop where
 ex:∃ ps:List Addr,ys=ps.map V.ref/\ps.length=i/\Paired (fun a n=>H' a=some (.tup [sV n,oV (aq mt n)])) ps (l.take i)
 kp:Kp H2 H' []
theorem CQ {f CN CV CB CNV:Addr}{fd:FuncData} (B:Bl mg) (m_Book_root_at:ck P w K mg base (fz P w) 11 CB "root_at" ["self","number"] (lQ CN CV CB CNV)) (crows_to_join:bU P w K mg base aT 11 "rows_to_join" ["base","one","two"] (BB CN)) (m_Book_keep_all_changed:ck P w K mg base aT 11 CB "keep_all_changed" ["self","parent","pairs"] (Be CN CV CB))
  (F:cJ K "keep_joined" "Book.keep_joined" Dd f fd):aR P w K mg base (fz P w) 12 f fd ["self","base","one","two"] (Aj CN CV CB CNV):=by
 have sc:=GI;refine F.AB sc (fun vs H Q E h=>?_) (fun cdv A outer s H vs Q E hr h=>?_)
 ·obtain⟨_,_,_,_,_,_,_,_,_,_,rfl,_⟩:=h
  rfl
 ·obtain⟨bk,vl,al,ves,as,ib,io,it,nd,st,rfl,Bk,hl,kb,kg⟩:=h
  have hs:=sizeLine_eq;refine⟨_,(af (aA (i:=4) sc.nd rfl (by walk_at "o") (bJ crows_to_join hr (ai (cV m_Book_root_at hr cf (pv 0) (ai (pv 1) ae)) (ai (cV m_Book_root_at hr cf (pv 0) (ai (pv 2) ae)) (ai (cV m_Book_root_at hr cf (pv 0) (ai (pv 3) ae)) ae)))))
   (af (mv (i:=5) (N':=["row"]) (ix:=[none]) sc.nd rfl rfl rfl ?S1 (bI K (pv 4)) (fun cl C fp s H=>(aI (i:=0) nH rfl (by walk_at "o"))) (fun cl C fp s H=>(eY (aG dY (aE (aF K) (pv 0) aj (fun _ _=>rfl)) (aE (aF K) (pv 0) aj (fun _ _=>rfl)) (aH _)))) (fun cl C fp s H=>(pv 0)))
   (af (eX (aG zk (bg (aX K) rfl B.len boot_len (ai (pv 5) ae)) aj (aH _)) (ak (aw (cm (ai au (ai (pv 5) ae))))) aJ)
   (ak (aw (cV m_Book_keep_all_changed hr eu (pv 0) (ai (pv 2) (ai (cI (N':=["row"]) (ix:=[none]) rfl ?S2 (bI K (pv 4)) (fun cl C fp s H=>(aI (i:=0) nH rfl (by walk_at "o"))) (fun cl C fp s H=>dZ) (fun cl C fp s H=>(cm (ai (aE (aF K) (pv 0) aj (fun _ _=>rfl)) (ai (aE (aF K) (pv 0) aj (fun _ _=>rfl)) ae))))) ae)))))))),?_⟩
  case S1=>exact nL.is (N:=GB) (osc:=ao Dd) (by decide +kernel)
  case S2=>exact nL.is (N:=GB) (osc:=ao Dd) (by decide +kernel)
  walk_at "rd";obtain⟨dx,hb⟩:=id Bk.ob;have no:∀ {m:Str},¬ m="answers"->¬ m="versions"->(xb (.ref vl) (.ref al)).lookup m=none:=fun h1 h2=>dt _ _ h1 h2;refine⟨dx,_,hb,no (by decide +kernel) (by decide +kernel),bk,vl,al,ves,as,ib,rfl,Bk,hl,(fun e=>kb (by rw[e];rfl)),fun e1 vb hvb Tb=>?_⟩;refine⟨dx,_,hb,no (by decide +kernel) (by decide +kernel),bk,vl,al,ves,as,io,rfl,Bk,hl,(fun e=>kb (by rw[e];simp)),fun e2 vo hvo To=>?_⟩;refine⟨dx,_,hb,no (by decide +kernel) (by decide +kernel),bk,vl,al,ves,as,it,rfl,Bk,hl,(fun e=>kb (by rw[e];simp)),fun e3 vt hvt Tt=>?_⟩;obtain⟨vb',vo',vt',U,q1,q2,q3,J,kc,kd⟩:=kg (by rw[e1,e2,e3];rfl);rw[hvb] at q1;rw[hvo] at q2;rw[hvt] at q3
  cases q1
  cases q2
  cases q3;refine⟨vb.m,vo.m,vt.m,vb.g,vo.g,vt.g,U,rfl,⟨Tb,To,Tt⟩,J.bd,J.n1,J.n3,fun r rs H1 hr1 hrw k1=>?_⟩;have alen:=ie (mb:=vb.m) J.bd J.n1 J.n3;have rl:=aN hrw;rw[List.length_map] at rl;refine⟨r,rfl,⟨_,aP.of hr1⟩,eU (xs:=rs.map V.ref) (pY H1) (aP.of hr1) (by rw[List.length_map];omega) (fun x hx R R' r1 r2=>?_) ?_⟩
  ·obtain⟨a,ha,rfl⟩:=List.mem_map.mp hx
   obtain⟨row,_,hat⟩:=fT hrw a ha;refine⟨Wk.set rfl,?_⟩;walk_at "rd";refine⟨_,cE.of hat,oV row.2.1,rfl,_,cE.of hat,oV row.2.2.1,rfl,gw _ _,?_⟩;have cr:=lg hat
   by_cases q:row.2.1=row.2.2.1
   ·rw[if_pos q] at cr
    rw[if_neg (by rw[q];simp)];exact r2 cr
   ·rw[if_neg q] at cr
    rw[if_pos (by simp[dQ,q])];exact r1 _ cr
  ·intro d hd
   obtain⟨cs,ec,pc⟩:=ji hrw;rw[ec];have erows:((bR vb.m vo.m vt.m).map (fA vb.m vo.m vt.m)).filter (fun r=>decide (r.2.1≠r.2.2.1))=cX vb.m vo.m vt.m:=by
    rw[vH J.n1 J.n2 J.n3,List.filter_map]
    rfl
   rw[erows] at pc;have cl:=aN pc;have k2:Kp H1 (upd H1 d (.lst (cs.map V.ref))) []:=(Kp.refl H1 []).new hd;have f1:(upd H1 d (.lst (cs.map V.ref))) d=some (.lst (cs.map V.ref)):=aa;have f2:=dE pc k2;have f3:=k2 _ _ hr1 (by simp);have f4:=dE hrw k2;have k3:=k1.trans k2;generalize upd H1 d (.lst (cs.map V.ref))=H2 at k2 f1 f2 f3 f4 k3 ⊢;refine⟨cs.length,.inl ⟨_,aP.of f1,by rw[List.length_map]⟩,?_⟩
   by_cases q:cX vb.m vo.m vt.m=[]
   ·have c0:cs.length=0:=by rw[cl,q];rfl
    rw[if_neg (by rw[c0];simp)];refine⟨dx,_,k3 _ _ hb (by simp),no (by decide +kernel) (by decide +kernel),r,rfl,⟨_,aP.of f3⟩,?_⟩;refine jS (xs:=rs.map V.ref) (HM H2 vt.m (bR vb.m vo.m vt.m)) ⟨⟨[],rfl,rfl,.nil⟩,Kp.refl _ _⟩ (by rw[List.length_map];omega) ?_ ?_ ?_ ?_
    ·rintro i ys H' ⟨⟨ps,rfl,hl',_⟩,_⟩
     rw[List.length_map,hl'];exact Nat.le_refl _
    ·rintro i ys H' ⟨_,kp⟩
     exact aP.of (kp _ _ f3 (by simp))
    ·rintro i ys H' x hx ⟨⟨ps,rfl,hl',hpr⟩,kp⟩ R R' r1 r2
     rw[List.getElem?_map] at hx;obtain⟨a,ha,rfl⟩:=Option.map_eq_some_iff.mp hx;obtain⟨row,hrow,hat⟩:=da f4 ha;rw[List.getElem?_map] at hrow;obtain⟨n,hn,rfl⟩:=Option.map_eq_some_iff.mp hrow;have hat':=kp _ _ hat (by simp);refine⟨Wk.set rfl,?_⟩;walk_at "rd";refine⟨_,cE.of hat',sV n,rfl,_,cE.of hat',oV (aq vt.m n),rfl,by omega,fun t ht=>?_⟩;have k5:Kp H' (upd H' t (.tup [sV n,oV (aq vt.m n)])) []:=(Kp.refl H' []).new ht;refine r1 _ _ ⟨⟨ps++[t],by rw[List.map_append];rfl,by rw[List.length_append,hl'];rfl,?_⟩,kp.trans k5⟩;rw[List.take_add_one,hn];exact bK (Paired.imp' (fun a n x=>k5 _ _ x (by simp)) hpr) aa
    ·rintro ys H' ⟨⟨ps,rfl,hl',hpr⟩,kp⟩ d2 hd2
     rw[List.length_map,rl,List.take_of_length_le (Nat.le_refl _)] at hpr;have k5:Kp H' (upd H' d2 (.lst (ps.map V.ref))) []:=(Kp.refl H' []).new hd2;have hio:0<=io:=by
      unfold bx at e2;simp only[Bool.or_eq_false_iff,decide_eq_false_iff_not] at e2;omega
     have ei:V.int io=V.int ((io.toNat:Nat):Int):=by congr 1;omega
     have k6:=(k3.trans kp).trans k5;refine⟨bk,vl,al,d2,ves,as,io.toNat,vo,ps,bR vb.m vo.m vt.m,vt.m,nd,st,by rw[ei],Bk.kp k6,hl,hvo,aa,Paired.imp' (fun a n x=>k5 _ _ x (by simp)) hpr,by omega,fun n hn=>?_,fun g' H5 Bk' Sg k7=>?_⟩
     ·have h2:=(dD.mp hn).2
      have hor:(aq vo.m n).isSome=true\/(aq vt.m n).isSome=true:=by
       cases e1:aq vo.m n with
       | some _=>exact .inl rfl
       | none =>
        cases e2:aq vt.m n with
        | some _=>exact .inr rfl
        | none=>rw[e1,e2] at h2;exact absurd rfl h2
      have:=J.bd.lo n (J.bd.mem n hor);exact⟨by omega,hor.elim (J.nm.1 n) (J.nm.2 n)⟩
     ·refine kd q g' H5 ?_ ?_ fun c o hc hn=>k7 c o (k6 c o hc (by simp)) hn
      ·rw[pE J.n1 J.n3]
       exact Bk'
      ·rw[pE J.n1 J.n3]
       exact (mh.refl (jL k6)).trans Sg
   ·have c1:0<cs.length:=by
     rw[cl];exact List.length_pos_iff.mpr q
    rw[if_pos (by simp;omega)];refine⟨by omega,fun p hp=>?_⟩;have k5:Kp H2 (upd H2 p (HO.tup [V.str (Str.ofString "clash"),V.ref d])) []:=(Kp.refl H2 []).new hp;exact kc q _ _ ⟨p,d,cs,rfl,k1.free hd (by simp),aa,k5 _ _ f1 (by simp),dE f2 k5⟩ (k3.trans k5)
end
end
section
section
variable {B0 newId initId:String}{bmB:List Value}
structure nK (CN CV CB:Addr) (H:Hp) (bk vl al:Addr) (k:Nat) (S:LS) (ves:List ee) (as:List V):Prop where
 bk:fR CN CV CB H bk vl al ves as
 ms:ves.map (·.m)=S.ms
 par:ves.map (·.p)=S.par
 day:dO k S
 nm:Cw S
 sp:yW H ves S.ns S.st
noncomputable def fM (ves:List ee) (a:yb) (md:Nat):Prop:=match a with
 | .ver n=>∃ v,ves[n]?=some v/\v.k=md
 | _=>md=0
theorem nK.len {CN CV CB:Addr}{H:Hp}{bk vl al:Addr}{k:Nat}{S:LS}{ves:List ee}{as:List V} (b:nK CN CV CB H bk vl al k S ves as):ves.length=S.ms.length:=by rw[<- b.ms,List.length_map]
theorem jy {S:LS}{ves:List ee} (h:ves.length=S.ms.length) (i:Int):bx ves.length i=(decide (i<0) || decide ((S.ms.length:Int)<=i)):=by unfold bx;rw[h]
theorem nK.at {CN CV CB:Addr}{H:Hp}{bk vl al:Addr}{k:Nat}{S:LS}{ves:List ee}{as:List V} (b:nK CN CV CB H bk vl al k S ves as) {i:Nat}{v:ee} (h:ves[i]?=some v):S.ms.getD i []=v.m/\S.ms[i]?=some v.m:=by
 have:S.ms[i]?=some v.m:=by rw[<- b.ms,List.getElem?_map,h];rfl
 exact⟨by rw[List.getD_eq_getElem?_getD,this];rfl,this⟩
noncomputable abbrev Ga:Stmt:=(inClass (top 29) 10)
theorem Gj:az ["self","deed"] ["self","deed"] (ao Ga):=by walk_at "s"
noncomputable def A1 (CN CV CB CNV CNN:Addr):Sp:=fun vs H Q E=>∃ (bk vl al d:Addr) (k:Nat) (S:LS) (ves:List ee) (as:List V) (D:bY),vs=[.ref bk,.ref d]/\nK CN CV CB H bk vl al k S ves as/\k<=62/\H d=some (.tup (bO D))/\dH D /\
 (fc S D=true->∀ H',Kp H H' []->E (.ref CNV) none H')/\(fc S D=false->gc D=true->∀ H',Kp H H' []->E (.ref CNN) none H') /\
 (fc S D=false->gc D=false->∀ (v:V) (ves':List ee) H',nK CN CV CB H' bk vl al (k+1) (aD S D).2 ves' as->cM (fun r=>H r=none) H' v (aD S D).1->(∃ md,(aD S D).2.made=S.made++[md]/\fM ves' (aD S D).1 md)->ves <+: ves'->Kp H H' [vl]->Q v H')
theorem qj:¬ (V.str (Str.ofString "take")=V.str (Str.ofString "put"))/\¬ (V.str (Str.ofString "join")=V.str (Str.ofString "put"))/\¬ (V.str (Str.ofString "join")=V.str (Str.ofString "take")):=by decide +kernel
theorem iI {CN CV CB:Addr}{H H1 H':Hp}{bk vl al:Addr}{k:Nat}{S:LS}{ves:List ee}{as:List V} (b:nK CN CV CB H bk vl al k S ves as) (hk:k<=62) {D:bY} (ok:dH D) {i:Int}{n:Nm}{to:Option Nm} (e1:fc S D=false) (e2:gc D=false)
  (eD:aD S D=(.ver S.ms.length,nN S i.toNat n to)) {v:ee} (hv:ves[i.toNat]?=some v) {g':Nm->Option Addr}{kk:Nat} (ch:EY CN H H1 v.m v.g n to g' kk) (sg:∀ nd st,mh H v.g nd st H' g' (bu v.m nd st n to).nd (bu v.m nd st n to).st) (bk':fR CN CV CB H' bk vl al (ves++[⟨vP v.m n to,g',some i.toNat,kk⟩]) as) :
  nK CN CV CB H' bk vl al (k+1) (aD S D).2 (ves++[⟨vP v.m n to,g',some i.toNat,kk⟩]) as/\cM (fun r=>H r=none) H' (nV ves.length) (aD S D).1/\∃ md,(aD S D).2.made=S.made++[md]/\fM (ves++[⟨vP v.m n to,g',some i.toNat,kk⟩]) (aD S D).1 md:=by
 have hl:=b.len;have st:=b.day.step (by omega) ok;have sn:=jb b.nm D;rw[eD] at st sn ⊢;obtain⟨g1,g2⟩:=b.at hv;refine⟨⟨bk',?_,?_,st,sn,?_⟩,?_,kk,?_,?_⟩
 ·show _=S.ms++[_]
  rw[List.map_append,b.ms,List.map_singleton,g1,om]
 ·show _=S.par++[_]
  rw[List.map_append,b.par,List.map_singleton]
 ·refine b.sp.more (by rw[hl,b.day.l2]) hv ?_
  show mh _ _ _ _ _ _ (bu (S.ms.getD i.toNat []) _ _ n to).nd (bu (S.ms.getD i.toNat []) _ _ n to).st;rw[g1];exact sg _ _
 ·show nV ves.length=nV S.ms.length
  rw[hl]
 ·show S.made++[(bu (S.ms.getD i.toNat []) _ _ n to).made]=_
  rw[g1,ch.made]
 ·exact⟨_,by rw[<- hl,List.getElem?_append_right (Nat.le_refl _),Nat.sub_self];rfl,rfl⟩
theorem CD {f CN CV CB CNV CNN:Addr}{fd:FuncData} (m_Book_keep_changed:ck P w K mg base (fz P w) 13 CB "keep_changed" ["self","parent","name","value"] (B6 CN CV CB CNV CNN)) (m_Book_keep_joined:ck P w K mg base (fz P w) 13 CB "keep_joined" ["self","base","one","two"] (Aj CN CV CB CNV))
  (F:cJ K "made_by" "Book.made_by" Ga f fd):aR P w K mg base (fz P w) 14 f fd ["self","deed"] (A1 CN CV CB CNV CNN):=by
 have sc:=Gj;refine F.AB sc (fun vs H Q E h=>?_) (fun cdv A outer s H vs Q E hr h=>?_)
 ·obtain⟨_,_,_,_,_,_,_,_,_,rfl,_⟩:=h
  rfl
 ·obtain⟨bk,vl,al,d,k,S,ves,as,D,rfl,b,hk,hd,ok,kb,kn,kg⟩:=h
  refine⟨_,(af (eX (aG dg (aE (aF K) (pv 1) aj (fun _ _=>rfl)) au (aH _)) (ak (aw (cV m_Book_keep_changed hr cf (pv 0) (ai (aE (aF K) (pv 1) aj (fun _ _=>rfl)) (ai (aE (aF K) (pv 1) aj (fun _ _=>rfl)) (ai (aE (aF K) (pv 1) aj (fun _ _=>rfl)) ae)))))) aJ)
   (af (eX (aG dg (aE (aF K) (pv 1) aj (fun _ _=>rfl)) au (aH _)) (ak (aw (cV m_Book_keep_changed hr cf (pv 0) (ai (aE (aF K) (pv 1) aj (fun _ _=>rfl)) (ai (aE (aF K) (pv 1) aj (fun _ _=>rfl)) (ai fF ae)))))) aJ)
   (ak (aw (cV m_Book_keep_joined hr cf (pv 0) (ai (aE (aF K) (pv 1) aj (fun _ _=>rfl)) (ai (aE (aF K) (pv 1) aj (fun _ _=>rfl)) (ai (aE (aF K) (pv 1) aj (fun _ _=>rfl)) ae)))))))),?_⟩
  walk_at "rd";obtain⟨dx,hb⟩:=id b.bk.ob;have no:∀ {m:Str},¬ m="answers"->¬ m="versions"->(xb (.ref vl) (.ref al)).lookup m=none:=fun h1 h2=>dt _ _ h1 h2;have hl:=b.len;have l1:=b.day.l1;have sq:cE K H d (bO D):=cE.of hd
  cases D with
  | put i n x =>
   have eV:fc S (.put i n x)=bx ves.length i:=by rw[jy hl];simp[fc,bL]
   have eN:gc (.put i n x)=!isNm n:=rfl;obtain⟨o1,o2,o3⟩:=id ok;obtain⟨nl,nc⟩:=o1 n rfl;refine⟨_,sq,_,rfl,rfl,?_⟩;rw[if_pos (by simp)];refine⟨dx,_,hb,no (by decide +kernel) (by decide +kernel),_,sq,_,rfl,_,sq,_,rfl,_,sq,_,rfl,bk,vl,al,ves,as,i,n,some x,rfl,b.bk,by omega,by omega,nc,(fun e=>kb (by rw[eV];exact e)),(fun e e'=>kn (by rw[eV];exact e) (by rw[eN,e'];rfl)),fun e e' v g' kk H1 H' hv ch sg bk' k'=>?_⟩;have eD:aD S (.put i n x)=(.ver S.ms.length,nN S i.toNat n (some x)):=by
    unfold aD;rw[if_neg (by rw[eV,e];simp),if_neg (by rw[eN,e'];simp)]
   obtain⟨r1,r2,r3⟩:=iI b hk ok (by rw[eV];exact e) (by rw[eN,e'];rfl) eD hv ch sg bk';exact kg (by rw[eV];exact e) (by rw[eN,e'];rfl) _ _ H' r1 r2 r3 (List.prefix_append _ _) k'
  | take i n =>
   have eV:fc S (.take i n)=bx ves.length i:=by rw[jy hl];simp[fc,bL]
   have eN:gc (.take i n)=!isNm n:=rfl;obtain⟨o1,o2,o3⟩:=id ok;obtain⟨nl,nc⟩:=o1 n rfl;refine⟨_,sq,_,rfl,rfl,?_⟩;rw[if_neg (by simp[qj.1])];refine⟨_,sq,_,rfl,rfl,?_⟩;rw[if_pos (by simp)];refine⟨dx,_,hb,no (by decide +kernel) (by decide +kernel),_,sq,_,rfl,_,sq,_,rfl,bk,vl,al,ves,as,i,n,none,rfl,b.bk,by omega,by omega,nc,(fun e=>kb (by rw[eV];exact e)),(fun e e'=>kn (by rw[eV];exact e) (by rw[eN,e'];rfl)),fun e e' v g' kk H1 H' hv ch sg bk' k'=>?_⟩;have eD:aD S (.take i n)=(.ver S.ms.length,nN S i.toNat n none):=by
    unfold aD;rw[if_neg (by rw[eV,e];simp),if_neg (by rw[eN,e'];simp)]
   obtain⟨r1,r2,r3⟩:=iI b hk ok (by rw[eV];exact e) (by rw[eN,e'];rfl) eD hv ch sg bk';exact kg (by rw[eV];exact e) (by rw[eN,e'];rfl) _ _ H' r1 r2 r3 (List.prefix_append _ _) k'
  | join ib io it =>
   have eV:fc S (.join ib io it)=(bx ves.length ib || bx ves.length io || bx ves.length it):=by rw[jy hl,jy hl,jy hl];simp[fc,bL,Bool.or_assoc]
   refine⟨_,sq,_,rfl,rfl,?_⟩;rw[if_neg (by simp[qj.2.1])];refine⟨_,sq,_,rfl,rfl,?_⟩;rw[if_neg (by simp[qj.2.2])];refine⟨dx,_,hb,no (by decide +kernel) (by decide +kernel),_,sq,_,rfl,_,sq,_,rfl,_,sq,_,rfl,bk,vl,al,ves,as,ib,io,it,S.ns.getD io.toNat [],S.st,rfl,b.bk,by omega,(fun e=>kb (by rw[eV];exact e)),fun e=>?_⟩;have gi:∀ {z:Int},bx ves.length z=false->∃ v,ves[z.toNat]?=some v:=fun {z} h=>by
    unfold bx at h;simp only[Bool.or_eq_false_iff,decide_eq_false_iff_not] at h;exact⟨ves[z.toNat]'(by omega),by simp[show z.toNat<ves.length by omega]⟩
   have e3:bx ves.length ib=false/\bx ves.length io=false/\bx ves.length it=false:=by
    simp only[Bool.or_eq_false_iff] at e;exact⟨e.1.1,e.1.2,e.2⟩
   obtain⟨vb,hvb⟩:=gi e3.1;obtain⟨vo,hvo⟩:=gi e3.2.1;obtain⟨vt,hvt⟩:=gi e3.2.2;obtain⟨U,u1,u2,u3⟩:=b.day.us;have gb:=b.at hvb;have go:=b.at hvo;have gt:=b.at hvt;refine⟨vb,vo,vt,U,hvb,hvo,hvt,⟨⟨by omega,u2,fun n h=>h.elim ((u3 _ _ go.2).2 n) ((u3 _ _ gt.2).2 n)⟩,(u3 _ _ gb.2).1,(u3 _ _ go.2).1,(u3 _ _ gt.2).1,b.nm _ _ go.2,b.nm _ _ gt.2⟩,fun q v H' ra k'=>?_,fun q g' H' bk' sg k'=>?_⟩
   ·have eD:aD S (.join ib io it)=(.clash (cX vb.m vo.m vt.m),{ S with made:=S.made++[0] }):=by
     unfold aD;rw[if_neg (by rw[eV,e];simp),if_neg (by show ¬ false=true;simp)];dsimp only;rw[gb.1,go.1,gt.1,if_neg q]
    refine kg (by rw[eV];exact e) rfl v ves H' ?_ ?_ ⟨0,by rw[eD],by rw[eD];exact rfl⟩ (List.prefix_refl _) fun c o hc _=>k' c o hc (by simp)
    ·have st:=b.day.step (by omega) ok
     have sn:=jb b.nm (.join ib io it);rw[eD] at st sn ⊢;exact⟨b.bk.kp k',b.ms,b.par,st,sn,b.sp.Cv (jL k')⟩
    ·rw[eD]
     exact ra
   ·have eD:aD S (.join ib io it)=(.ver S.ms.length,⟨S.ms++[(bQ vb.m vo.m vt.m (S.ns.getD io.toNat []) S.st).m],S.ns++[(bQ vb.m vo.m vt.m (S.ns.getD io.toNat []) S.st).nd],S.par++[some io.toNat],(bQ vb.m vo.m vt.m (S.ns.getD io.toNat []) S.st).st,S.made++[(bQ vb.m vo.m vt.m (S.ns.getD io.toNat []) S.st).made]⟩):=by
     unfold aD;rw[if_neg (by rw[eV,e];simp),if_neg (by show ¬ false=true;simp)];dsimp only;rw[gb.1,go.1,gt.1,if_pos q]
    refine kg (by rw[eV];exact e) rfl (nV ves.length) (ves++[⟨(bQ vb.m vo.m vt.m (S.ns.getD io.toNat []) S.st).m,g',some io.toNat,(bQ vb.m vo.m vt.m (S.ns.getD io.toNat []) S.st).made⟩]) H' ?_ ?_ ⟨_,by rw[eD],by rw[eD];exact⟨_,by rw[<- hl,List.getElem?_append_right (Nat.le_refl _),Nat.sub_self];rfl,rfl⟩⟩ (List.prefix_append _ _) k'
    ·have st:=b.day.step (by omega) ok
     have sn:=jb b.nm (.join ib io it);rw[eD] at st sn ⊢;refine⟨bk',?_,?_,st,sn,b.sp.more (by rw[hl,b.day.l2]) hvo sg⟩
     ·show _=S.ms++[_]
      rw[List.map_append,b.ms]
      rfl
     ·show _=S.par++[_]
      rw[List.map_append,b.par]
      rfl
    ·rw[eD]
     show nV ves.length=nV S.ms.length;rw[hl]
end
end
section
section
structure GZ (K:PySem.W.Frag) (CNV CNN:Addr):Prop where
 vv:PySem.W.exmOne K (.ref CNV) (.ref CNV)=some true
 nv:PySem.W.exmOne K (.ref CNN) (.ref CNV)=some false
 nn:PySem.W.exmOne K (.ref CNN) (.ref CNN)=some true
noncomputable abbrev GK:Stmt:=(inClass (top 29) 9)
theorem FE:az ["self","deed"] ["self","deed"] (ao GK):=by walk_at "s"
noncomputable def Ay (CN CV CB:Addr):Sp:=fun vs H Q _=>∃ (bk vl al d:Addr) (k:Nat) (S:LS) (ves:List ee) (as:List V) (D:bY),vs=[.ref bk,.ref d]/\nK CN CV CB H bk vl al k S ves as/\k<=62/\H d=some (.tup (bO D))/\dH D /\
 ∀ (v:V) (ves':List ee) H',nK CN CV CB H' bk vl al (k+1) (aD S D).2 ves' as->cM (fun r=>H r=none) H' v (aD S D).1->(∃ md,(aD S D).2.made=S.made++[md]/\fM ves' (aD S D).1 md)->ves <+: ves'->Kp H H' [vl]->Q v H'
theorem nK.bad {CN CV CB:Addr}{H H':Hp}{bk vl al:Addr}{k:Nat}{S:LS}{ves:List ee}{as:List V} (b:nK CN CV CB H bk vl al k S ves as) (h:Kp H H' []) (hk:k<=62) {D:bY} (ok:dH D) {a:yb} (e:aD S D=(a,{ S with made:=S.made++[0] })):nK CN CV CB H' bk vl al (k+1) (aD S D).2 ves as:=by
 have st:=b.day.step (by omega) ok;have sn:=jb b.nm D;rw[e] at st sn ⊢;exact⟨b.bk.kp h,b.ms,b.par,st,sn,b.sp.Cv (jL h)⟩
theorem C8 {f CN CV CB CNV CNN:Addr}{fd:FuncData} (X_NoVersion:mg "NoVersion"=some (.ref CNV)) (X_NoName:mg "NoName"=some (.ref CNN)) (ex:GZ K CNV CNN) (m_Book_made_by:ck P w K mg base (fz P w) 14 CB "made_by" ["self","deed"] (A1 CN CV CB CNV CNN))
  (F:cJ K "answer_to" "Book.answer_to" GK f fd):aR P w K mg base aT 15 f fd ["self","deed"] (Ay CN CV CB):=by
 have sc:=FE;walk_at "f"
 ·obtain⟨_,_,_,_,_,_,_,_,_,rfl,_⟩:=h
  rfl
 ·obtain⟨bk,vl,al,d,k,S,ves,as,D,rfl,b,hk,hd,ok,kg⟩:=h
  refine⟨_,(ak (Af ⟨rfl,rfl⟩ (fun pn E=>(ak (aw (cV m_Book_made_by hr ql (pv 0) (ai (pv 1) ae))))) (sC X_NoVersion (fun a=>(ak (aw au))) (sC X_NoName (fun a=>(ak (aw au))) yk)))),?_⟩;simp only[DT,Dz];walk_at "rd";obtain⟨dx,hb⟩:=id b.bk.ob;refine⟨dx,_,hb,dt _ _ (by decide +kernel) (by decide +kernel),bk,vl,al,d,k,S,ves,as,D,rfl,b,hk,hd,ok,?_,?_,fun _ _ v ves' H'=>kg v ves' H'⟩
  ·intro e H' k' σ' hσ
   refine⟨_,ex.vv,?_⟩;rw[if_pos rfl];have eD:aD S D=(.noV,{ S with made:=S.made++[0] }):=by
    unfold aD;rw[if_pos e]
   exact kg _ ves H' (b.bad k' hk ok eD) (by rw[eD];rfl) ⟨0,by rw[eD],by rw[eD];rfl⟩ (List.prefix_refl _) fun c o hc _=>k' c o hc (by simp)
  ·intro e e' H' k' σ' hσ
   refine⟨_,ex.nv,?_⟩;rw[if_neg (by simp)];refine⟨_,ex.nn,?_⟩;rw[if_pos rfl];have eD:aD S D=(.noN,{ S with made:=S.made++[0] }):=by
    unfold aD;rw[if_neg (by rw[e];simp),if_pos e']
   exact kg _ ves H' (b.bad k' hk ok eD) (by rw[eD];rfl) ⟨0,by rw[eD],by rw[eD];rfl⟩ (List.prefix_refl _) fun c o hc _=>k' c o hc (by simp)
noncomputable abbrev F7:Stmt:=(inClass (top 29) 8)
theorem Fo:az ["self","deed"] ["self","deed"] (ao F7):=by walk_at "s"
noncomputable def Cg (CN CV CB:Addr):Sp:=fun vs H Q _=>∃ (bk vl al d:Addr) (k:Nat) (S:LS) (ves:List ee) (as:List V) (D:bY),vs=[.ref bk,.ref d]/\nK CN CV CB H bk vl al k S ves as/\as.length=k/\k<=62/\H d=some (.tup (bO D))/\dH D /\
 ∀ (v:V) (ves':List ee) H',nK CN CV CB H' bk vl al (k+1) (aD S D).2 ves' (as++[v])->cM (fun r=>H r=none) H' v (aD S D).1->(∃ md,(aD S D).2.made=S.made++[md]/\fM ves' (aD S D).1 md)->ves <+: ves'->Kp H H' [vl,al]->Q .non H'
theorem En {f CN CV CB:Addr}{fd:FuncData} (T:Ez K CB) (m_Book_answer_to:ck P w K mg base aT 15 CB "answer_to" ["self","deed"] (Ay CN CV CB))
  (F:cJ K "do" "Book.do" F7 f fd):aR P w K mg base aT 16 f fd ["self","deed"] (Cg CN CV CB):=by
 have sc:=Fo;walk_at "f"
 ·obtain⟨_,_,_,_,_,_,_,_,_,rfl,_⟩:=h
  rfl
 ·obtain⟨bk,vl,al,d,k,S,ves,as,D,rfl,b,la,hk,hd,ok,kg⟩:=h
  have hs:=sizeLine_eq;refine⟨_,(ak (aZ (eG K PySem.F.plainAttrs_list PySem.F.slot_list_append PySem.F.type_list_append bo (aY K (pv 0) rfl) (ai (cV m_Book_answer_to hr eu (pv 0) (ai (pv 1) ae)) ae)))),?_⟩;walk_at "rd";obtain⟨dx,hb⟩:=id b.bk.ob;refine⟨CB,dx,_,hb,T.cl,T.na,_,o_ _ _,.inl ⟨rfl,_,aP.of b.bk.an⟩,dx,_,hb,dt _ _ (by decide +kernel) (by decide +kernel),bk,vl,al,d,k,S,ves,as,D,rfl,b,hk,hd,ok,fun v ves' H' b' av md pre k'=>?_⟩;have han:=b'.bk.an;refine⟨al,rfl,_,han,by omega,?_⟩;obtain⟨⟨dx',hb'⟩,⟨vas,hv,hp⟩,_,ne⟩:=id b'.bk;refine kg v ves' _ ⟨⟨⟨dx',by rw[ah (bV hb' han (by intro z;cases z))];exact hb'⟩,⟨vas,by rw[ah ne];exact hv,Paired.imp' (fun a v x=>x.put han _) hp⟩,aa,ne⟩,b'.ms,b'.par,b'.day,b'.nm,b'.sp.Cv yj⟩ ?_ md pre fun c o hc hn=>?_
  ·have hkp:Kp H' (upd H' al (.lst (as++[v]))) [al]:=fun c o hc hn=>by
    rw[ah (fun z=>hn (by simp[z]))];exact hc
   refine cM.kp av hkp (fun _ _ f=>f) (fun r _ hr z=>?_) (fun c xs hc z=>?_)
   ·rw[List.mem_singleton] at z
    subst z;have h0:=b.bk.an;rw[hr] at h0
    cases h0
   ·rw[List.mem_singleton] at z
    subst z;rw[han] at hc
    cases hc
  ·rw[ah (fun z=>hn (by simp[z]))]
   exact k' c o hc (fun z=>hn (by rw[List.mem_singleton] at z;simp[z]))
noncomputable abbrev Gf:Stmt:=top 30
noncomputable abbrev Hg:List Str:=["deeds","book","deed"]
theorem Gq:az Hg ["deeds"] (ao Gf):=by walk_at "s"
structure Gg (CN CV CB:Addr) (H:Hp) (bk vl al:Addr) (ds:List bY) (ves:List ee) (as:List V):Prop where
 b:nK CN CV CB H bk vl al ds.length (bE ds S0).2 ves as
 an:Paired (cM (fun r=>r∉[vl,al]) H) as (bE ds S0).1
 md:Paired (fun a md=>fM ves a md) (bE ds S0).1 (bE ds S0).2.made
noncomputable def BS (CN CV CB:Addr):Sp:=fun vs H Q _=>∃ (l:Addr) (das:List Addr) (ds:List bY),vs=[.ref l]/\nD H l das ds/\ds.length<=63 /\
 ∀ (bk vl al:Addr) (ves:List ee) (as:List V) H',Gg CN CV CB H' bk vl al ds ves as->H bk=none->Kp H H' []->Q (.ref bk) H'
theorem cM.imp {F F':Addr->Prop}{H:Hp}{v:V}{a:yb} (r:cM F H v a) (h:∀ r,F r->F' r):cM F' H v a:=by
 cases a with
 | ver n=>exact r
 | noV=>exact r
 | noN=>exact r
 | clash rows =>
  obtain⟨t,l,rs,e,f,z⟩:=r;exact⟨t,l,rs,e,h l f,z⟩
theorem fM.more {ves ves':List ee} (h:ves <+: ves') {a:yb}{md:Nat} (k:fM ves a md):fM ves' a md:=by
 cases a with
 | ver n =>
  obtain⟨v,hv,e⟩:=k;exact⟨v,ym h hv,e⟩
 | noV=>exact k
 | noN=>exact k
 | clash rows=>exact k
theorem gW {H:Hp}{p a:Addr}{o:HO} (h:upd H p o a=none):H a=none/\a≠p:=by
 by_cases z:a=p
 ·rw[z,aa] at h
  cases h
 ·rw[ah z] at h
  exact⟨h,z⟩
structure Hl (CN CV CB:Addr) (H1:Hp) (l bk vl al:Addr) (ds:List bY) (i:Nat) (σ:L2.St) (H2:Hp):Prop where
 ls:∃ x,σ=[some (.ref l),some (.ref bk),x]
 bd:∃ ves as,Gg CN CV CB H2 bk vl al (ds.take i) ves as
 kp:Kp H1 H2 [vl,al]
theorem Eb {f CN CV CB:Addr}{fd:FuncData} (n_Book:gd P w K mg base 15 "Book" CB ["self"] (vg CN CV CB)) (m_Book_do:ck P w K mg base aT 16 CB "do" ["self","deed"] (Cg CN CV CB))
  (F:cJ K "book_of" "book_of" Gf f fd):aR P w K mg base aT 17 f fd ["deeds"] (BS CN CV CB):=by
 have sc:=Gq;walk_at "f"
 ·obtain⟨_,_,_,rfl,_⟩:=h
  rfl
 ·obtain⟨l,das,ds,rfl,⟨hl,hpd,_,okd⟩,h63,k⟩:=h
  have hs:=sizeLine_eq;refine⟨_,(af (aA (i:=1) sc.nd rfl (by walk_at "o") (zN n_Book hr))
   (af (dv PassesOwn.never rfl (bI K (pv 0)) (aI (i:=2) sc.nd rfl (by walk_at "o")) (ak (aZ (cV m_Book_do hr eu (pv 1) (ai (pv 2) ae)))))
   (ak (aw (pv 1))))),?_⟩
  walk_at "rd";intro bk dx nb nd neb;refine⟨bk,dx,rfl,aa,fun vl al H1 Bk nvl nal oth=>?_⟩;have n1:H vl=none/\H al=none:=⟨(gW (gW nvl).1).1,(gW (gW nal).1).1⟩;have kp1:Kp H H1 []:=fun b o e _=>by
   refine oth b o (ag e nb) ?_;rw[ah (ag e nb),ah (ag e nd)];exact e
  refine⟨rfl,?_⟩;have d0:Gg CN CV CB H1 bk vl al (ds.take 0) [V0] []:=by
   rw[List.take_zero];exact⟨⟨Bk,rfl,rfl,zJ,CK,D2⟩,.nil,.nil⟩
  have lp:=aN hpd;have nl:l∉[vl,al]:=fun z=>by
   simp only[List.mem_cons,List.not_mem_nil,or_false] at z;rcases z with rfl|rfl
   ·rw[n1.1] at hl;cases hl
   ·rw[n1.2] at hl;cases hl
  refine⟨⟨_,aP.of (kp1 _ _ hl (by simp))⟩,cC (xs:=das.map V.ref) (Hl CN CV CB H1 l bk vl al ds) ⟨⟨_,rfl⟩,⟨_,_,d0⟩,Kp.refl _ _⟩ (fun i σ H2 iv=>aP.of (iv.kp _ _ (kp1 _ _ hl (by simp)) nl)) (fun i x σ H2 hx iv=>?_) (fun σ H2 iv=>?_)⟩
  ·obtain⟨⟨x1,rfl⟩,⟨ves,as,BD⟩,kp⟩:=iv
   rw[List.getElem?_map] at hx;obtain⟨a,ha,rfl⟩:=Option.map_eq_some_iff.mp hx;obtain⟨D,hD,hat⟩:=da hpd ha;have hi:i<ds.length:=(List.getElem?_eq_some_iff.mp hD).1;have na:a∉[vl,al]:=fun z=>by
    simp only[List.mem_cons,List.not_mem_nil,or_false] at z;rcases z with rfl|rfl
    ·rw[n1.1] at hat;cases hat
    ·rw[n1.2] at hat;cases hat
   have hat2:=kp _ _ (kp1 _ _ hat (by simp)) na;walk_at "rd";obtain⟨dx2,hb2⟩:=id BD.b.bk.ob;have lt:(ds.take i).length=i:=by rw[List.length_take];omega
   have la:as.length=i:=by
    have:=aN BD.an;rw[oM,lt] at this;exact this
   have et:ds.take (i+1)=ds.take i++[D]:=by rw[List.take_add_one,hD];rfl
   have bb:=BD.b;rw[lt] at bb;refine⟨dx2,_,hb2,dt _ _ (by decide +kernel) (by decide +kernel),bk,vl,al,a,i,(bE (ds.take i) S0).2,ves,as,D,rfl,bb,la,by omega,hat2,okd D (List.mem_of_getElem? hD),fun v ves' H' b' av md pre k'=>⟨⟨_,rfl⟩,⟨ves',as++[v],?_⟩,kp.trans k'⟩⟩;obtain⟨md,em,mo⟩:=md;refine⟨?_,?_,?_⟩
   ·rw[et,eP,List.length_append,lt]
    exact b'
   ·rw[et,eP]
    have tt:∀ c xs,H2 c=some (.tup xs)->c∉[vl,al]:=fun c xs hc z=>by
     simp only[List.mem_cons,List.not_mem_nil,or_false] at z;obtain⟨_,⟨vas,hv,_⟩,ha,_⟩:=id bb.bk;rcases z with rfl|rfl
     ·rw[hv] at hc;cases hc
     ·rw[ha] at hc;cases hc
    refine bK (Paired.imp' (fun a d q=>cM.kp q k' (fun _ _ f=>f) (fun _ _ f=>f) tt) BD.an) ?_;refine cM.imp av fun r hr z=>?_;simp only[List.mem_cons,List.not_mem_nil,or_false] at z;obtain⟨_,⟨vas,hv,_⟩,ha,_⟩:=id bb.bk;rcases z with rfl|rfl
    ·rw[hr] at hv;cases hv
    ·rw[hr] at ha;cases ha
   ·rw[et,eP]
    dsimp only;rw[em];exact bK (Paired.imp' (fun a d q=>q.more pre) BD.md) mo
  ·obtain⟨⟨x1,rfl⟩,⟨ves,as,BD⟩,kp⟩:=iv
   rw[List.length_map,lp,List.take_of_length_le (Nat.le_refl _)] at BD;walk_at "rd";refine k bk vl al ves as H2 BD nb fun c o hc _=>kp c o (kp1 c o hc (by simp)) fun z=>?_;simp only[List.mem_cons,List.not_mem_nil,or_false] at z;rcases z with rfl|rfl
   ·rw[n1.1] at hc;cases hc
   ·rw[n1.2] at hc;cases hc
end
end
section
section
theorem jh (m1 m2:Mp):bR m1 m1 m2=aW m1 m2:=by
 unfold bR;rw[List.filter_eq_self];intro n hn;unfold aW at hn;have:=(List.mem_filter.mp hn).2;rw[decide_eq_true_eq] at this ⊢;exact fun e=>this e.symm
noncomputable def pj (H:Hp) (m1 m2:Mp) (rs:List Addr) (ns:List Nm):Prop:=Paired (fun a n=>H a=some (.tup [sV n,oV (aq m1 n),oV (aq m2 n)])) rs ns
noncomputable abbrev E4:Stmt:=top 15
noncomputable abbrev GY:List Str:=["one","two","apart"]
theorem Gb:az GY ["one","two"] (ao E4):=by walk_at "s"
theorem EI:(["row"]:List Str).Nodup:=by decide +kernel
noncomputable def zA (CN:Addr):Sp:=fun vs H Q _=>∃ (m1 m2:Mp) (g1 g2:Nm->Option Addr) (U:List Nm),vs=[pt (g1 []),pt (g2 [])]/\Tree CN H m1 g1/\Tree CN H m2 g2/\w_ m1 m2 U/\aO m1/\aO m2 /\
 ∀ (p r:Addr) (rs:List Addr) (k:Nat) H',H' p=some (.tup [.ref r,nV k])->H' r=some (.lst (rs.map V.ref))->pj H' m1 m2 rs (aW m1 m2)->(∀ D:List Nm,D.Nodup->(∀ x,x∈D↔g1 x≠g2 x)->k=D.length)->Kp H H' []->Q (.ref p) H'
structure HH (H1:Hp) (m1 m2:Mp) (l:List Nm) (i:Nat) (ys:List V) (H':Hp):Prop where
 ex:∃ ps:List Addr,ys=ps.map V.ref/\ps.length=i/\pj H' m1 m2 ps (l.take i)
 kp:Kp H1 H' []
theorem DV {f CN:Addr}{fd:FuncData} (crows_apart:bU P w K mg base aT 8 "rows_apart" ["base","one","two"] (yy CN)) (F:cJ K "difference_of" "difference_of" E4 f fd):aR P w K mg base aT 9 f fd ["one","two"] (zA CN):=by
 have sc:=Gb;have nH:=EI;walk_at "f"
 ·obtain⟨_,_,_,_,_,rfl,_⟩:=h
  rfl
 ·obtain⟨m1,m2,g1,g2,U,rfl,T1,T2,hB,n1,n2,k⟩:=h
  have hs:=sizeLine_eq;refine⟨_,(af (aA (i:=2) sc.nd rfl (by walk_at "o") (bJ crows_apart hr (ai (pv 0) (ai (pv 0) (ai (pv 1) ae)))))
   (ak (aw (cm (ai (cI (N':=["row"]) (ix:=[none]) rfl ?S1 (bI K (aE (aF K) (pv 2) aj (fun _ _=>rfl))) (fun cl C fp s H=>(aI (i:=0) nH rfl (by walk_at "o"))) (fun cl C fp s H=>dZ) (fun cl C fp s H=>(cm (ai (aE (aF K) (pv 0) aj (fun _ _=>rfl)) (ai (aE (aF K) (pv 0) aj (fun _ _=>rfl)) (ai (aE (aF K) (pv 0) aj (fun _ _=>rfl)) ae)))))) (ai (aE (aF K) (pv 2) aj (fun _ _=>rfl)) ae)))))),?_⟩
  case S1=>exact nL.is (N:=GY) (osc:=ao E4) (by decide +kernel)
  walk_at "rd";refine⟨m1,m1,m2,g1,g1,g2,U,rfl,⟨T1,T1,T2⟩,hB,n1,n2,fun p r rs kk H1 hp hr1 hrw ct k1=>?_⟩;have alen:=ie (mb:=m1) hB n1 n2;have ct2:∀ D:List Nm,D.Nodup->(∀ x,x∈D↔g1 x≠g2 x)->kk=D.length:=fun D h1 h2=>ct D ⟨h1,fun x=>by
   rw[h2];unfold tw;constructor
   ·intro h b hb
    rw[Bool.or_self,decide_eq_false_iff_not];intro e;obtain⟨s,rfl⟩:=hb;exact h (ko T1 T2 e.symm s)
   ·intro h e
    have:=h x (List.prefix_refl x);rw[e,Bool.or_self] at this;simp at this⟩
  have rl:=aN hrw;rw[List.length_map] at rl;show ∃ p',V.ref p=V.ref p'/\_;refine⟨p,rfl,_,cE.of hp,_,rfl,r,rfl,⟨_,aP.of hr1⟩,jS (xs:=rs.map V.ref) (HH H1 m1 m2 (aW m1 m2)) ⟨⟨[],rfl,rfl,.nil⟩,Kp.refl _ _⟩ (by rw[List.length_map];omega) ?_ ?_ ?_ ?_⟩
  ·rintro i ys H' ⟨⟨ps,rfl,hl',_⟩,_⟩
   rw[List.length_map,hl'];exact Nat.le_refl _
  ·rintro i ys H' ⟨_,kp⟩
   exact aP.of (kp _ _ hr1 (by simp))
  ·rintro i ys H' x hx ⟨⟨ps,rfl,hl',hpr⟩,kp⟩ R R' r1 r2
   rw[List.getElem?_map] at hx;obtain⟨a,ha,rfl⟩:=Option.map_eq_some_iff.mp hx;obtain⟨row,hrow,hat⟩:=da hrw ha;rw[List.getElem?_map,jh] at hrow;obtain⟨n,hn,rfl⟩:=Option.map_eq_some_iff.mp hrow;have hat':=kp _ _ hat (by simp);refine⟨Wk.set rfl,?_⟩;walk_at "rd";refine⟨_,cE.of hat',sV n,rfl,_,cE.of hat',oV (aq m1 n),rfl,_,cE.of hat',oV (aq m2 n),rfl,by omega,fun t ht=>?_⟩;have k5:Kp H' (upd H' t (.tup [sV n,oV (aq m1 n),oV (aq m2 n)])) []:=(Kp.refl H' []).new ht;refine r1 _ _ ⟨⟨ps++[t],by rw[List.map_append];rfl,by rw[List.length_append,hl'];rfl,?_⟩,kp.trans k5⟩;rw[List.take_add_one,hn];exact bK (Paired.imp' (fun a n x=>k5 _ _ x (by simp)) hpr) aa
  ·rintro ys H' ⟨⟨ps,rfl,hl',hpr⟩,kp⟩ d hd
   rw[List.length_map,rl,jh,List.take_of_length_le (Nat.le_refl _)] at hpr;have k5:Kp H' (upd H' d (.lst (ps.map V.ref))) []:=(Kp.refl H' []).new hd;have hp5:=k5 p _ (kp p _ hp (by simp)) (by simp);refine⟨p,rfl,_,cE.of hp5,_,rfl,by omega,fun q hq=>?_⟩;have k6:Kp (upd H' d (.lst (ps.map V.ref))) (upd (upd H' d (.lst (ps.map V.ref))) q (.tup [V.ref d,nV kk])) []:=(Kp.refl _ []).new hq;exact k q d ps kk _ aa (k6 d _ aa (by simp)) (Paired.imp' (fun a n x=>k6 _ _ (k5 _ _ x (by simp)) (by simp)) hpr) ct2 (((k1.trans kp).trans k5).trans k6)
theorem nK.two {CN CV CB:Addr}{H:Hp}{bk vl al:Addr}{k:Nat}{S:LS}{ves:List ee}{as:List V} (b:nK CN CV CB H bk vl al k S ves as) (hk:k<=63) {i j:Nat}{m1 m2:Mp} (h1:S.ms[i]?=some m1) (h2:S.ms[j]?=some m2) :
  ∃ v1 v2 U,ves[i]?=some v1/\v1.m=m1/\bx ves.length (i:Int)=false/\ves[j]?=some v2/\v2.m=m2/\bx ves.length (j:Int)=false/\w_ m1 m2 U/\aO m1/\aO m2:=by
 obtain⟨U,u1,u2,u3⟩:=b.day.us;have q1:=u3 i m1 h1;have q2:=u3 j m2 h2;have go:∀ {i:Nat}{m:Mp},S.ms[i]?=some m->∃ v,ves[i]?=some v/\v.m=m/\bx ves.length (i:Int)=false:=fun {i m} h=>by
  rw[<- b.ms,List.getElem?_map] at h;obtain⟨v,hv,e⟩:=Option.map_eq_some_iff.mp h;have hi:i<ves.length:=(List.getElem?_eq_some_iff.mp hv).1;refine⟨v,hv,e,?_⟩;unfold bx;simp only[Bool.or_eq_false_iff,decide_eq_false_iff_not];omega
 obtain⟨v1,a1,a2,a3⟩:=go h1;obtain⟨v2,b1,b2,b3⟩:=go h2;exact⟨v1,v2,U,a1,a2,a3,b1,b2,b3,⟨by omega,u2,fun n z=>z.elim (q1.2 n) (q2.2 n)⟩,q1.1,q2.1⟩
noncomputable def qB (nd:Nd):Prop:=(nd.map (·.1)).Nodup
theorem vX {m1 m2:Nd} (h1:qB m1) (h2:qB m2):(eS m1 m2).Nodup:=by
 unfold eS;refine List.Nodup.sublist List.filter_sublist ((bH _).nodup_iff.mpr ?_);unfold cB;rw[List.nodup_append];refine⟨h1,h2.sublist List.filter_sublist,fun a ha b hb e=>?_⟩;subst e;have q:=(List.mem_filter.mp hb).2;have:=(mem_keys m1 a).mp ha;rw[Option.isNone_iff_eq_none] at q;rw[q] at this
 cases this
theorem kY {m1 m2:Nd}{n:Nm}:n∈eS m1 m2↔aq m1 n≠aq m2 n:=by
 unfold eS;rw[List.mem_filter,(bH _).mem_iff,decide_eq_true_eq];refine⟨fun h=>h.2,fun h=>⟨?_,h⟩⟩;unfold cB;rw[List.mem_append,List.mem_filter,mem_keys,mem_keys]
 cases e:aq m1 n with
 | some x=>exact .inl rfl
 | none =>
  refine .inr ⟨?_,rfl⟩
  cases e2:aq m2 n with
  | some x=>rfl
  | none=>rw[e,e2] at h;exact absurd rfl h
noncomputable abbrev zz:Stmt:=top 32
noncomputable abbrev Fn:List Str:=["deeds","one","two","book"]
theorem Dr:az Fn ["deeds","one","two"] (ao zz):=by walk_at "s"
noncomputable def wV:Sp:=fun vs H Q _=>∃ (l:Addr) (das:List Addr) (ds:List bY) (i j:Nat) (m1 m2:Mp) (d1 d2:Nd),vs=[.ref l,.int (i:Int),.int (j:Int)]/\nD H l das ds/\ds.length<=63/\(bE ds S0).2.ms[i]?=some m1/\(bE ds S0).2.ms[j]?=some m2/\(bE ds S0).2.ns[i]?=some d1/\(bE ds S0).2.ns[j]?=some d2/\qB d1/\qB d2 /\
 ∀ (p r:Addr) (rs:List Addr) H',H' p=some (.tup [.ref r,nV (eS d1 d2).length])->H' r=some (.lst (rs.map V.ref))->pj H' m1 m2 rs (aW m1 m2)->(∀ n∈aW m1 m2,∀ b,b <+: n->b∈eS d1 d2)->Kp H H' []->Q (.ref p) H'
theorem BH {f CN CV CB CNV:Addr}{fd:FuncData} (cbook_of:bU P w K mg base aT 17 "book_of" ["deeds"] (BS CN CV CB)) (m_Book_root_at:ck P w K mg base (fz P w) 17 CB "root_at" ["self","number"] (lQ CN CV CB CNV)) (cdifference_of:bU P w K mg base aT 17 "difference_of" ["one","two"] (zA CN))
  (F:cJ K "difference" "difference" zz f fd):aR P w K mg base aT 18 f fd ["deeds","one","two"] wV:=by
 have sc:=Dr;walk_at "f"
 ·obtain⟨_,_,_,_,_,_,_,_,_,rfl,_⟩:=h
  rfl
 ·obtain⟨l,das,ds,i,j,m1,m2,d1,d2,rfl,hda,h63,hm1,hm2,hd1,hd2,dn1,dn2,k⟩:=h
  refine⟨_,(af (aA (i:=3) sc.nd rfl (by walk_at "o") (bJ cbook_of hr (ai (pv 0) ae)))
   (ak (aw (bJ cdifference_of hr (ai (cV m_Book_root_at hr e_ (pv 3) (ai (pv 1) ae)) (ai (cV m_Book_root_at hr e_ (pv 3) (ai (pv 2) ae)) ae)))))),?_⟩
  walk_at "rd";refine⟨l,das,ds,rfl,hda,h63,fun bk vl al ves as H' BD nb kp=>?_⟩;have ll:=BD.b.len;have l1:=BD.b.day.l1;obtain⟨dx,hb⟩:=id BD.b.bk.ob;obtain⟨v1,v2,U,hv1,rfl,eb1,hv2,rfl,eb2,hB,nd1,nd2⟩:=BD.b.two h63 hm1 hm2;refine⟨bk,rfl,dx,_,hb,dt _ _ (by decide +kernel) (by decide +kernel),bk,vl,al,ves,as,(i:Int),rfl,BD.b.bk,by omega,(fun e=>absurd e (by rw[eb1];simp)),fun _ v' hv' T1=>?_⟩;rw[Int.toNat_natCast,hv1] at hv'
  cases hv';refine⟨bk,rfl,dx,_,hb,dt _ _ (by decide +kernel) (by decide +kernel),bk,vl,al,ves,as,(j:Int),rfl,BD.b.bk,by omega,(fun e=>absurd e (by rw[eb2];simp)),fun _ v' hv' T2=>?_⟩;rw[Int.toNat_natCast,hv2] at hv'
  cases hv';obtain⟨φ,st⟩:=BD.b.sp;have ii:=fun b=>(st i v1 d1 hv1 hd1).iff (st j v2 d2 hv2 hd2) b;refine⟨v1.m,v2.m,v1.g,v2.g,U,rfl,T1,T2,hB,nd1,nd2,fun p r rs kk H2 h1 h2 h3 ct h4=>?_⟩;rw[ct (eS d1 d2) (vX dn1 dn2) fun x=>by rw[kY];exact not_congr (ii x)] at h1;exact k p r rs H2 h1 h2 h3 (fun n hn b hb=>kY.mpr fun e=>gZ.mp hn (jI T1 T2 ((ii b).mp e) hb)) (kp.trans h4)
end
end
section
theorem kJ {β:Type}{D:List (Nm×β)} (h:(D.map (·.1)).Nodup) (n:Nm) (v:β):((dj D n v).map (·.1)).Nodup:=by
 unfold dj
 split
 ·rw[List.map_map]
  have:(Prod.fst ∘ fun p:Nm×β=>if p.1=n then (p.1,v) else p)=Prod.fst:=by
   funext p
   simp only[Function.comp]
   split <;> rfl
  rw[this];exact h
 ·rename_i c
  rw[List.map_append,List.nodup_append];refine⟨h,by simp,fun a ha b hb e=>c ?_⟩;rw[List.mem_map] at ha;obtain⟨q,hq,rfl⟩:=ha;simp at hb;rw[List.any_eq_true];exact⟨q,hq,by simp[e.trans hb]⟩
theorem yf {m:Mp}{a:Nat×Nat×Nd} (h:qB a.2.2) (b:Nm):qB (bF m a b).2.2:=by
 unfold bF
 split
 ·exact h.sublist (List.filter_sublist.map _)
 ·exact kJ h b _
theorem rY {m:Mp}:∀ (l:List Nm) {a:Nat×Nat×Nd},qB a.2.2->qB (l.foldl (bF m) a).2.2
 | [],_,h=>h
 | b::l,_,h=>rY l (yf h b)
theorem qQ {nd:Nd} (h:qB nd) (m:Mp) (st:Nat) (n:Nm) (to:Option Nm):qB (bu m nd st n to).nd:=by
 unfold bu
 split
 ·exact h
 ·exact rY _ h
theorem rF {mt:Mp}:∀ (l:List Nm) (a:LR),qB a.nd->qB (l.foldl (aQ mt) a).nd
 | [],_,h=>h
 | n::l,a,h=>rF l (aQ mt a n) (qQ h _ _ _ _)
noncomputable def Bp (S:LS):Prop:=∀ (i:Nat) nd,S.ns[i]?=some nd->qB nd
theorem mH {S:LS} (h:Bp S) (i:Nat):qB (S.ns.getD i []):=by
 by_cases q:i<S.ns.length
 ·exact h i _ (by simp[List.getD,q])
 ·have:S.ns.getD i []=[]:=by simp[List.getD,q]
  rw[this];exact .nil
theorem uq {S:LS} (h:Bp S) (d:bY):Bp (aD S d).2:=by
 have more:∀ {m:Mp}{nd:Nd}{p:Option Nat}{st md:Nat},qB nd->Bp ⟨S.ms++[m],S.ns++[nd],S.par++[p],st,S.made++[md]⟩:=fun {m nd p st md} hm i m' e=>by
  rcases cS e with ⟨_,e⟩|⟨_,rfl⟩
  ·exact h i m' e
  ·exact hm
 unfold aD
 by_cases eb:fc S d=true
 ·rw[if_pos eb];exact h
 ·rw[if_neg eb]
  by_cases en:gc d=true
  ·rw[if_pos en];exact h
  ·rw[if_neg en]
   cases d with
   | put v n x=>exact more (qQ (mH h _) _ _ _ _)
   | take v n=>exact more (qQ (mH h _) _ _ _ _)
   | join b o t =>
    dsimp only
    split
    ·exact more (rF _ _ (mH h _))
    ·exact h
theorem uU:∀ (l:List bY) {S:LS},Bp S->Bp (bE l S).2
 | [],_,h=>h
 | d::r,S,h=>uU r (uq h d)
theorem CH:Bp S0:=fun i m e=>by rw[ed e];exact .nil
end
section
section
noncomputable abbrev Gy:Stmt:=top 34
theorem FX:az ["_law_found"] ["_law_found"] (ao Gy):=by walk_at "s"
noncomputable def Cb:Sp:=fun vs H Q _=>∃ i:Int,vs=[.int i]/\Q (.bl true) H
theorem EK {f:Addr}{fd:FuncData} (B:Bl mg) (F:cJ K "_law_whole" "_law_whole" Gy f fd):aR P w K mg base aT 1 f fd ["_law_found"] Cb:=by
 have sc:=FX;walk_at "f"
 ·obtain⟨_,rfl,_⟩:=h
  rfl
 ·obtain⟨i,rfl,k⟩:=h
  have hu0:=hr.cL;refine⟨_,(ak (aw (wD (bg (br K) rfl B.isi boot_isinstance (ai (pv 0) (ai (bZ (v:=.ty "int") rfl B.int boot_int rfl) ae))) (qr (AJ (bg (br K) rfl B.isi boot_isinstance (ai (pv 0) (ai (bZ (v:=.ty "bool") rfl B.bool boot_bool rfl) ae)))))))),?_⟩;walk_at "rd";refine⟨_,_,⟨rfl,rfl⟩,true,_,cz.int i,rfl,?_⟩;rw[if_pos rfl];refine⟨_,_,⟨rfl,rfl⟩,false,_,cz.int i,rfl,?_⟩;exact k
noncomputable def tV:Unit->V:=fun _=>.bl true
structure xa (done bs:List Nm) (D:List (Nm×Unit)):Prop where
 nd:(D.map (·.1)).Nodup
 mem:∀ b,(aq D b).isSome=true↔(∃ n∈done,b <+: n)\/b∈bs
theorem xa.put {done bs:List Nm}{D:List (Nm×Unit)} (h:xa done bs D) (b:Nm):xa done (bs++[b]) (dj D b ()) :=
 ⟨kJ h.nd b (),fun x=>by
  rw[di]
  by_cases e:x=b
  ·rw[if_pos e]
   simp[e]
  ·rw[if_neg e,h.mem,List.mem_append,List.mem_singleton]
   simp[e]⟩
theorem xa.all {done:List Nm}{n:Nm}{D:List (Nm×Unit)} (h:xa done (bq n) D):xa (done++[n]) [] D :=
 ⟨h.nd,fun x=>by
  rw[h.mem,cn];constructor
  ·rintro (⟨k,hk,q⟩|q)
   ·exact .inl ⟨k,List.mem_append_left _ hk,q⟩
   ·exact .inl ⟨n,List.mem_append_right _ (List.mem_singleton.mpr rfl),q⟩
  ·rintro (⟨k,hk,q⟩|q)
   ·rcases List.mem_append.mp hk with hk|hk
    ·exact .inl ⟨k,hk,q⟩
    ·rw[List.mem_singleton.mp hk] at q
     exact .inr q
   ·cases q⟩
theorem xa.len {full done bs:List Nm}{D:List (Nm×Unit)} (h:xa done bs D) (hd:∀ n∈done,∀ b,b <+: n->b∈full) (hb:∀ b∈bs,b∈full):D.length<=full.length:=by
 have:=eR h.nd (u:=full) fun x hx=>by
  rcases (h.mem x).mp ((mem_keys D x).mp hx) with ⟨n,hn,q⟩|q
  ·exact hd n hn x q
  ·exact hb x q
 rwa [List.length_map] at this
theorem sv {H:Hp}{m1 m2:Mp}:∀ {ns:List Nm}{rs rs':List Addr},pj H m1 m2 rs ns->pj H m1 m2 rs' ns->fu H (4 * ns.length) (rs.map V.ref) (rs'.map V.ref)
 | [],rs,rs',h,h'=>by
  cases h;cases h';exact .nil
 | n::ns,rs,rs',h,h'=>by
  cases h with
  | cons h t =>
   cases h' with
   | cons h' t' =>
    have one:∀ (o:Option Nm) {k:Nat}{xs ys:List V},fu H k xs ys->fu H (k+1) (oV o::xs) (oV o::ys):=fun o {k xs ys} r=>by
     cases o with
     | none=>exact .non r
     | some x=>exact .str _ r
    exact (fu.tup h h' (.str _ (one _ (one _ .nil))) (sv t t')).CA (by rw[List.length_cons];omega)
theorem tU (m1 m2:Nd):(eS m1 m2).length<=m1.length+m2.length:=by
 unfold eS;refine Nat.le_trans (List.length_filter_le _ _) ?_;rw[(bH _).length_eq];unfold cB;rw[List.length_append,List.length_map];refine Nat.add_le_add (Nat.le_refl _) (Nat.le_trans (List.length_filter_le _ _) ?_);rw[List.length_map];exact Nat.le_refl _
theorem uI (m1 m2:Mp):(aW m1 m2).length<=(dF m1 m2).length:=by
 unfold aW;refine Nat.le_trans (List.length_filter_le _ _) ?_;rw[(bH _).length_eq];exact Nat.le_refl _
noncomputable abbrev Hr:List Str:=["_law_script","_law_deeds","_law_told","_law_hall","_law_one","_law_two","_law_handed","_law_found","_law_old","_law_new","_law_due","_law_name","_law_left","_law_right","_law_parts","_law_first","_law_second","_law_part"]
noncomputable abbrev B9:Stmt:=top 50
theorem C5:az Hr ["_law_script"] (ao B9):=by walk_at "s"
noncomputable def rC (K:PySem.W.Frag):Sp:=fun vs H Q _=>∃ (a:Addr) (ns:List Int),vs=[.ref a]/\aP K H a (ns.map V.int)/\ns.length<=63/\∀ H',Q (.bl true) H'
theorem A6 {f:Addr}{fd:FuncData} (B:Bl mg) (c_law_mixed:bU P w K mg base aT 19 "_law_mixed" ["_law_script"] uH) (c_law_day:bU P w K mg base aT 19 "_law_day" ["_law_cells"] wu) (c_law_at:bU P w K mg base aT 19 "_law_at" ["_law_script","_law_k"] Az)
  (c_law_pick:bU P w K mg base aT 19 "_law_pick" ["_law_hall","_law_seed"] qV) (c_law_stays_so:bU P w K mg base aT 19 "_law_stays_so" ["_law_handed","_law_own"] zT) (c_law_whole:bU P w K mg base aT 19 "_law_whole" ["_law_found"] Cb)
  (c_law_changes:bU P w K mg base aT 19 "_law_changes" ["_law_old","_law_new"] lK) (c_law_beginnings_of:bU P w K mg base aT 19 "_law_beginnings_of" ["_law_name"] rE) (cdifference:bU P w K mg base aT 19 "difference" ["deeds","one","two"] wV)
  (F:cJ K "law" "law" B9 f fd):aR P w K mg base aT 20 f fd ["_law_script"] (rC K):=by
 have sc:=C5;walk_at "f"
 ·obtain⟨_,_,rfl,_⟩:=h
  rfl
 ·obtain⟨a,xs,rfl,ha,lx,k⟩:=h
  have hu0:=hr.cL;have hu:=d_ hr;have hs:=sizeLine_eq;refine⟨_,(af (aA (i:=0) sc.nd rfl (by walk_at "o") (dM (nS K) (pv 0) fj (fh aj)))
   (af (aA (i:=0) sc.nd rfl (by walk_at "o") (bJ c_law_mixed hr (ai (pv 0) ae)))
   (af (cU (uw (bJ c_law_day hr (ai (dM (nS K) (pv 0) (fh aj) fj) ae)) (mw K (n:=3) rfl (cw (aI (i:=1) sc.nd rfl (by walk_at "o")) (cw (aI (i:=2) sc.nd rfl (by walk_at "o")) (cw (aI (i:=3) sc.nd rfl (by walk_at "o")) ja))))))
   (af (aA (i:=4) sc.nd rfl (by walk_at "o") (bJ c_law_pick hr (ai (pv 3) (ai (bJ c_law_at hr (ai (pv 0) (ai aj ae))) ae))))
   (af (cU (aA (i:=5) sc.nd rfl (by walk_at "o") (bJ c_law_pick hr (ai (pv 3) (ai (bJ c_law_at hr (ai (pv 0) (ai aj ae))) ae)))))
   (af (aA (i:=6) sc.nd rfl (by walk_at "o") (eO (eJ K) rfl B.lst boot_list (ai (pv 1) ae)))
   (af (cU (aA (i:=7) sc.nd rfl (by walk_at "o") (bJ cdifference hr (ai (pv 6) (ai (pv 4) (ai (pv 5) ae))))))
   (af (a_ (eA (cF (bJ c_law_stays_so hr (ai (pv 6) (ai (pv 1) ae))))) (ak (aw fN)) aJ)
   (af (a_ (PW.pt (gg (eA (cF (bg (br K) rfl B.isi boot_isinstance (ai (pv 7) (ai (bZ (v:=.ty "tuple") rfl B.tup boot_tuple rfl) ae))))) (gg (aG dY (bg (aX K) rfl B.len boot_len (ai (pv 7) ae)) aj (aH _)) (fC (eA (cF (bJ c_law_whole hr (ai (aE (aF K) (pv 7) aj (fun _ _=>rfl)) ae)))))))) (ak (aw fN)) aJ)
   (af (cU (aA (i:=8) sc.nd rfl (by walk_at "o") (aE (aK K) (bB hu (pv 3) au (fun _ _=>rfl)) (pv 4) (fun _ _=>rfl))))
   (af (cU (aA (i:=9) sc.nd rfl (by walk_at "o") (aE (aK K) (bB hu (pv 3) au (fun _ _=>rfl)) (pv 5) (fun _ _=>rfl))))
   (af (aA (i:=10) sc.nd rfl (by walk_at "o") (bw ae))
   (af (dv PassesOwn.never rfl (bI K (bJ c_law_changes hr (ai (pv 8) (ai (pv 9) ae)))) (aI (i:=11) sc.nd rfl (by walk_at "o")) (ak (aZ (eG K PySem.F.plainAttrs_list PySem.F.slot_list_append PySem.F.type_list_append bo (pv 10) (ai (cm (ai (pv 11) (ai (b_ hu (pv 8) (pv 11) ⟨rfl,rfl,rfl,rfl⟩) (ai (b_ hu (pv 9) (pv 11) ⟨rfl,rfl,rfl,rfl⟩) ae)))) ae)))))
   (af (a_ (PW.pt (gg (eA (cF (bg (br K) rfl B.isi boot_isinstance (ai (aE (aF K) (pv 7) aj (fun _ _=>rfl)) (ai (bZ (v:=.ty "list") rfl B.lst boot_list rfl) ae))))) (fC (eA (cF (bJ c_law_stays_so hr (ai (aE (aF K) (pv 7) aj (fun _ _=>rfl)) (ai (pv 10) ae)))))))) (ak (aw fN)) aJ)
   (af (cU (aA (i:=12) sc.nd rfl (by walk_at "o") (aE (aK K) (bB hu (pv 3) au (fun _ _=>rfl)) (pv 4) (fun _ _=>rfl))))
   (af (cU (aA (i:=13) sc.nd rfl (by walk_at "o") (aE (aK K) (bB hu (pv 3) au (fun _ _=>rfl)) (pv 5) (fun _ _=>rfl))))
   (af (a_ (aG dY (aE (aF K) (pv 7) aj (fun _ _=>rfl)) (bg (aX K) rfl B.len boot_len (ai (bJ c_law_changes hr (ai (pv 12) (ai (pv 13) ae))) ae)) (aH _)) (ak (aw fN)) aJ)
   (af (aA (i:=14) sc.nd rfl (by walk_at "o") gP)
   (af (dv PassesOwn.never rfl (bI K (pv 10)) (mw K (n:=3) rfl (cw (aI (i:=11) sc.nd rfl (by walk_at "o")) (cw (aI (i:=15) sc.nd rfl (by walk_at "o")) (cw (aI (i:=16) sc.nd rfl (by walk_at "o")) ja)))) (ak (dv PassesOwn.never rfl (bI K (bJ c_law_beginnings_of hr (ai (pv 11) ae))) (aI (i:=17) sc.nd rfl (by walk_at "o")) (ak (gF hu (pv 14) (pv 17) fN rfl)))))
   (ak (aw (fV EL (bg kN rfl B.len boot_len (ai (pv 14) ae)) (aE (aF K) (pv 7) aj (fun _ _=>rfl)) (aH _))))))))))))))))))))))),?_⟩
  walk_at "rd";refine⟨_,ha,fun p0 hp0=>?_⟩;rw[Bq _ (by rw[List.length_map];omega)];have f0:upd H p0 (.lst (xs.map V.int)) p0=some (.lst (xs.map V.int)):=aa;generalize upd H p0 (.lst (xs.map V.int))=G0 at f0 ⊢;refine⟨p0,xs,rfl,f0,by omega,fun p1 ns hp1 ln hn=>?_⟩;have f1:upd G0 p1 (.lst (ns.map nV)) p1=some (.lst (ns.map nV)):=aa;generalize upd G0 p1 (.lst (ns.map nV))=G1 at f1 ⊢;intro I hI;refine⟨p1,rfl,_,aP.of f1,fun p1b hp1b=>?_⟩;obtain⟨ns',ec,lns⟩:=xH nV ns (some 2) none;rw[ec];have s1b:=(aV.refl G1).new (o:=.lst (ns'.map nV)) hp1b;have f1b:upd G1 p1b (.lst (ns'.map nV)) p1b=some (.lst (ns'.map nV)):=aa;generalize upd G1 p1b (.lst (ns'.map nV))=G1b at s1b f1b ⊢;refine⟨p1b,ns'.map fun n:Nat=>(n:Int),rfl,by rw[f1b,List.map_map];rfl,by rw[List.length_map];omega,fun p dl tl h a1 a2 a3 a5 ds das tvs mas nas G2 ld okd hp DA kp2=>?_⟩;rw[List.length_map] at ld;have DS:=pW ds zJ (by omega) okd;rw[Nat.zero_add] at DS;have pre:=DS.pre (by omega);have l0:=DS.l0;have l1:=DS.l1;have l2:=DS.l2;have lm:=DA.hl.lm;have lnn:=DA.hl.ln;have gmas:∀ {v:Nat},v<(bE ds S0).2.ms.length->mas[v]?=some (mas.getD v 0)/\(bE ds S0).2.ms[v]?=some ((bE ds S0).2.ms.getD v []):=fun {v} hv=>⟨by simp[List.getD,show v<mas.length by omega],by simp[List.getD,hv]⟩;have gnas:∀ {v:Nat},v<(bE ds S0).2.ms.length->nas[v]?=some (nas.getD v 0)/\(bE ds S0).2.ns[v]?=some ((bE ds S0).2.ns.getD v []):=fun {v} hv=>⟨by simp[List.getD,show v<nas.length by omega],by simp[List.getD,show v<(bE ds S0).2.ns.length by omega]⟩;refine⟨p,rfl,_,cE.of hp,rfl,_,_,rfl,_,_,rfl,_,_,rfl,rfl,hI.go ?_⟩;walk_at "rd";have e1s:∀ {G},aV G2 G->G p1=some (.lst (ns.map nV)):=fun sm=>sm _ _ (kp2 _ _ (s1b _ _ f1) (by simp));refine⟨p1,ns,0,rfl,e1s (aV.refl _),hn,fun sd hsd=>?_⟩;refine⟨h,a1,a2,a3,a5,_,mas,sd,rfl,DA.hl.hh,DA.hl.h1,by omega,fun v G3 hv kp3=>?_⟩;have hv':v<(bE ds S0).2.ms.length:=by omega
  have s3:aV G2 G3:=fun c o hc=>kp3 c o hc (by simp);have D3:=DA.same s3;intro I hI;refine⟨p1,ns,1,rfl,e1s s3,hn,fun md hmd=>?_⟩;refine⟨h,a1,a2,a3,a5,_,mas,md,rfl,D3.hl.hh,D3.hl.h1,by omega,fun u G4 hu4 kp4=>?_⟩;refine hI.go ?_;walk_at "rd";have hu':u<(bE ds S0).2.ms.length:=by omega
  have s4:aV G3 G4:=fun c o hc=>kp4 c o hc (by simp);have D4:=D3.same s4;refine⟨_,.inl (aP.of D4.hd),fun l5 hl5=>?_⟩;have s5:=(aV.refl G4).new (o:=.lst (das.map V.ref)) hl5;have D5:=D4.same s5;have dd5:nD (upd G4 l5 (.lst (das.map V.ref))) l5 das ds:=⟨aa,D5.pd,by omega,okd⟩;generalize upd G4 l5 (.lst (das.map V.ref))=G5 at s5 D5 dd5 ⊢;intro I hI;have nk:=uU ds CH;have gm1:=(gmas hv').2;have gm2:=(gmas hu').2;have gn1:=(gnas hv').2;have gn2:=(gnas hu').2;have un:=pre.un v u _ _ gm1 gm2;have gi1:∀ {G:Hp},gM G dl tl h a1 a2 a3 a5 ds das tvs mas nas->G (mas.getD v 0)=some (.dK (aM sV ((bE ds S0).2.ms.getD v []))):=fun {G} DG=>DG.hl.mm v _ _ (gmas hv').1 gm1;have gi2:∀ {G:Hp},gM G dl tl h a1 a2 a3 a5 ds das tvs mas nas->G (mas.getD u 0)=some (.dK (aM sV ((bE ds S0).2.ms.getD u []))):=fun {G} DG=>DG.hl.mm u _ _ (gmas hu').1 gm2;have gj1:∀ {G:Hp},gM G dl tl h a1 a2 a3 a5 ds das tvs mas nas->G (nas.getD v 0)=some (.dK (aM nV ((bE ds S0).2.ns.getD v []))):=fun {G} DG=>DG.hl.nn v _ _ (gnas hv').1 gn1;have gj2:∀ {G:Hp},gM G dl tl h a1 a2 a3 a5 ds das tvs mas nas->G (nas.getD u 0)=some (.dK (aM nV ((bE ds S0).2.ns.getD u []))):=fun {G} DG=>DG.hl.nn u _ _ (gnas hu').1 gn2;have lk:∀ {i:Nat}{m:Mp}{nd:Nd},(bE ds S0).2.ms[i]?=some m->(bE ds S0).2.ns[i]?=some nd->m.length<=1000/\nd.length<=500000:=fun {i m nd} e1 e2=>by
   have q1:=pre.un i i m m e1 e1;unfold dF at q1;rw[List.length_append,List.length_map] at q1;have q2:=(DS.nd i m nd e1 e2).2;have:ds.length * 6000<=63 * 6000:=Nat.mul_le_mul_right _ (by omega);omega
  obtain⟨lk1,lk3⟩:=lk gm1 gn1;obtain⟨lk2,lk4⟩:=lk gm2 gn2;have n90:∀ n∈aW ((bE ds S0).2.ms.getD v []) ((bE ds S0).2.ms.getD u []),n.length<=90:=fun n hn'=>by
   obtain⟨U,_,u2,u3⟩:=DS.us;have:=gZ.mp hn'
   by_cases e1:(aq ((bE ds S0).2.ms.getD v []) n).isSome=true
   ·exact u2 n ((u3 v _ gm1).2 n e1)
   ·refine u2 n ((u3 u _ gm2).2 n ?_)
    cases e2:aq ((bE ds S0).2.ms.getD u []) n with
    | some _=>rfl
    | none =>
     rw[Option.not_isSome_iff_eq_none] at e1;exact absurd (e1.trans e2.symm) this
  have nk1:=nk v _ gn1;have nk2:=nk u _ gn2;generalize (bE ds S0).2.ms.getD v []=m1 at un gm1 gi1 lk1 n90;generalize (bE ds S0).2.ms.getD u []=m2 at un gm2 gi2 lk2 n90;generalize (bE ds S0).2.ns.getD v []=d1 at gn1 gj1 lk3 nk1;generalize (bE ds S0).2.ns.getD u []=d2 at gn2 gj2 lk4 nk2;refine⟨l5,das,ds,v,u,m1,m2,d1,d2,rfl,dd5,by omega,gm1,gm2,gn1,gn2,nk1,nk2,fun q6 r6 rs6 G6 h6 h6r pr6 op6 kp6=>?_⟩;refine hI.go ?_;walk_at "rd";have s6:aV G5 G6:=fun c o hc=>kp6 c o hc (by simp);have D6:=D5.same s6;obtain⟨n6,hn6,al6⟩:=lP D6.pd;intro J hJ;refine⟨.ref l5,.ref dl,_,rfl,fu.lst (s6 _ _ dd5.1) D6.hd al6 .nil,by omega,fun G7 kp7=>⟨true,rfl,hJ.go ?_⟩⟩;rw[if_neg (by simp)];walk_at "rd";have s7:aV G6 G7:=fun c o hc=>kp7 c o hc (by simp);have D7:=D6.same s7;have h7:=s7 _ _ h6;intro J hJ;refine⟨_,_,⟨rfl,rfl⟩,true,_,cz.tup h7,rfl,?_⟩;rw[if_neg (by simp)];refine⟨_,.inr ⟨_,cE.of h7,rfl⟩,rfl,?_⟩;rw[if_neg (by simp)];refine⟨_,cE.of h7,_,rfl,_,rfl,true,rfl,hJ.go ?_⟩;rw[if_neg (by simp)];walk_at "rd";intro I hI;refine⟨_,bN.k' (k:=.inr ("maps":Str)) D7.hl.hh (cy _ _ _ _ _),a1,rfl,_,_,rfl,aP.of D7.hl.h1,.ref (mas.getD v 0),bS (by rw[List.getElem?_map,(gmas hv').1];rfl),hI.go ?_⟩;walk_at "rd";intro I hI;refine⟨_,bN.k' (k:=.inr ("maps":Str)) D7.hl.hh (cy _ _ _ _ _),a1,rfl,_,_,rfl,aP.of D7.hl.h1,.ref (mas.getD u 0),bS (by rw[List.getElem?_map,(gmas hu').1];rfl),hI.go ?_⟩;walk_at "rd";refine⟨by omega,fun du hdu=>?_⟩;have s8:=(aV.refl G7).new (o:=.lst []) hdu;have f8:upd G7 du (.lst []) du=some (.lst []):=aa;generalize upd G7 du (.lst [])=G8 at s8 f8 ⊢;have D8:=D7.same s8;refine qF (gi1 D8) (gi2 D8) (by omega) (by omega) fun p9 G9 hp9 f9 kp9=>?_;have s9:aV G8 G9:=fun c o hc=>kp9 c o hc (by simp);have n9:p9≠du:=fun e=>by rw[e,f8] at hp9;cases hp9
  have ll:=uI m1 m2;refine⟨p9,rfl,⟨_,aP.of f9⟩,?_⟩;refine cC (K:=K) (a:=p9) (xs:=(aW m1 m2).map sV) (fun i σ G=>aV G7 G/\G p9=some (.lst ((aW m1 m2).map sV))/\∃ (o:Option V) (as:List Addr),
   σ=[some (.ref p1),some (.ref dl),some (.ref tl),some (.ref h),some (nV v),some (nV u),some (.ref l5),some (.ref q6),some (.ref (mas.getD v 0)),some (.ref (mas.getD u 0)),some (.ref du),o,none,none,none,none,none,none] /\
   G du=some (.lst (as.map V.ref))/\as.length=i/\pj G m1 m2 as ((aW m1 m2).take i)) ⟨s8.trans s9,f9,none,[],rfl,s9 _ _ f8,rfl,.nil⟩ (fun i σ G I=>aP.of I.2.1) ?_ ?_
  ·rintro i y σ G hi ⟨sG,fG,o,as,rfl,hdG,las,hpr⟩
   rw[List.getElem?_map] at hi;obtain⟨n,hn',rfl⟩:=Option.map_eq_some_iff.mp hi;have DG:=D7.same sG;have hm1:=gi1 DG;have hm2:=gi2 DG;have ne:∀ {c:Addr}{o:HO},G7 c=some o->c≠du:=fun hc e=>by rw[e,hdu] at hc;cases hc
   have li:i<(aW m1 m2).length:=(List.getElem?_eq_some_iff.mp hn').1;walk_at "rd";refine⟨.inl ⟨rfl,_,aP.of hdG⟩,.inl ⟨_,.inl hm1⟩,_,bN.k (k:=.inr (tx n)) hm1,.inl ⟨_,.inl hm2⟩,_,bN.k (k:=.inr (tx n)) hm2,by omega,fun t ht=>⟨as.map V.ref,by rw[ah (ag hdG ht)];exact hdG,by rw[List.length_map];omega,?_⟩⟩;rw[cx,cx,c_,c_];refine⟨fun c o hc=>by rw[ah (ne hc),ah (ag (sG _ _ hc) ht)];exact sG _ _ hc,by rw[ah n9,ah (ag fG ht)];exact fG,as++[t],by rw[aa,List.map_append];rfl,by rw[List.length_append,las];rfl,?_⟩;rw[List.take_add_one,hn'];refine bK (Paired.imp' (fun a d' x=>by rw[ah (bV x hdG (by intro z;cases z)),ah (ag x ht)];exact x) hpr) ?_;rw[ah (fun e=>by rw[e,hdG] at ht;cases ht),aa]
  ·rintro σ G ⟨sG,fG,o,as,rfl,hdG,las,hpr⟩
   rw[List.length_map] at las hpr;rw[List.take_length] at hpr;walk_at "rd";have DG:=D7.same sG;have h6G:=sG _ _ h7;have hrG:=sG _ _ (s7 _ _ h6r);have prG:pj G m1 m2 rs6 (aW m1 m2):=Paired.imp' (fun a n x=>sG _ _ (s7 _ _ x)) pr6;intro J hJ;refine⟨_,cE.of h6G,_,rfl,_,_,⟨rfl,rfl⟩,true,_,cz.lst hrG,rfl,?_⟩;rw[if_neg (by simp)];refine⟨_,cE.of h6G,_,rfl,.ref r6,.ref du,_,rfl,fu.lst hrG hdG (sv prG hpr) .nil,by omega,fun G10 kp10=>⟨true,rfl,hJ.go ?_⟩⟩;rw[if_neg (by simp)];walk_at "rd";have s10:aV G G10:=fun c o hc=>kp10 c o hc (by simp);have D10:=DG.same s10;intro I hI;refine⟨_,bN.k' (k:=.inr ("nodes":Str)) D10.hl.hh (dR _ _ _ _ _),a2,rfl,_,_,rfl,aP.of D10.hl.h2,.ref (nas.getD v 0),bS (by rw[List.getElem?_map,(gnas hv').1];rfl),hI.go ?_⟩;walk_at "rd";intro I hI;refine⟨_,bN.k' (k:=.inr ("nodes":Str)) D10.hl.hh (dR _ _ _ _ _),a2,rfl,_,_,rfl,aP.of D10.hl.h2,.ref (nas.getD u 0),bS (by rw[List.getElem?_map,(gnas hu').1];rfl),hI.go ?_⟩;walk_at "rd";intro J hJ;have h10:=s10 _ _ h6G;refine⟨_,cE.of h10,_,rfl,AD (gj1 D10) (gj2 D10) lk3 lk4 fun p11 G11 hp11 f11 kp11=>?_⟩;refine⟨_,.inl ⟨_,aP.of f11,rfl⟩,rfl,hJ.go ?_⟩;rw[if_neg (by rw[List.length_map];simp[nV])];walk_at "rd";have s11:aV G10 G11:=fun c o hc=>kp11 c o hc (by simp);intro pp hpp;have s12:=(aV.refl G11).new (o:=.dK []) hpp;have f12:upd G11 pp (.dK []) pp=some (.dK (aM tV [])):=aa;generalize upd G11 pp (.dK [])=G12 at s12 f12 ⊢;have sA:aV G G12:=(s10.trans s11).trans s12;have hd12:=sA _ _ hdG;have h12:=sA _ _ h6G;have pr12:pj G12 m1 m2 as (aW m1 m2):=Paired.imp' (fun a n x=>sA _ _ x) hpr;have lG:=tU d1 d2;have npp:∀ {c:Addr}{o:HO},G11 c=some o->c≠pp:=fun hc e=>by rw[e,hpp] at hc;cases hc
   have ndu:=npp (s11 _ _ (s10 _ _ hdG));refine⟨⟨_,aP.of hd12⟩,?_⟩;refine cC (K:=K) (a:=du) (xs:=as.map V.ref) (fun i σ G'=>aV G11 G'/\(∃ D,xa ((aW m1 m2).take i) [] D/\G' pp=some (.dK (aM tV D)))/\∃ x8 x9 x10 x11:Option V,σ=[some (.ref p1),some (.ref dl),some (.ref tl),some (.ref h),some (nV v),some (nV u),some (.ref l5),some (.ref q6),some (.ref (mas.getD v 0)),some (.ref (mas.getD u 0)),some (.ref du),x8,some (.ref (nas.getD v 0)),some (.ref (nas.getD u 0)),some (.ref pp),x9,x10,x11])
    ⟨s12,⟨[],⟨.nil,fun b=>by simp[aq]⟩,f12⟩,_,_,_,_,rfl⟩ (fun i σ G' I=>aP.of (I.1 _ _ (s11 _ _ (s10 _ _ hdG)))) ?_ ?_
   ·rintro j y σ G' hj ⟨sN,⟨D,hD,gD⟩,x8,x9,x10,x11,rfl⟩
    rw[List.getElem?_map] at hj;obtain⟨a,ha',rfl⟩:=Option.map_eq_some_iff.mp hj;obtain⟨n,hn',hat⟩:=da hpr ha';have hat':=sN _ _ (s11 _ _ (s10 _ _ hat));have hnm:=List.mem_of_getElem? hn';have nlen:=n90 n hnm;walk_at "rd";refine⟨_,cE.of hat',rfl,_,_,rfl,_,_,rfl,_,_,rfl,rfl,n,rfl,by omega,fun qb hqb=>⟨qb,rfl,⟨_,aP.of aa⟩,?_⟩⟩;have s7:=(aV.refl G').new (o:=.lst ((bq n).map fun b=>V.str (tx b))) hqb;have f7:upd G' qb (.lst ((bq n).map fun b=>V.str (tx b))) qb=some (.lst ((bq n).map sV)):=aa;have g7:=s7 _ _ gD;have nqb:qb≠pp:=fun e=>by rw[<- e,hqb] at gD;cases gD
    generalize upd G' qb (.lst ((bq n).map fun b=>V.str (tx b)))=G13 at s7 f7 g7 ⊢;refine cC (K:=K) (a:=qb) (xs:=(bq n).map sV) (fun i σ G''=>aV G11 G''/\G'' qb=some (.lst ((bq n).map sV))/\(∃ D,xa ((aW m1 m2).take j) ((bq n).take i) D/\G'' pp=some (.dK (aM tV D)))/\∃ x11:Option V,σ=[some (.ref p1),some (.ref dl),some (.ref tl),some (.ref h),some (nV v),some (nV u),some (.ref l5),some (.ref q6),some (.ref (mas.getD v 0)),some (.ref (mas.getD u 0)),some (.ref du),some (sV n),some (.ref (nas.getD v 0)),some (.ref (nas.getD u 0)),some (.ref pp),some (oV (aq m1 n)),some (oV (aq m2 n)),x11])
     ⟨sN.trans s7,f7,⟨D,hD,g7⟩,_,rfl⟩ (fun i σ G'' I=>aP.of I.2.1) ?_ ?_
    ·rintro t y σ G'' ht ⟨sM,eM,⟨D,hD,gD⟩,x11,rfl⟩
     rw[List.getElem?_map] at ht;obtain⟨b,hb',rfl⟩:=Option.map_eq_some_iff.mp ht;have ld:=hD.len (full:=eS d1 d2) (fun n hn=>op6 n (List.mem_of_mem_take hn)) fun b hb=>op6 n hnm b (cn.mp (List.mem_of_mem_take hb));walk_at "rd";refine⟨_,mJ.k (k:=.inr (tx b)) gD (by rw[ir];omega),?_⟩;rw[show V.bl true=tV () from rfl,l_];refine⟨fun c o hc=>by rw[ah (npp hc)];exact sM c o hc,by rw[ah nqb];exact eM,⟨_,?_,aa⟩,_,rfl⟩;rw[List.take_add_one,hb'];exact hD.put b
    ·rintro σ G'' ⟨sM,eM,⟨D,hD,gD⟩,x11,rfl⟩
     rw[List.length_map,List.take_length] at hD;refine⟨sM,⟨D,?_,gD⟩,_,_,_,_,rfl⟩;rw[List.take_add_one,hn'];exact hD.all
   ·rintro σ G' ⟨sN,⟨D,hD,gD⟩,x8,x9,x10,x11,rfl⟩
    rw[List.length_map,las,List.take_length] at hD;have ld:=hD.len (full:=eS d1 d2) (fun n hn=>op6 n hn) fun b hb=>by cases hb
    walk_at "rd";refine⟨_,gD,_,cE.of (sN _ _ (s11 _ _ h10)),_,rfl,_,rfl,?_⟩;rw[decide_eq_true (by rw[ir];omega)];exact k G'
end
end
end Lw
set_option hygiene false in
local macro_rules|`(tactic| walk_at "A")=>`(tactic| exact i_ (by k_is) (by k_is) (by k_is) (by k_is) (by k_is) (Fg fun _=>rfl))
set_option hygiene false in
local macro_rules|`(tactic| walk_at "B")=>`(tactic| exact i_ (by k_is) (by k_is) (by k_is) (by k_is) (by k_is) (GW fun _ _=>rfl))
set_option hygiene false in
local macro_rules|`(tactic| walk_at "C")=>`(tactic| exact i_ (by k_is) (by k_is) (by k_is) (by k_is) (by k_is) (GF fun _ _ _=>rfl))
set_option hygiene false in
local macro_rules|`(tactic| walk_at "D")=>`(tactic| exact i_ (by k_is) (by k_is) (by k_is) (by k_is) (by k_is) (FO fun _ _ _ _=>rfl))
set_option hygiene false in
local macro_rules|`(tactic| walk_at "E")=>`(tactic| exact lZ (by k_is) (by k_is) (by k_is) (by k_is) (by k_is) (by k_is) (by k_is) (Fg fun _=>rfl))
set_option hygiene false in
local macro_rules|`(tactic| walk_at "F")=>`(tactic| exact lZ (by k_is) (by k_is) (by k_is) (by k_is) (by k_is) (by k_is) (by k_is) (GF fun _ _ _=>rfl))
set_option hygiene false in
local macro_rules|`(tactic| walk_at "G")=>`(tactic| exact lZ (by k_is) (by k_is) (by k_is) (by k_is) (by k_is) (by k_is) (by k_is) (FO fun _ _ _ _=>rfl))
set_option hygiene false in
local macro_rules|`(tactic| walk_at "H")=>`(tactic| exact lZ (by k_is) (by k_is) (by k_is) (by k_is) (by k_is) (by k_is) (by k_is) (GV fun _ _ _ _ _=>rfl))
set_option hygiene false in
local macro_rules|`(tactic| walk_at "I")=>`(tactic| exact hU KX G (by k_is) (by k_is) (by k_is) (by k_is) (Fg fun _=>rfl))
set_option hygiene false in
local macro_rules|`(tactic| walk_at "J")=>`(tactic| exact hU KX G (by k_is) (by k_is) (by k_is) (by k_is) (GW fun _ _=>rfl))
set_option hygiene false in
local macro_rules|`(tactic| walk_at "K")=>`(tactic| exact hU KX G (by k_is) (by k_is) (by k_is) (by k_is) (GF fun _ _ _=>rfl))
set_option hygiene false in
local macro_rules|`(tactic| walk_at "L")=>`(tactic| exact hU KX G (by k_is) (by k_is) (by k_is) (by k_is) (FO fun _ _ _ _=>rfl))
set_option hygiene false in
local macro_rules|`(tactic| walk_at "M")=>`(tactic| exact hU KX G (by k_is) (by k_is) (by k_is) (by k_is) (GV fun _ _ _ _ _=>rfl))
namespace Lw
open PySem L2 PyProof.Rows
theorem all_mk {l:PySem.W.OpenLaw}{w:World}{K:PySem.W.Frag}{h:Heap}{mg:Str->Option Value}{fa CN CP CNV CNN CV CB:Addr}{B0 newId initId:String}{bmB:List Value} (X:K.In h) (G:h.Ns mainGlobals mg) (hfa:mg "law"=some (.ref fa))
  (a_Node:PySem.W.nsIn K mainGlobals "Node"=some (some (.ref CN)))
  (a_Place:PySem.W.nsIn K mainGlobals "Place"=some (some (.ref CP)))
  (a_NoVersion:PySem.W.nsIn K mainGlobals "NoVersion"=some (some (.ref CNV)))
  (a_NoName:PySem.W.nsIn K mainGlobals "NoName"=some (some (.ref CNN)))
  (a_Version:PySem.W.nsIn K mainGlobals "Version"=some (some (.ref CV)))
  (a_Book:PySem.W.nsIn K mainGlobals "Book"=some (some (.ref CB)))
  (t_Node:Cy K CN)
  (t_Place:Cz K CP)
  (t_Version:Fv K CV)
  (t_Book:Ez K CB)
  (eqN:zS K CN)
  (FB:ExcBaseFacts B0 newId initId bmB)
  (x_NoVersion:PySem.W.excIn K CNV bmB newId=true)
  (x_NoName:PySem.W.excIn K CNN bmB newId=true)
  (ex:GZ K CNV CNN)
  (gE:PySem.W.nsIn K mainGlobals "EMPTY"=some (some .none))
  (b_len:PySem.W.nsIn K mainGlobals "len"=some none)
  (b_range:PySem.W.nsIn K mainGlobals "range"=some none)
  (b_sorted:PySem.W.nsIn K mainGlobals "sorted"=some none)
  (b_list:PySem.W.nsIn K mainGlobals "list"=some none)
  (b_dict:PySem.W.nsIn K mainGlobals "dict"=some none)
  (b_isinstance:PySem.W.nsIn K mainGlobals "isinstance"=some none)
  (b_str:PySem.W.nsIn K mainGlobals "str"=some none)
  (b_int:PySem.W.nsIn K mainGlobals "int"=some none)
  (b_bool:PySem.W.nsIn K mainGlobals "bool"=some none)
  (b_tuple:PySem.W.nsIn K mainGlobals "tuple"=some none)
  (b_max:PySem.W.nsIn K mainGlobals "max"=some none)
  (b_all:PySem.W.nsIn K mainGlobals "all"=some none)
  (b_reversed:PySem.W.nsIn K mainGlobals "reversed"=some none)
  (b_set:PySem.W.nsIn K mainGlobals "set"=some none)
  (b_zip:PySem.W.nsIn K mainGlobals "zip"=some none)
  (F__law_is_name:fq K mg "_law_is_name" ya ["_law_name"])
  (F__law_beginnings_of:fq K mg "_law_beginnings_of" xJ ["_law_name"])
  (F__law_set:fq K mg "_law_set" yi ["_law_hall","_law_values","_law_nodes","_law_name","_law_to"])
  (F__law_changes:fq K mg "_law_changes" wj ["_law_old","_law_new"])
  (F__law_note:fq K mg "_law_note" wq ["_law_hall","_law_values","_law_nodes","_law_parent"])
  (F__law_start:fq K mg "_law_start" pL [])
  (F__law_joining:fq K mg "_law_joining" rj ["_law_hall","_law_deed"])
  (F__law_plainly:fq K mg "_law_plainly" EZ ["_law_hall","_law_deed"])
  (F__law_name_by:fq K mg "_law_name_by" GN ["_law_seed"])
  (F__law_deed_by:fq K mg "_law_deed_by" FJ ["_law_seed","_law_count"])
  (F__law_day:fq K mg "_law_day" AK ["_law_cells"])
  (F__law_mixed:fq K mg "_law_mixed" yo ["_law_script"])
  (F__law_at:fq K mg "_law_at" GP ["_law_script","_law_k"])
  (F__law_pick:fq K mg "_law_pick" vG ["_law_hall","_law_seed"])
  (F__law_stays_so:fq K mg "_law_stays_so" FT ["_law_handed","_law_own"])
  (F_Node___init__:A_ K CN "Node.__init__" zQ ["self","value","branches"])
  (F_value_at:fq K mg "value_at" AM ["node"])
  (F_branches_at:fq K mg "branches_at" BQ ["node"])
  (F_node_behind:fq K mg "node_behind" Aa ["node","letter"])
  (F_letters_on:fq K mg "letters_on" Bb ["node"])
  (F_node_if_needed:fq K mg "node_if_needed" zw ["value","branches"])
  (F_with_value:fq K mg "with_value" Gs ["node","value"])
  (F_with_branch:fq K mg "with_branch" GD ["node","letter","behind"])
  (F_is_name:fq K mg "is_name" EU ["text"])
  (F_nodes_along:fq K mg "nodes_along" FR ["root","name"])
  (F_rebuilt:fq K mg "rebuilt" yw ["along","name","value"])
  (F_refuse_no_name:fq K mg "refuse_no_name" Ai ["text"])
  (F_changed:fq K mg "changed" AX ["root","name","value"])
  (F_Place___init__:A_ K CP "Place.__init__" Ab ["self","text","base","one","two"])
  (F_Place_is_shared:pF K CP "is_shared" "Place.is_shared" FF ["self"])
  (F_Place_row:pF K CP "row" "Place.row" Bg ["self"])
  (F_Place_place_behind:pF K CP "place_behind" "Place.place_behind" E2 ["self","letter"])
  (F_Place_places_behind:pF K CP "places_behind" "Place.places_behind" yc ["self"])
  (F_is_changed_from_both:fq K mg "is_changed_from_both" Ao ["row"])
  (F_rows_apart:fq K mg "rows_apart" Gd ["base","one","two"])
  (F_rows_to_join:fq K mg "rows_to_join" FI ["base","one","two"])
  (F_Version___init__:A_ K CV "Version.__init__" Aw ["self","root","parent","made"])
  (F_Book___init__:A_ K CB "Book.__init__" A0 ["self"])
  (F_Book_version_at:pF K CB "version_at" "Book.version_at" zF ["self","number"])
  (F_Book_root_at:pF K CB "root_at" "Book.root_at" BZ ["self","number"])
  (F_Book_keep:pF K CB "keep" "Book.keep" vW ["self","root","parent","made"])
  (F_Book_keep_changed:pF K CB "keep_changed" "Book.keep_changed" GL ["self","parent","name","value"])
  (F_Book_keep_all_changed:pF K CB "keep_all_changed" "Book.keep_all_changed" FL ["self","parent","pairs"])
  (F_Book_keep_joined:pF K CB "keep_joined" "Book.keep_joined" Dd ["self","base","one","two"])
  (F_Book_made_by:pF K CB "made_by" "Book.made_by" Ga ["self","deed"])
  (F_Book_answer_to:pF K CB "answer_to" "Book.answer_to" GK ["self","deed"])
  (F_Book_do:pF K CB "do" "Book.do" F7 ["self","deed"])
  (F_book_of:fq K mg "book_of" Gf ["deeds"])
  (F_difference_of:fq K mg "difference_of" E4 ["one","two"])
  (F_difference:fq K mg "difference" zz ["deeds","one","two"])
  (F__law_whole:fq K mg "_law_whole" Gy ["_law_found"])
  (F_law:fq K mg "law" B9 ["_law_script"]) :
  ∃ fd:FuncData,(∀ (s:Shared) (v:Value),BindsTo s fd ⟨[v],[]⟩ [("_law_script",v)])/\∀ base:Heap,K.In base->base.Ns mainGlobals mg->aR l.prog w K mg base aT 20 fa fd ["_law_script"] (rC K):=by
 have e:=hfa;obtain⟨f,fd,F,hm,hb⟩:=F_law;have e:=hfa.symm.trans hm
 cases e;refine⟨fd,fun s v=>.of_eq (hb [v] rfl),fun base I _=>?_⟩;have B:Bl mg:=⟨PySem.W.mg_none_of X G b_len,PySem.W.mg_none_of X G b_range,PySem.W.mg_none_of X G b_sorted,PySem.W.mg_none_of X G b_list,PySem.W.mg_none_of X G b_dict,PySem.W.mg_none_of X G b_isinstance,PySem.W.mg_none_of X G b_str,PySem.W.mg_none_of X G b_int,PySem.W.mg_none_of X G b_bool,PySem.W.mg_none_of X G b_tuple,PySem.W.mg_none_of X G b_max,PySem.W.mg_none_of X G b_all⟩;have B2:Ha mg:=⟨PySem.W.mg_none_of X G b_reversed,PySem.W.mg_none_of X G b_set⟩;have g_EMPTY:=PySem.W.mg_of X G gE;have g_Node:=PySem.W.mg_of X G a_Node;have g_Place:=PySem.W.mg_of X G a_Place;have g_NoVersion:=PySem.W.mg_of X G a_NoVersion;have g_NoName:=PySem.W.mg_of X G a_NoName;have g_Version:=PySem.W.mg_of X G a_Version;have g_Book:=PySem.W.mg_of X G a_Book;have o_NoVersion:=iF I g_NoVersion x_NoVersion;have o_NoName:=iF I g_NoName x_NoName;have c__law_is_name:bU l.prog w K mg base aT 1 "_law_is_name" ["_law_name"] wJ:=F__law_is_name.df (fun _ _ F=>Bc B F);have c__law_beginnings_of:bU l.prog w K mg base aT 1 "_law_beginnings_of" ["_law_name"] rE:=F__law_beginnings_of.df (fun _ _ F=>Ce B F);have c__law_set:bU l.prog w K mg base aT 2 "_law_set" ["_law_hall","_law_values","_law_nodes","_law_name","_law_to"] sj:=F__law_set.df (fun _ _ F=>BR B (c__law_beginnings_of.mono (by omega)) F);have c__law_changes:bU l.prog w K mg base aT 1 "_law_changes" ["_law_old","_law_new"] lK:=F__law_changes.df (fun _ _ F=>Ak B F);have c__law_note:bU l.prog w K mg base aT 1 "_law_note" ["_law_hall","_law_values","_law_nodes","_law_parent"] nh:=F__law_note.df (fun _ _ F=>xp B F);have c__law_start:bU l.prog w K mg base aT 1 "_law_start" [] nI:=F__law_start.df (fun _ _ F=>wB  F);have c__law_joining:bU l.prog w K mg base aT 3 "_law_joining" ["_law_hall","_law_deed"] qK:=F__law_joining.df (fun _ _ F=>yF B (c__law_changes.mono (by omega)) (c__law_set.mono (by omega)) (c__law_note.mono (by omega)) F);have c__law_plainly:bU l.prog w K mg base aT 4 "_law_plainly" ["_law_hall","_law_deed"] zG:=F__law_plainly.df (fun _ _ F=>Ew B (c__law_is_name.mono (by omega)) (c__law_joining.mono (by omega)) (c__law_set.mono (by omega)) (c__law_note.mono (by omega)) F);have c__law_name_by:bU l.prog w K mg base aT 1 "_law_name_by" ["_law_seed"] zP:=F__law_name_by.df (fun _ _ F=>Ei B F);have c__law_deed_by:bU l.prog w K mg base aT 2 "_law_deed_by" ["_law_seed","_law_count"] BO:=F__law_deed_by.df (fun _ _ F=>EN B (c__law_name_by.mono (by omega)) F);have c__law_day:bU l.prog w K mg base aT 5 "_law_day" ["_law_cells"] wu:=F__law_day.df (fun _ _ F=>zU B (c__law_start.mono (by omega)) (c__law_deed_by.mono (by omega)) (c__law_plainly.mono (by omega)) F);have c__law_mixed:bU l.prog w K mg base aT 1 "_law_mixed" ["_law_script"] uH:=F__law_mixed.df (fun _ _ F=>Bm B F);have c__law_at:bU l.prog w K mg base aT 1 "_law_at" ["_law_script","_law_k"] Az:=F__law_at.df (fun _ _ F=>EJ B F);have c__law_pick:bU l.prog w K mg base aT 1 "_law_pick" ["_law_hall","_law_seed"] qV:=F__law_pick.df (fun _ _ F=>xw B F);have c__law_stays_so:bU l.prog w K mg base aT 1 "_law_stays_so" ["_law_handed","_law_own"] zT:=F__law_stays_so.df (fun _ _ F=>CS B F);have n_Node:gd l.prog w K mg base 1 "Node" CN ["self","value","branches"] (rW CN):=F_Node___init__.df g_Node (fun _ _ F=>B3 t_Node F);have c_value_at:bU l.prog w K mg base aT 1 "value_at" ["node"] (ow CN):=F_value_at.df (fun _ _ F=>BF t_Node F);have c_branches_at:bU l.prog w K mg base aT 1 "branches_at" ["node"] (sD CN):=F_branches_at.df (fun _ _ F=>BJ B t_Node F);have c_node_behind:bU l.prog w K mg base aT 1 "node_behind" ["node","letter"] (rh CN):=F_node_behind.df (fun _ _ F=>An t_Node F);have c_letters_on:bU l.prog w K mg base aT 1 "letters_on" ["node"] (uS CN):=F_letters_on.df (fun _ _ F=>BP B t_Node F);have c_node_if_needed:bU l.prog w K mg base aT 3 "node_if_needed" ["value","branches"] (rR CN):=F_node_if_needed.df (fun _ _ F=>BG B (n_Node.mono (by omega)) F);have c_with_value:bU l.prog w K mg base aT 4 "with_value" ["node","value"] (BE CN):=F_with_value.df (fun _ _ F=>DM (c_node_if_needed.mono (by omega)) (c_branches_at.mono (by omega)) F);have c_with_branch:bU l.prog w K mg base aT 4 "with_branch" ["node","letter","behind"] (Bz CN):=F_with_branch.df (fun _ _ F=>C1 (c_node_if_needed.mono (by omega)) (c_branches_at.mono (by omega)) (c_value_at.mono (by omega)) F);have c_is_name:bU l.prog w K mg base aT 1 "is_name" ["text"] Am:=F_is_name.df (fun _ _ F=>Dc B F);have c_nodes_along:bU l.prog w K mg base aT 3 "nodes_along" ["root","name"] (B1 CN):=F_nodes_along.df (fun _ _ F=>C6 (c_node_behind.mono (by omega)) F);have c_rebuilt:bU l.prog w K mg base aT 6 "rebuilt" ["along","name","value"] (uX CN):=F_rebuilt.df (fun _ _ F=>AU B (c_with_value.mono (by omega)) (c_with_branch.mono (by omega)) F);have c_refuse_no_name:bU l.prog w K mg base (fz l.prog w) 2 "refuse_no_name" ["text"] (uM CNN):=F_refuse_no_name.df (fun _ _ F=>B4 o_NoName FB (c_is_name.mono (by omega)) F);have c_changed:bU l.prog w K mg base (fz l.prog w) 8 "changed" ["root","name","value"] (su CN CNN):=F_changed.df (fun _ _ F=>Cd (c_refuse_no_name.mono (by omega)) (c_nodes_along.mono (by omega)) (c_value_at.mono (by omega)) (c_rebuilt.mono (by omega)) F);have n_Place:gd l.prog w K mg base 1 "Place" CP sQ (rP CP):=F_Place___init__.df g_Place (fun _ _ F=>AV t_Place F);have m_Place_is_shared:ck l.prog w K mg base aT 1 CP "is_shared" ["self"] (Bf CN CP):=F_Place_is_shared.df t_Place.cl (fun _ _ F=>EC eqN t_Place F);have m_Place_row:ck l.prog w K mg base aT 3 CP "row" ["self"] (vT CN CP):=F_Place_row.df t_Place.cl (fun _ _ F=>BK (c_value_at.mono (by omega)) t_Place F);have m_Place_place_behind:ck l.prog w K mg base aT 3 CP "place_behind" ["self","letter"] (zX CN CP):=F_Place_place_behind.df t_Place.cl (fun _ _ F=>Dl (c_node_behind.mono (by omega)) (n_Place.mono (by omega)) t_Place F);have m_Place_places_behind:ck l.prog w K mg base aT 5 CP "places_behind" ["self"] (uW CN CP):=F_Place_places_behind.df t_Place.cl (fun _ _ F=>zC B B2 (c_letters_on.mono (by omega)) (m_Place_place_behind.mono (by omega)) t_Place F);have c_is_changed_from_both:bU l.prog w K mg base aT 1 "is_changed_from_both" ["row"] uK:=F_is_changed_from_both.df (fun _ _ F=>As  F);have c_rows_apart:bU l.prog w K mg base aT 7 "rows_apart" ["base","one","two"] (yy CN):=F_rows_apart.df (fun _ _ F=>Ej B (n_Place.mono (by omega)) (m_Place_is_shared.mono (by omega)) (m_Place_row.mono (by omega)) (m_Place_places_behind.mono (by omega)) (c_is_changed_from_both.mono (by omega)) F);have c_rows_to_join:bU l.prog w K mg base aT 9 "rows_to_join" ["base","one","two"] (BB CN):=F_rows_to_join.df (fun _ _ F=>C0 (c_rows_apart.mono (by omega)) F);have n_Version:gd l.prog w K mg base 1 "Version" CV uh (rA CV):=F_Version___init__.df g_Version (fun _ _ F=>A7 t_Version F);have n_Book:gd l.prog w K mg base 3 "Book" CB ["self"] (vg CN CV CB):=F_Book___init__.df g_Book (fun _ _ F=>AS g_EMPTY (n_Version.mono (by omega)) t_Book F);have m_Book_version_at:ck l.prog w K mg base (fz l.prog w) 1 CB "version_at" ["self","number"] (wR CN CV CB CNV):=F_Book_version_at.df t_Book.cl (fun _ _ F=>BW B o_NoVersion FB t_Book F);have m_Book_root_at:ck l.prog w K mg base (fz l.prog w) 3 CB "root_at" ["self","number"] (lQ CN CV CB CNV):=F_Book_root_at.df t_Book.cl (fun _ _ F=>AZ (m_Book_version_at.mono (by omega)) t_Version F);have m_Book_keep:ck l.prog w K mg base aT 3 CB "keep" lE (mj CN CV CB):=F_Book_keep.df t_Book.cl (fun _ _ F=>xr B (n_Version.mono (by omega)) t_Book F);have m_Book_keep_changed:ck l.prog w K mg base (fz l.prog w) 10 CB "keep_changed" ["self","parent","name","value"] (B6 CN CV CB CNV CNN):=F_Book_keep_changed.df t_Book.cl (fun _ _ F=>DN (m_Book_root_at.mono (by omega)) (c_changed.mono (by omega)) (m_Book_keep.mono (by omega)) F);have m_Book_keep_all_changed:ck l.prog w K mg base aT 10 CB "keep_all_changed" ["self","parent","pairs"] (Be CN CV CB):=F_Book_keep_all_changed.df t_Book.cl (fun _ _ F=>D9 (m_Book_root_at.mono (by omega)) (c_changed.mono (by omega)) (m_Book_keep.mono (by omega)) F);have m_Book_keep_joined:ck l.prog w K mg base (fz l.prog w) 12 CB "keep_joined" ["self","base","one","two"] (Aj CN CV CB CNV):=F_Book_keep_joined.df t_Book.cl (fun _ _ F=>CQ B (m_Book_root_at.mono (by omega)) (c_rows_to_join.mono (by omega)) (m_Book_keep_all_changed.mono (by omega)) F);have m_Book_made_by:ck l.prog w K mg base (fz l.prog w) 14 CB "made_by" ["self","deed"] (A1 CN CV CB CNV CNN):=F_Book_made_by.df t_Book.cl (fun _ _ F=>CD (m_Book_keep_changed.mono (by omega)) (m_Book_keep_joined.mono (by omega)) F);have m_Book_answer_to:ck l.prog w K mg base aT 15 CB "answer_to" ["self","deed"] (Ay CN CV CB):=F_Book_answer_to.df t_Book.cl (fun _ _ F=>C8 g_NoVersion g_NoName ex (m_Book_made_by.mono (by omega)) F);have m_Book_do:ck l.prog w K mg base aT 16 CB "do" ["self","deed"] (Cg CN CV CB):=F_Book_do.df t_Book.cl (fun _ _ F=>En t_Book (m_Book_answer_to.mono (by omega)) F);have c_book_of:bU l.prog w K mg base aT 17 "book_of" ["deeds"] (BS CN CV CB):=F_book_of.df (fun _ _ F=>Eb (n_Book.mono (by omega)) (m_Book_do.mono (by omega)) F);have c_difference_of:bU l.prog w K mg base aT 9 "difference_of" ["one","two"] (zA CN):=F_difference_of.df (fun _ _ F=>DV (c_rows_apart.mono (by omega)) F);have c_difference:bU l.prog w K mg base aT 18 "difference" ["deeds","one","two"] wV:=F_difference.df (fun _ _ F=>BH (c_book_of.mono (by omega)) (m_Book_root_at.mono (by omega)) (c_difference_of.mono (by omega)) F);have c__law_whole:bU l.prog w K mg base aT 1 "_law_whole" ["_law_found"] Cb:=F__law_whole.df (fun _ _ F=>EK B F);exact A6 B (c__law_mixed.mono (by omega)) (c__law_day.mono (by omega)) (c__law_at.mono (by omega)) (c__law_pick.mono (by omega)) (c__law_stays_so.mono (by omega)) (c__law_whole.mono (by omega)) (c__law_changes.mono (by omega)) (c__law_beginnings_of.mono (by omega)) (c_difference.mono (by omega)) F
theorem walk {l:PySem.W.OpenLaw}{q:Program}{loose:List Str}{XP:(Str->Option Value)->Heap->Prop}{YP:World->Heap->Prop}{d:DefRec}{K:Params->PySem.W.Frag} (most:l.most=some 63) (plain:d.params.defaults=[])
  (at_:∀ (w:World) (h:Heap),YP w h->(K w.params).In h)
  (F:∀ (w:World) (mg:Str->Option Value) (fa:Addr) (h:Heap),(K w.params).In h->h.Ns mainGlobals mg->mg d.name=some (.ref fa) ->
   ∃ fd:FuncData,(∀ (s:Shared) (v:Value),BindsTo s fd ⟨[v],[]⟩ [("_law_script",v)])/\∀ base:Heap,(K w.params).In base->base.Ns mainGlobals mg->aR l.prog w (K w.params) mg base aT 20 fa fd ["_law_script"] (rC (K w.params))) :
  PySem.W.WalkO q loose XP YP l.row.toRowW d [] (fun f vs=>PySem.call f vs):=by
 refine L2.yJ (x:="_law_script") (CX:=fun _=>aT) (sp:=fun w=>rC (K w.params)) most ?_ plain ?_ at_ F ?_ ?_
 ·decide
 ·exact⟨rfl,by decide,by decide⟩
 ·exact fun _ _ a xs few _ at_=>⟨a,xs,rfl,at_,few,fun _=>rfl⟩
 ·exact fun _ _ _ _ _ no=>no
end Lw
namespace PySem.W.Fast
theorem tw9486242941346855152:0=0:=rfl
theorem tw17658739474633303832:0=0:=rfl
theorem tw17072746431781263752:0=0:=rfl
theorem tw7191030390140981324:0=0:=rfl
theorem tw16945953120247045017:0=0:=rfl
theorem tw6884765676182090942:0=0:=rfl
theorem tw7418141527896053878:0=0:=rfl
theorem tw11584273911167238102:0=0:=rfl
theorem tw7378134306783359802:0=0:=rfl
theorem tw15545044039639877641:0=0:=rfl
theorem tw14040017002955607839:0=0:=rfl
theorem tw16055411097026205954:0=0:=rfl
theorem tw14977463212391809918:0=0:=rfl
theorem tw9488059677095096501:0=0:=rfl
theorem tw5933508325869619430:0=0:=rfl
theorem tw15737358656460864377:0=0:=rfl
theorem tw1264122693445437950:0=0:=rfl
theorem tw14731994688216534795:0=0:=rfl
theorem tw5165840128580966798:0=0:=rfl
theorem tw15770796338034190215:0=0:=rfl
theorem tw9033173625106456709:0=0:=rfl
theorem tw14123245194987070435:0=0:=rfl
theorem tw8961311232283538425:0=0:=rfl
theorem tw2974950711068649726:0=0:=rfl
theorem tw15997969832604557795:0=0:=rfl
theorem tw987740767656223167:0=0:=rfl
theorem tw2946849080482257877:0=0:=rfl
theorem tw3125820609188109358:0=0:=rfl
theorem tw12102021498881413195:0=0:=rfl
theorem tw14401755492816210314:0=0:=rfl
theorem tw5161883394662028301:0=0:=rfl
theorem tw14821934525660326729:0=0:=rfl
theorem tw2579254467453949785:0=0:=rfl
theorem tw5413124963410141424:0=0:=rfl
theorem tw10435718697727805778:0=0:=rfl
theorem tw2099675516119120911:0=0:=rfl
theorem tw14997728410823681113:0=0:=rfl
theorem tw4912483054376742334:0=0:=rfl
theorem tw10306165149178197494:0=0:=rfl
theorem tw16341103875010591164:0=0:=rfl
theorem tw5096910377665241516:0=0:=rfl
theorem tw898851095555736227:0=0:=rfl
theorem tw5002086627898148337:0=0:=rfl
theorem tw17634221032753123313:0=0:=rfl
theorem tw13329652689139032612:0=0:=rfl
theorem tw4976099600428538851:0=0:=rfl
theorem tw16292213620240371707:0=0:=rfl
theorem tw14306456646352693973:0=0:=rfl
theorem tw1186773071615908951:0=0:=rfl
theorem tw7018989937954556542:0=0:=rfl
theorem tw7155208709870381701:0=0:=rfl
theorem tw5674199904575541392:0=0:=rfl
theorem tw12298906451012555158:0=0:=rfl
theorem tw10495962142741276388:0=0:=rfl
theorem tw15318007776766622783:0=0:=rfl
theorem tw4970421414120095479:0=0:=rfl
theorem tw7169949184414545449:0=0:=rfl
theorem tw520973148085404276:0=0:=rfl
theorem tw7731477540474022880:0=0:=rfl
theorem tw14796024358391453395:0=0:=rfl
theorem tw16671382238588036044:0=0:=rfl
theorem tw4281213496520408435:0=0:=rfl
theorem tw6300737227842509751:0=0:=rfl
theorem tw17539185134735508598:0=0:=rfl
theorem tw12374786582811611408:0=0:=rfl
theorem tw17088756145589125584:0=0:=rfl
theorem tw9887262465417794715:0=0:=rfl
theorem tw2283101089798281344:0=0:=rfl
theorem tw10884105286799022785:0=0:=rfl
theorem tw6835232578869147556:0=0:=rfl
theorem tw14319390984037995881:0=0:=rfl
theorem tw9987059126098498802:0=0:=rfl
theorem tw1116625139592421476:0=0:=rfl
theorem tw2311429595153632624:0=0:=rfl
theorem tw3975540475151830352:0=0:=rfl
theorem tw12393204597099168314:0=0:=rfl
theorem tw4046038470249345122:0=0:=rfl
theorem tw16107437011492357344:0=0:=rfl
theorem tw16933250953305161124:0=0:=rfl
theorem tw9155366465322060773:0=0:=rfl
theorem tw1009319787007944789:0=0:=rfl
theorem tw16788143475782377386:0=0:=rfl
theorem tw2567219265946341941:0=0:=rfl
theorem tw8075394607212889757:0=0:=rfl
theorem tw12195150908187665405:0=0:=rfl
theorem tw8053110018550360624:0=0:=rfl
theorem tw4387223281422267756:0=0:=rfl
theorem tw4449374905952965562:0=0:=rfl
theorem tw4575034646952449113:0=0:=rfl
theorem tw808745872814298550:0=0:=rfl
theorem tw7107421677208285315:0=0:=rfl
theorem tw14883954426761286929:0=0:=rfl
theorem tw9012722131516089046:0=0:=rfl
theorem tw12515413816095158288:0=0:=rfl
theorem tw3900474117759683031:0=0:=rfl
theorem tw3718897155739422725:0=0:=rfl
theorem tw9964912943034820576:0=0:=rfl
theorem tw16541490025677040215:0=0:=rfl
theorem tw13596168817945883632:0=0:=rfl
theorem tw7650887229519090985:0=0:=rfl
theorem tw17482925330930008979:0=0:=rfl
theorem tw1013850758403473534:0=0:=rfl
theorem tw11596757211786859689:0=0:=rfl
theorem tw408575085444566382:0=0:=rfl
theorem tw11682626799855750384:0=0:=rfl
theorem tw317505884307387538:0=0:=rfl
theorem tw7115067920813216303:0=0:=rfl
theorem tw9885613696162184603:0=0:=rfl
theorem tw2960307370104080117:0=0:=rfl
theorem tw11190102055798747732:0=0:=rfl
theorem tw12288771674281417852:0=0:=rfl
theorem tw13030256952743390361:0=0:=rfl
theorem tw6963663877605139957:0=0:=rfl
theorem tw8492017320491428188:0=0:=rfl
theorem tw3436159745472896984:0=0:=rfl
theorem tw12415855557647919339:0=0:=rfl
theorem tw15509591663214018579:0=0:=rfl
theorem tw1265039548891304048:0=0:=rfl
theorem tw2181758374680363726:0=0:=rfl
theorem tw1963981280381030248:0=0:=rfl
theorem tw8421064053616184841:0=0:=rfl
theorem tw7700203731109901606:0=0:=rfl
theorem tw16439372598891260124:0=0:=rfl
theorem tw3704926372755010658:0=0:=rfl
theorem tw9882668945167669335:0=0:=rfl
theorem tw8342695214211077633:0=0:=rfl
theorem tw2082690067761508981:0=0:=rfl
theorem tw6634848309162905187:0=0:=rfl
theorem tw7461045207282075617:0=0:=rfl
theorem tw14190146264087880566:0=0:=rfl
theorem tw6641591120429922296:0=0:=rfl
theorem tw9564201034983543565:0=0:=rfl
theorem tw14740689887084335556:0=0:=rfl
theorem tw5539481894239300890:0=0:=rfl
theorem tw13026496743851406410:0=0:=rfl
theorem tw3621347667951942858:0=0:=rfl
theorem tw17265061249095021324:0=0:=rfl
theorem tw4209923720334514711:0=0:=rfl
theorem tw502875488746554197:0=0:=rfl
theorem tw16406052183935084932:0=0:=rfl
theorem tw11042444570904153094:0=0:=rfl
theorem tw4956376980756178862:0=0:=rfl
theorem tw17026073761674202000:0=0:=rfl
theorem tw4749842762445952169:0=0:=rfl
theorem tw4000991020504989654:0=0:=rfl
theorem tw1460630645096120181:0=0:=rfl
theorem tw13982854890276037437:0=0:=rfl
theorem tw1734241058545709380:0=0:=rfl
theorem tw17196975698535097457:0=0:=rfl
theorem tw13885661426176902473:0=0:=rfl
theorem tw1326502537382412641:0=0:=rfl
theorem tw13240824688068111943:0=0:=rfl
theorem tw402847612489422217:0=0:=rfl
theorem tw5098543955760537755:0=0:=rfl
theorem tw6336501410669588111:0=0:=rfl
theorem tw15572509009972564823:0=0:=rfl
theorem tw6072172846905757880:0=0:=rfl
theorem tw5293756436000584702:0=0:=rfl
theorem tw14859103496504878829:0=0:=rfl
theorem tw17091197319508597979:0=0:=rfl
theorem tw10474548453524939678:0=0:=rfl
theorem tw8456330680021761264:0=0:=rfl
theorem tw7340327686917212626:0=0:=rfl
theorem tw14011616059103234805:0=0:=rfl
theorem tw8334561648897369294:0=0:=rfl
theorem tw15488666334028813282:0=0:=rfl
theorem tw7764370342953337518:0=0:=rfl
theorem tw12779085117007900990:0=0:=rfl
theorem tw8532412520212955083:0=0:=rfl
theorem tw3272974724443075686:0=0:=rfl
theorem tw12397526748416368317:0=0:=rfl
theorem tw4319004979361031053:0=0:=rfl
theorem tw842894607160001840:0=0:=rfl
theorem tw10582604144602342657:0=0:=rfl
theorem tw8031090755904179747:0=0:=rfl
theorem tw17408246873320688835:0=0:=rfl
theorem tw16516129069537237802:0=0:=rfl
theorem tw7787262581842299377:0=0:=rfl
theorem tw2900120037313789785:0=0:=rfl
theorem tw2025672460706765390:0=0:=rfl
theorem tw12973243139538276689:0=0:=rfl
theorem tw13331257652069094779:0=0:=rfl
theorem tw8423938153309081431:0=0:=rfl
theorem tw13527034390365572644:0=0:=rfl
theorem tw583302207299890359:0=0:=rfl
theorem tw7527226187861640427:0=0:=rfl
theorem tw16700184869442674051:0=0:=rfl
theorem tw12805399550019895434:0=0:=rfl
theorem tw13550960880716402464:0=0:=rfl
theorem tw10162765393042891239:0=0:=rfl
theorem tw913959586874469230:0=0:=rfl
theorem tw14015075694884282553:0=0:=rfl
theorem tw1276147038550724005:0=0:=rfl
theorem tw7022932904052793765:0=0:=rfl
theorem tw11935954528667190302:0=0:=rfl
theorem tw6428040224489984446:0=0:=rfl
theorem tw17015823339323833870:0=0:=rfl
theorem tw18176123140392671675:0=0:=rfl
theorem tw1712513649478734677:0=0:=rfl
theorem tw6623234930678525383:0=0:=rfl
theorem tw8069035734899264404:0=0:=rfl
theorem tw9812333022431078893:0=0:=rfl
theorem tw14105216752433942369:0=0:=rfl
theorem tw17037530265671879216:0=0:=rfl
theorem tw17600858332767003491:0=0:=rfl
theorem tw15510355629329952121:0=0:=rfl
theorem tw15075817103012411540:0=0:=rfl
theorem tw7926619987431818456:0=0:=rfl
theorem tw11723686015870203304:0=0:=rfl
theorem tw13299609432959998920:0=0:=rfl
theorem tw9959735191709504232:0=0:=rfl
theorem tw6499053495563405792:0=0:=rfl
theorem tw10999830990073376957:0=0:=rfl
theorem tw157064970635767917:0=0:=rfl
theorem tw16351411783471202974:0=0:=rfl
theorem tw10285014005886428039:0=0:=rfl
theorem tw427352720046646155:0=0:=rfl
theorem tw17664853655679565193:0=0:=rfl
theorem tw1877290742768117880:0=0:=rfl
theorem tw11798262947690068613:0=0:=rfl
theorem tw17555518524793546785:0=0:=rfl
theorem tw17393189482078549845:0=0:=rfl
theorem tw2007874980648796048:0=0:=rfl
theorem tw9410412992229903009:0=0:=rfl
theorem tw2750824356468975747:0=0:=rfl
theorem tw367449312383566706:0=0:=rfl
theorem tw12055389191589043624:0=0:=rfl
theorem tw13508665894100809981:0=0:=rfl
theorem tw15659832408908469990:0=0:=rfl
theorem tw9722408873654796789:0=0:=rfl
theorem tw5903864266574647210:0=0:=rfl
theorem tw5431251828961253223:0=0:=rfl
theorem tw6318645777346837465:0=0:=rfl
theorem tw17152092380944257125:0=0:=rfl
theorem tw4742718604700884164:0=0:=rfl
theorem tw18266060531547830800:0=0:=rfl
theorem tw17998915750082699728:0=0:=rfl
theorem tw17771231458565416903:0=0:=rfl
theorem tw5194128464466574663:0=0:=rfl
theorem tw485352406694666925:0=0:=rfl
theorem tw9330420180691203659:0=0:=rfl
theorem tw17970162824847841463:0=0:=rfl
theorem tw12794760285205234109:0=0:=rfl
theorem tw2632831923962410901:0=0:=rfl
theorem tw3385399265535013416:0=0:=rfl
theorem tw6175901818703719441:0=0:=rfl
theorem tw2906462419596988179:0=0:=rfl
theorem tw13352333599597464372:0=0:=rfl
theorem tw6902828480437201796:0=0:=rfl
theorem tw6285600554072782993:0=0:=rfl
theorem tw14894541298946947793:0=0:=rfl
theorem tw1759663779891204259:0=0:=rfl
theorem tw6599581933314898885:0=0:=rfl
theorem tw14085066739930587527:0=0:=rfl
theorem tw16644641392211575078:0=0:=rfl
theorem tw13362123140705480929:0=0:=rfl
theorem tw11270357562370850068:0=0:=rfl
theorem tw11653349752675160077:0=0:=rfl
theorem tw10682505837691050090:0=0:=rfl
theorem tw16958201732362522906:0=0:=rfl
theorem tw8984630674700501898:0=0:=rfl
theorem tw4990779004895663769:0=0:=rfl
theorem tw12676676552819453699:0=0:=rfl
theorem tw12082910654934358562:0=0:=rfl
theorem tw3255134413843339857:0=0:=rfl
theorem tw10956589986297932083:0=0:=rfl
theorem tw18287153948463839870:0=0:=rfl
theorem tw5665572092272957616:0=0:=rfl
theorem tw14419656251553572195:0=0:=rfl
theorem tw2044294436922542505:0=0:=rfl
theorem tw13790214113209243641:0=0:=rfl
theorem tw12485668534851176433:0=0:=rfl
theorem tw8935133008802840293:0=0:=rfl
theorem tw1824228546646748901:0=0:=rfl
theorem tw10482910369107374495:0=0:=rfl
theorem tw6753610592832799868:0=0:=rfl
theorem tw15101976035099208485:0=0:=rfl
theorem tw14373532625621638884:0=0:=rfl
theorem tw2660485502128121518:0=0:=rfl
theorem tw7926764135757143972:0=0:=rfl
theorem tw5267620291143338329:0=0:=rfl
theorem tw16104015006369734514:0=0:=rfl
theorem tw15110966334230736528:0=0:=rfl
theorem tw15135046384654807578:0=0:=rfl
theorem tw13406685591243953426:0=0:=rfl
theorem tw18169304790425760257:0=0:=rfl
theorem tw2044061271395140474:0=0:=rfl
theorem tw10031414358718281458:0=0:=rfl
theorem tw9491925034445503498:0=0:=rfl
theorem tw12022185082324974619:0=0:=rfl
theorem tw4726017479907671299:0=0:=rfl
theorem tw2020722867356555719:0=0:=rfl
theorem tw17250809312437859393:0=0:=rfl
theorem tw4580762114880002192:0=0:=rfl
theorem tw17113949304106810077:0=0:=rfl
theorem tw11088267868364034831:0=0:=rfl
theorem tw6983139823367946552:0=0:=rfl
theorem tw17005063412193120221:0=0:=rfl
theorem tw10343367663143456143:0=0:=rfl
theorem tw4415148750136445865:0=0:=rfl
theorem tw6540770878789113701:0=0:=rfl
theorem tw12087323210783149301:0=0:=rfl
theorem tw1779657065448883930:0=0:=rfl
theorem tw16485493369306644284:0=0:=rfl
theorem tw17958016127414158785:0=0:=rfl
theorem tw10768196490312539915:0=0:=rfl
theorem tw737093399417494693:0=0:=rfl
theorem tw3021434229387993707:0=0:=rfl
theorem tw3426788400882747045:0=0:=rfl
theorem tw3554756846992923592:0=0:=rfl
theorem tw2222738232645152643:0=0:=rfl
theorem tw16500028980528673720:0=0:=rfl
theorem tw16271290999519507826:0=0:=rfl
theorem tw1524600447720439585:0=0:=rfl
theorem tw8755180519018134999:0=0:=rfl
theorem tw13007034371425191309:0=0:=rfl
theorem tw3708687639770233772:0=0:=rfl
theorem tw11805704903024474387:0=0:=rfl
theorem tw8881390820070191173:0=0:=rfl
theorem tw14779260765411927335:0=0:=rfl
theorem tw16420577972339853122:0=0:=rfl
theorem tw1716782175411140659:0=0:=rfl
theorem tw17875584650739134344:0=0:=rfl
theorem tw2599070417424325011:0=0:=rfl
theorem tw12432103764342757254:0=0:=rfl
theorem tw15449446169497369198:0=0:=rfl
theorem tw1025839859768525414:0=0:=rfl
theorem tw1559486309547906481:0=0:=rfl
theorem tw4367152507161710237:0=0:=rfl
theorem tw13890555769534855621:0=0:=rfl
theorem tw1825033998260781266:0=0:=rfl
theorem tw2496203099595447513:0=0:=rfl
theorem tw17923441059606704616:0=0:=rfl
theorem tw9664940810392535230:0=0:=rfl
theorem tw2608942658057677567:0=0:=rfl
theorem tw5303393372721464521:0=0:=rfl
theorem tw3701845560701099908:0=0:=rfl
theorem tw5202239804620870398:0=0:=rfl
theorem tw14061698125618794300:0=0:=rfl
theorem tw5359533042388923720:0=0:=rfl
theorem tw3684744487549869677:0=0:=rfl
theorem tw624552768955858580:0=0:=rfl
theorem tw5970596839835854915:0=0:=rfl
theorem tw9718658490059212226:0=0:=rfl
theorem tw977398957335755309:0=0:=rfl
theorem tw17047774924017104636:0=0:=rfl
theorem tw16344637418806950482:0=0:=rfl
theorem tw684383472743724770:0=0:=rfl
theorem tw7644688974110751485:0=0:=rfl
theorem tw12797386085838705536:0=0:=rfl
theorem tw12166904181842037570:0=0:=rfl
theorem tw627435063610430034:0=0:=rfl
theorem tw4854693377962045127:0=0:=rfl
theorem tw6210904003693152318:0=0:=rfl
theorem tw2954192331734455347:0=0:=rfl
theorem tw10792488347978175078:0=0:=rfl
theorem tw2296581821680626854:0=0:=rfl
theorem tw15631083285807624131:0=0:=rfl
theorem tw11416104709459456536:0=0:=rfl
theorem tw8896794212449954047:0=0:=rfl
theorem tw16067932732713565555:0=0:=rfl
theorem tw14708771144173275886:0=0:=rfl
theorem tw6499608133050020886:0=0:=rfl
theorem tw8411687733961250246:0=0:=rfl
theorem tw976059271779598825:0=0:=rfl
theorem tw14243978707262494808:0=0:=rfl
theorem tw14823246634711653109:0=0:=rfl
theorem tw15578436324927216449:0=0:=rfl
theorem tw13605497709557653652:0=0:=rfl
theorem tw11196490927438155614:0=0:=rfl
theorem tw2119236447608680307:0=0:=rfl
theorem tw10582037797450616728:0=0:=rfl
theorem tw16241152676940202233:0=0:=rfl
theorem tw11987314551823811600:0=0:=rfl
theorem tw16176871290461707883:0=0:=rfl
theorem tw5319655008883333564:0=0:=rfl
theorem tw889042758692523623:0=0:=rfl
theorem tw2730750070268153455:0=0:=rfl
theorem tw8331494857586645346:0=0:=rfl
theorem tw7191100712498158229:0=0:=rfl
theorem tw748422040848364837:0=0:=rfl
theorem tw3582035119834380754:0=0:=rfl
theorem tw6867200943602632997:0=0:=rfl
theorem tw14955855272672508528:0=0:=rfl
theorem tw15761142181536551459:0=0:=rfl
theorem tw16736842532571355442:0=0:=rfl
theorem tw16558198447431186637:0=0:=rfl
theorem tw11046101966852525242:0=0:=rfl
theorem tw17774601140661558576:0=0:=rfl
theorem tw1307102334631724048:0=0:=rfl
theorem tw6426461046818431684:0=0:=rfl
theorem tw9903868510602468311:0=0:=rfl
theorem tw15995291467426064987:0=0:=rfl
theorem tw212871073494101388:0=0:=rfl
theorem tw4023816706087998688:0=0:=rfl
theorem tw8099550977659533055:0=0:=rfl
theorem tw11968661272357313956:0=0:=rfl
theorem tw14780214445594729290:0=0:=rfl
theorem tw7163807190544862672:0=0:=rfl
theorem tw10094883539582342277:0=0:=rfl
theorem tw5026718861953589023:0=0:=rfl
theorem tw9839843866841034739:0=0:=rfl
theorem tw11347335746152964670:0=0:=rfl
theorem tw7723805569106917013:0=0:=rfl
theorem tw13819561130975884934:0=0:=rfl
theorem tw11704696584330187208:0=0:=rfl
theorem tw5014847327311787916:0=0:=rfl
theorem tw9131017735596081192:0=0:=rfl
theorem tw6086727906809336135:0=0:=rfl
theorem tw16631988992711057558:0=0:=rfl
theorem tw259620127817043816:0=0:=rfl
theorem tw12958789999071523518:0=0:=rfl
theorem tw7985256867489597169:0=0:=rfl
theorem tw3174851827016098595:0=0:=rfl
theorem tw3669701854745646047:0=0:=rfl
theorem tw14097701840650159856:0=0:=rfl
theorem tw1927082341835233706:0=0:=rfl
theorem tw7742514505347876146:0=0:=rfl
theorem tw2147894726470482040:0=0:=rfl
theorem tw15649476265663685362:0=0:=rfl
theorem tw3287281330977741441:0=0:=rfl
theorem tw12458458407641116123:0=0:=rfl
theorem tw2413324122096162015:0=0:=rfl
theorem tw3452138752798932716:0=0:=rfl
theorem tw5619059981761015424:0=0:=rfl
theorem tw14312904113841604329:0=0:=rfl
theorem tw12760854493512678309:0=0:=rfl
end PySem.W.Fast
open PySem PySem.W PyProof.Rows Lw
set_option maxRecDepth 100000 in
set_option maxHeartbeats 0 in
theorem PySem.Challenge.cw_eldermap_k04_whole_differences_holds : PySem.Challenge.rw_eldermap_k04_whole_differences.Holds := by
  w_on; o_law; k_head; (case hw => w_witness2)
  k_fill
  refine Lw.walk (l := PySem.Challenge.rw_eldermap_k04_whole_differences) rfl rfl (fun w h Y => PySem.W.kIn_of Y) ?top
  case top =>
    intro w mg fa h KX G law_at
    refine' Lw.all_mk KX G law_at ?a_Node ?a_Place ?a_NoVersion ?a_NoName ?a_Version ?a_Book ?t_Node ?t_Place ?t_Version ?t_Book ?eqN ?FB ?x_NoVersion ?x_NoName ?ex ?gE ?b_len ?b_range ?b_sorted ?b_list ?b_dict ?b_isinstance ?b_str ?b_int ?b_bool ?b_tuple ?b_max ?b_all ?b_reversed ?b_set ?b_zip ?F__law_is_name ?F__law_beginnings_of ?F__law_set ?F__law_changes ?F__law_note ?F__law_start ?F__law_joining ?F__law_plainly ?F__law_name_by ?F__law_deed_by ?F__law_day ?F__law_mixed ?F__law_at ?F__law_pick ?F__law_stays_so ?F_Node___init__ ?F_value_at ?F_branches_at ?F_node_behind ?F_letters_on ?F_node_if_needed ?F_with_value ?F_with_branch ?F_is_name ?F_nodes_along ?F_rebuilt ?F_refuse_no_name ?F_changed ?F_Place___init__ ?F_Place_is_shared ?F_Place_row ?F_Place_place_behind ?F_Place_places_behind ?F_is_changed_from_both ?F_rows_apart ?F_rows_to_join ?F_Version___init__ ?F_Book___init__ ?F_Book_version_at ?F_Book_root_at ?F_Book_keep ?F_Book_keep_changed ?F_Book_keep_all_changed ?F_Book_keep_joined ?F_Book_made_by ?F_Book_answer_to ?F_Book_do ?F_book_of ?F_difference_of ?F_difference ?F__law_whole ?F_law
    (case a_Node => k_is)
    (case a_Place => k_is)
    (case a_NoVersion => k_is)
    (case a_NoName => k_is)
    (case a_Version => k_is)
    (case a_Book => k_is)
    (case t_Node => exact ⟨⟨by k_is, by k_is, by k_is, by k_is⟩, (by unfold L2.bp; k_is), (by unfold L2.bp; k_is)⟩)
    (case t_Place => exact ⟨⟨by k_is, by k_is, by k_is, by k_is⟩, (by unfold L2.bp; k_is), (by unfold L2.bp; k_is), (by unfold L2.bp; k_is), (by unfold L2.bp; k_is)⟩)
    (case t_Version => exact ⟨⟨by k_is, by k_is, by k_is, by k_is⟩, (by unfold L2.bp; k_is), (by unfold L2.bp; k_is), (by unfold L2.bp; k_is)⟩)
    (case t_Book => exact ⟨⟨by k_is, by k_is, by k_is, by k_is⟩, (by unfold L2.bp; k_is), (by unfold L2.bp; k_is)⟩)
    (case eqN => exact ⟨by k_is, by k_is, by k_is⟩)
    (case FB => exact PySem.F.excBase_ValueError)
    (case x_NoVersion => k_exc)
    (case x_NoName => k_exc)
    (case ex => exact ⟨qH (by k_is) (by k_is) (by k_is) (by k_is), qH (by k_is) (by k_is) (by k_is) (by k_is), qH (by k_is) (by k_is) (by k_is) (by k_is)⟩)
    (case gE => k_is)
    (case b_len => k_is)
    (case b_range => k_is)
    (case b_sorted => k_is)
    (case b_list => k_is)
    (case b_dict => k_is)
    (case b_isinstance => k_is)
    (case b_str => k_is)
    (case b_int => k_is)
    (case b_bool => k_is)
    (case b_tuple => k_is)
    (case b_max => k_is)
    (case b_all => k_is)
    (case b_reversed => k_is)
    (case b_set => k_is)
    (case b_zip => k_is)
    (case F__law_is_name => walk_at "I")
    (case F__law_beginnings_of => walk_at "I")
    (case F__law_set => walk_at "M")
    (case F__law_changes => walk_at "J")
    (case F__law_note => walk_at "L")
    (case F__law_start => exact hU KX G (by k_is) (by k_is) (by k_is) (by k_is) (Hj rfl))
    (case F__law_joining => walk_at "J")
    (case F__law_plainly => walk_at "J")
    (case F__law_name_by => walk_at "I")
    (case F__law_deed_by => walk_at "J")
    (case F__law_day => walk_at "I")
    (case F__law_mixed => walk_at "I")
    (case F__law_at => walk_at "J")
    (case F__law_pick => walk_at "J")
    (case F__law_stays_so => walk_at "J")
    (case F_Node___init__ => walk_at "F")
    (case F_value_at => walk_at "I")
    (case F_branches_at => walk_at "I")
    (case F_node_behind => walk_at "J")
    (case F_letters_on => walk_at "I")
    (case F_node_if_needed => walk_at "J")
    (case F_with_value => walk_at "J")
    (case F_with_branch => walk_at "K")
    (case F_is_name => walk_at "I")
    (case F_nodes_along => walk_at "J")
    (case F_rebuilt => walk_at "K")
    (case F_refuse_no_name => walk_at "I")
    (case F_changed => walk_at "K")
    (case F_Place___init__ => walk_at "H")
    (case F_Place_is_shared => walk_at "A")
    (case F_Place_row => walk_at "A")
    (case F_Place_place_behind => walk_at "B")
    (case F_Place_places_behind => walk_at "A")
    (case F_is_changed_from_both => walk_at "I")
    (case F_rows_apart => walk_at "K")
    (case F_rows_to_join => walk_at "K")
    (case F_Version___init__ => walk_at "G")
    (case F_Book___init__ => walk_at "E")
    (case F_Book_version_at => walk_at "B")
    (case F_Book_root_at => walk_at "B")
    (case F_Book_keep => walk_at "D")
    (case F_Book_keep_changed => walk_at "D")
    (case F_Book_keep_all_changed => walk_at "C")
    (case F_Book_keep_joined => walk_at "D")
    (case F_Book_made_by => walk_at "B")
    (case F_Book_answer_to => walk_at "B")
    (case F_Book_do => walk_at "B")
    (case F_book_of => walk_at "I")
    (case F_difference_of => walk_at "J")
    (case F_difference => walk_at "K")
    (case F__law_whole => walk_at "I")
    (case F_law => walk_at "I")