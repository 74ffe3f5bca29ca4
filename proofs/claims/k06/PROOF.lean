import PyProof.Rows.All
import Wide.All
import OpenK.AllK
import Wide.FinOn
import Lean
import PyProof.EqAt
import PyProof.EqKinds
import PyProof.TupleCall
import KE.KDictList
import PyProof.StrLawsIdx
import PyProof.NeKinds
import PyProof.Rows.SetFrom
import PyProof.StrWalks
import PyProof.DictKinds
import PyProof.Rows.SortStr
import OpenK.KMake
import PyProof.InstEq
import PyProof.Rows.EqNone
import KE.KRevIter
import PyProof.Rows.SortRev
import PyProof.ZipIter
import KE.KSortTup
import PyProof.Rows.SortKeyStr
import PyProof.Rows.SortWalk
import PyProof.Rows.StrInSeq
import OpenK.KOwn
import PyProof.StrLawsIn
import PySem.Challenge.RW_eldermap_k06_whole_joined
set_option Elab.async false
set_option linter.all false
set_option compiler.extract_closed false
set_option maxRecDepth 100000
local macro_rules | `(tactic| walk_at "o") => `(tactic| first | exact Or.inl rfl | exact Or.inr rfl)
local macro_rules | `(tactic| walk_at "s") => `(tactic| exact ⟨rfl, rfl, rfl, by decide +kernel, rfl, by decide +kernel, by decide +kernel⟩)
set_option hygiene false in
local macro_rules | `(tactic| walk_at "f") => `(tactic| refine F.ok sc (fun vs H Q E h => ?_) (fun cdv A outer s H vs Q E hr h => ?_))
section
namespace L2
open PySem PySem.Spec PyProof.Rows
noncomputable abbrev Key:=Sum Int Str
noncomputable def jT:Key->Value->Bool
 | .inl k,v=>Value.isInt k v
 | .inr x,v=>Value.isStrOf x v
noncomputable def Fh (w:World):Key->Int
 | .inl k=>hashInt k
 | .inr x=>hashStr w x
theorem bN:∀ {k:Key}{v:Value},jT k v=true->(∃ i t,k=Sum.inl i/\v=Value.int i t)\/(∃ x t,k=Sum.inr x/\v=Value.str x t)
 | .inl i,v,h=>by
  obtain⟨t,e⟩:=Value.isInt_shape (k:=i) (v:=v) h;exact .inl ⟨i,t,rfl,e⟩
 | .inr x,v,h=>by
  obtain⟨t,e⟩:=Value.isStrOf_shape (x:=x) (v:=v) h;exact .inr ⟨x,t,rfl,e⟩
theorem tG (i:Int) (t:Tok):jT (.inl i) (.int i t)=true:=by simp[jT,Value.isInt]
theorem tZ (x:Str) (t:Tok):jT (.inr x) (.str x t)=true:=by simp[jT,Value.isStrOf]
theorem BN (a b:Int):decide ((Sum.inl a:Key)=Sum.inl b)=(a == b):=by
 by_cases e:a=b
 ·subst e;simp
 ·have h:¬ (Sum.inl a:Key)=Sum.inl b:=fun q=>e (Sum.inl.inj q)
  rw[decide_eq_false h];exact (beq_eq_false_iff_ne.mpr e).symm
theorem zW (a b:Str):decide ((Sum.inr a:Key)=Sum.inr b)=decide (a=b):=by
 by_cases e:a=b
 ·subst e;simp
 ·have h:¬ (Sum.inr a:Key)=Sum.inr b:=fun q=>e (Sum.inr.inj q)
  rw[decide_eq_false h,decide_eq_false e]
theorem Bu (a:Int) (b:Str):decide ((Sum.inl a:Key)=Sum.inr b)=false:=decide_eq_false (fun q=>nomatch q)
theorem B1 (a:Str) (b:Int):decide ((Sum.inr a:Key)=Sum.inl b)=false:=decide_eq_false (fun q=>nomatch q)
noncomputable def bj (prog:Program) (w:World):PySem.KeyKind prog w Key where
 is:=jT
 hash:=Fh w
 inj:=fun v a b ha hb=>by
  rcases bN ha with ⟨i,t,rfl,rfl⟩|⟨x,t,rfl,rfl⟩
  ·rcases bN hb with ⟨j,u,rfl,e⟩|⟨y,u,rfl,e⟩
   ·injection e with e1 _;rw[e1]
   ·exact nomatch e
  ·rcases bN hb with ⟨j,u,rfl,e⟩|⟨y,u,rfl,e⟩
   ·exact nomatch e
   ·injection e with e1 _;rw[e1]
 byValue:=fun k v h=>by
  rcases bN h with ⟨i,t,rfl,rfl⟩|⟨x,t,rfl,rfl⟩ <;> rfl
 pyHash:=fun hv h=>by
  rcases bN hv with ⟨i,t,rfl,rfl⟩|⟨x,t,rfl,rfl⟩
  ·exact wpAny_pyHash_int h
  ·exact wpAny_pyHash_str h
 eqBool:=fun hu hv h=>by
  rcases bN hu with ⟨i,t,rfl,rfl⟩|⟨x,t,rfl,rfl⟩
  ·rcases bN hv with ⟨j,u,rfl,rfl⟩|⟨y,u,rfl,rfl⟩
   ·rw[BN] at h;exact wpAny_eqBool_int h
   ·rw[Bu] at h;exact SeqAt.EqAt.int_str i t y u _ _ _ _ h
  ·rcases bN hv with ⟨j,u,rfl,rfl⟩|⟨y,u,rfl,rfl⟩
   ·rw[B1] at h;exact SeqAt.EqAt.str_int x t j u _ _ _ _ h
   ·rw[zW] at h;exact wpAny_eqBool_str h
 «strs»:=fun k x t v h=>by
  rcases bN h with ⟨i,u,rfl,e⟩|⟨y,u,rfl,e⟩
  ·exact nomatch e
  ·injection e with e1 _
   subst e1
   cases v <;> rfl
theorem pT (prog:Program) (w:World) (i:Int) (t:Tok):(bj prog w).is (.inl i) (.int i t)=true:=tG i t
theorem ow (prog:Program) (w:World) (x:Str) (t:Tok):(bj prog w).is (.inr x) (.str x t)=true:=tZ x t
end L2
namespace L2
open PySem PySem.Spec PyProof.Rows
inductive V where
 | non|bl (b:Bool)|int (i:Int)|str (x:Str)|byt (b:Array UInt8)|flt (b:UInt64)|ref (a:Addr)|ty (n:String)
 deriving DecidableEq
noncomputable def RelV:V->Value->Prop
 | .non,u=>u=Value.none
 | .bl b,u=>u=Value.bool b
 | .int i,u=>∃ t,u=Value.int i t
 | .str x,u=>∃ t,u=Value.str x t
 | .byt b,u=>∃ t,u=Value.bytes b t
 | .flt b,u=>∃ t,u=Value.float b t
 | .ref a,u=>u=Value.ref a
 | .ty n,u=>u=Value.type n
noncomputable abbrev Vals:List V->List Value->Prop:=Paired RelV
theorem Vals.length {xs:List V}{us:List Value} (r:Vals xs us):xs.length=us.length:=Paired.length r
theorem Vals.get:∀ {xs:List V}{us:List Value}{i:Nat}{x:V},Vals xs us->xs[i]?=some x->∃ u,us[i]?=some u/\RelV x u
 | _,_,_,_,.nil,e=>by simp at e
 | _,_,0,_,.cons r _,e=>by simp at e;subst e;exact⟨_,rfl,r⟩
 | _,_,i+1,x,.cons _ t,e=>by
  obtain⟨u,h1,h2⟩:=Vals.get (i:=i) (x:=x) t (by simpa using e);exact⟨u,by simpa using h1,h2⟩
theorem Vals.append:∀ {xs ys:List V}{us ws:List Value},Vals xs us->Vals ys ws->Vals (xs++ys) (us++ws)
 | _,_,_,_,.nil,s=>s
 | _,_,_,_,.cons r t,s=>.cons r (Vals.append t s)
theorem Vals.take:∀ {xs:List V}{us:List Value} (n:Nat),Vals xs us->Vals (xs.take n) (us.take n)
 | _,_,0,_=>.nil
 | _,_,_+1,.nil=>.nil
 | _,_,n+1,.cons r t=>.cons r (Vals.take n t)
theorem Vals.drop:∀ {xs:List V}{us:List Value} (n:Nat),Vals xs us->Vals (xs.drop n) (us.drop n)
 | _,_,0,r=>r
 | _,_,_+1,.nil=>.nil
 | _,_,n+1,.cons _ t=>Vals.drop n t
noncomputable def eX:Option V->Option Value->Prop
 | some v,some u=>RelV v u
 | none,none=>True
 | _,_=>False
noncomputable def KV {κ:Type}:List (κ×V)->List (κ×Value)->Prop:=Paired fun (p:κ×V) (q:κ×Value)=>p.1=q.1/\RelV p.2 q.2
noncomputable def kV:Key->V
 | .inl i=>.int i
 | .inr x=>.str x
inductive HO where
  | lst (xs:List V)
  | tup (xs:List V)
  | dK (kvs:List (Key×V))|dT (kvs:List (List Key×V))
  | set (S:Int->Bool) (n:Nat)
  | ins (C dx:Addr) (fs:List (Str×V))
  | own (x:Addr)
  | xd (fs:List (Str×V))
  | met (f x:Addr)
  | rng (lo hi:Int)
  | frz (o:Obj) (u:HO)
  | tbl (ps:Array Value)
  | ext (φ:Heap->Prop)
noncomputable abbrev Hp:=Addr->Option HO
noncomputable def upd (H:Hp) (a:Addr) (o:HO):Hp:=fun b=>if b=a then some o else H b
theorem aa {H:Hp}{a:Addr}{o:HO}:upd H a o a=some o:=by unfold upd;rw[if_pos rfl]
theorem ah {H:Hp}{a b:Addr}{o:HO} (h:b≠a):upd H a o b=H b:=by unfold upd;rw[if_neg h]
theorem bO {H:Hp}{a b:Addr}{o u:HO} (h:H a=some o) (h':H b=some u) (d:o≠u):a≠b:=by
 intro e;subst e;rw[h] at h';exact d (Option.some.inj h')
theorem ai {H:Hp}{a b:Addr}{o:HO} (h:H a=some o) (h':H b=none):a≠b:=by
 intro e;subst e;rw[h] at h';cases h'
section
variable (P:Program) (w:World)
noncomputable def bK (H:Hp) (h:Heap) (a:Addr):HO->Prop
 | .lst xs=>xs.length<=sizeLine/\∃ (its:List Value) (n:Nat),Vals xs its/\h.get? a=some { cls:=.type "list",data:=.seq its.toArray n }
 | .tup xs=>xs.length<=sizeLine/\∃ its:List Value,Vals xs its/\IsTup h a its.toArray
 | .dK kvs=>kvs.length<=sizeLine/\(a == sysModules)=false/\∃ vs,KV kvs vs/\h.DictOf (bj P w) a vs
 | .dT kvs=>kvs.length<=sizeLine/\(a == sysModules)=false/\∃ xs:List (List Key×Addr×Value),
   Paired (fun (p:List Key×V) (q:List Key×Addr×Value)=>p.1=q.1/\H q.2.1=some (.tup (p.1.map kV))/\RelV p.2 q.2.2) kvs xs /\
   ∃ o es ep,h.get? a=some o/\o.ExactDict/\o.data=.dict es ep/\es.toList=xs.map (entryOfKey (tupleKind (bj P w)))/\(xs.map (·.1)).Nodup
 | .set S n=>h.SetOf (intKind P w) a S n
 | .ins C dx fs=>H dx=some (.own a)/\fs.length<=1000/\dx≠a/\h.get? a=some (PySem.W.instObj C dx) /\
   ∃ mA,h.Ns1 dx mA/\(∀ f,eX (fs.lookup f) (mA f))/\PySem.Within mA (fs.map (·.1))
 | .own _=>∃ o,h.get? a=some o
 | .xd fs=>∃ mA,h.Ns1 a mA/\∀ f,eX (fs.lookup f) (mA f)
 | .rng lo hi=>∃ t u v,h.get? a=some { cls:=.type "range",data:=.fields #[.int lo t,.int hi u,.int 1 v] }
 | .frz o u=>h.get? a=some o/\bK H h a u
 | .tbl ps=>h.get? a=some { cls:=.none,data:=.fields ps }
 | .met f x=>h.get? a=some (PySem.W.methodObj (.ref f) (.ref x))
 | .ext φ=>φ h/\(∃ o,h.get? a=some o)/\∀ h1 h2:Heap,φ h1->(∀ o,h1.get? a=some o->h2.get? a=some o)->φ h2
noncomputable def fq (H:Hp) (h:Heap):Prop:=∀ a o,H a=some o->bK P w H h a o
end
section
variable {P:Program}{w:World}{H H':Hp}{h h':Heap}{a:Addr}{o:HO}
theorem bK.lt (x:bK P w H h a o):a<h.objs.size:=by
 cases o with
 | lst xs=>obtain⟨_,_,_,_,e⟩:=x;exact Heap.lt_size e
 | tup xs=>obtain⟨_,_,_,p⟩:=x;exact p.lt
 | dK kvs=>obtain⟨_,_,_,_,o,_,_,e,_⟩:=x;exact Heap.lt_size e
 | dT kvs=>obtain⟨_,_,_,_,o,_,_,e,_⟩:=x;exact Heap.lt_size e
 | set S n=>obtain⟨o,_,_,_,e,_⟩:=x;exact Heap.lt_size e
 | ins C dx fs=>obtain⟨_,_,_,e,_⟩:=x;exact Heap.lt_size e
 | own y=>obtain⟨_,e⟩:=x;exact Heap.lt_size e
 | xd fs=>obtain⟨_,⟨_,_,_,e,_⟩,_⟩:=x;exact Heap.lt_size e
 | rng lo hi=>obtain⟨_,_,_,e⟩:=x;exact Heap.lt_size e
 | frz ob u=>obtain⟨e,_⟩:=x;exact Heap.lt_size e
 | tbl ps=>exact Heap.lt_size (show h.get? a=some _ from x)
 | met f y=>exact Heap.lt_size (show h.get? a=some _ from x)
 | ext φ=>obtain⟨_,⟨_,e⟩,_⟩:=x;exact Heap.lt_size e
theorem Paired.yj {α β:Type}{F G:α->β->Prop}:∀ {l₁:List α}{l₂:List β},Paired F l₁ l₂->(∀ a b,F a b->G a b)->Paired G l₁ l₂
 | _,_,.nil,_=>.nil
 | _,_,.cons r t,f=>.cons (f _ _ r) (Paired.yj t f)
theorem Paired.imp' {α β:Type}{F G:α->β->Prop} (f:∀ a b,F a b->G a b) {l₁:List α}{l₂:List β} (r:Paired F l₁ l₂):Paired G l₁ l₂:=Paired.yj r f
theorem bK.qg (x:bK P w H h a o) (k:∀ b u,(b=a\/H b=some (.own a))->h.get? b=some u->h'.get? b=some u)
  (ho:∀ b,H b=some (.own a)->H' b=some (.own a)) (ht:∀ b xs,H b=some (.tup xs)->H' b=some (.tup xs)):bK P w H' h' a o:=by
 induction o with
 | lst xs=>obtain⟨z,its,n,r,e⟩:=x;exact⟨z,its,n,r,k _ _ (.inl rfl) e⟩
 | tup xs=>obtain⟨z,its,r,ob,e,c⟩:=x;exact⟨z,its,r,ob,k _ _ (.inl rfl) e,c⟩
 | dK kvs=>obtain⟨z,y,vs,r,ob,es,ep,e,c⟩:=x;exact⟨z,y,vs,r,ob,es,ep,k _ _ (.inl rfl) e,c⟩
 | dT kvs =>
  obtain⟨z,y,xs,r,ob,es,ep,e,c⟩:=x;exact⟨z,y,xs,Paired.yj r fun p q z=>⟨z.1,ht _ _ z.2.1,z.2.2⟩,ob,es,ep,k _ _ (.inl rfl) e,c⟩
 | set S n=>obtain⟨ob,es,ep,t,e,c⟩:=x;exact⟨ob,es,ep,t,k _ _ (.inl rfl) e,c⟩
 | ins C dx fs =>
  obtain⟨d,z,ne,e,mA,⟨od,es,ep,e2,c⟩,r⟩:=x;exact⟨ho _ d,z,ne,k _ _ (.inl rfl) e,mA,⟨od,es,ep,k _ _ (.inr d) e2,c⟩,r⟩
 | own y=>obtain⟨ob,e⟩:=x;exact⟨ob,k _ _ (.inl rfl) e⟩
 | xd fs=>obtain⟨mA,⟨od,es,ep,e,c⟩,r⟩:=x;exact⟨mA,⟨od,es,ep,k _ _ (.inl rfl) e,c⟩,r⟩
 | rng lo hi=>obtain⟨t,u,v,e⟩:=x;exact⟨t,u,v,k _ _ (.inl rfl) e⟩
 | frz ob u ih=>obtain⟨e,q⟩:=x;exact⟨k _ _ (.inl rfl) e,ih q⟩
 | tbl ps =>
  have e:h.get? a=some { cls:=.none,data:=.fields ps }:=x;show h'.get? a=some { cls:=.none,data:=.fields ps };exact k a _ (.inl rfl) e
 | met f y =>
  have e:h.get? a=some (PySem.W.methodObj (.ref f) (.ref y)):=x;show h'.get? a=some (PySem.W.methodObj (.ref f) (.ref y));exact k a _ (.inl rfl) e
 | ext φ=>obtain⟨p,⟨o,e⟩,st⟩:=x;exact⟨st _ _ p fun o q=>k _ _ (.inl rfl) q,⟨o,k _ _ (.inl rfl) e⟩,st⟩
theorem fq.lt (x:fq P w H h) (e:H a=some o):a<h.objs.size:=(x a o e).lt
theorem fq.fresh (x:fq P w H h) (e:h.objs.size<=a):H a=none:=by
 cases q:H a with
 | none=>rfl
 | some u=>exact absurd (Nat.lt_of_lt_of_le (x.lt q) e) (Nat.lt_irrefl _)
theorem fq.kept (x:fq P w H h) (k:∀ b u,h.get? b=some u->h'.get? b=some u):fq P w H h':=fun a o e =>
 (x a o e).qg (fun b u _ q=>k b u q) (fun _ q=>q) fun _ _ q=>q
theorem fq.laid (x:fq P w H h) (k:∀ b u,h.get? b=some u->h'.get? b=some u) (hp:h.objs.size<=a) (new:bK P w (upd H a o) h' a o):fq P w (upd H a o) h':=fun b u e=>by
 have hn:=x.fresh hp
 by_cases hb:b=a
 ·subst hb;rw[aa] at e;cases e;exact new
 ·rw[ah hb] at e
  exact (x b u e).qg (fun c v _ q=>k c v q) (fun c q=>by rw[ah (ai q hn)];exact q) fun c xs q=>by rw[ah (ai q hn)];exact q
end
noncomputable def Rd (H:Hp) (a:Addr) (u:HO):Prop:=H a=some u\/∃ o,H a=some (.frz o u)
theorem Rd.ok {P:Program}{w:World}{H:Hp}{h:Heap}{a:Addr}{u:HO} (r:Rd H a u) (x:fq P w H h):bK P w H h a u:=by
 rcases r with r|⟨o,r⟩
 ·exact x a u r
 ·obtain⟨_,q⟩:=x a _ r
  exact q
noncomputable def CK:Option HO->Prop
 | some (.lst _)=>True
 | some (.dK _)=>True
 | some (.dT _)=>True
 | some (.set _ _)=>True
 | some (.ins _ _ _)=>True
 | some (.ext _)=>True
 | _=>False
section
variable {P:Program}{w:World}{H:Hp}{h h':Heap}{x e:Addr}{o':HO}
theorem fq.write (ok:fq P w H h) (mu:CK (H x)) (he:e=x\/H e=some (.own x)) (k:∀ b u,b≠e->h.get? b=some u->h'.get? b=some u) (heo:∃ u,h'.get? e=some u)
  (new:bK P w (upd H x o') h' x o'):fq P w (upd H x o') h':=fun b u q=>by
 have nown:∀ c y,H c=some (.own y)->c≠x:=fun c y r z=>by subst z;rw[r] at mu;exact mu
 have ntup:∀ c xs,H c=some (.tup xs)->c≠x:=fun c xs r z=>by subst z;rw[r] at mu;exact mu
 by_cases hb:b=x
 ·subst hb;rw[aa] at q;cases q;exact new
 ·rw[ah hb] at q
  by_cases hbe:b=e
  ·have q':H b=some (.own x):=by
    rcases he with z|z
    ·exact absurd (hbe.trans z) hb
    ·rw[hbe];exact z
   rw[q] at q';cases q';obtain⟨v,hv⟩:=heo;exact⟨v,by rw[hbe];exact hv⟩
  ·refine (ok b u q).qg (fun c v hc r=>k c v ?_ r) (fun c r=>by rw[ah (nown c b r)];exact r) fun c xs r=>by rw[ah (ntup c xs r)];exact r
   rcases hc with rfl|hc
   ·exact hbe
   ·rintro rfl
    rcases he with z|z
    ·exact nown c b hc z
    ·rw[hc] at z;cases z;exact hb rfl
end
structure Un (fs ex:List Addr) (H H':Hp) (h h':Heap):Prop where
 keep:∀ b o,h.get? b=some o->H b=none->b∉fs->b∉ex->h'.get? b=some o
 slot:∀ b o,h.get? b=some o->H b=none->b∈fs->b∉ex->∃ sl,h'.get? b=some { o with slots:=sl }
 free:∀ b o,h.get? b=some o->H b=none->b∉ex->H' b=none
 there:∀ b o,h.get? b=some o->b∉ex->∃ o',h'.get? b=some o'
 tups:∀ b xs,H b=some (.tup xs)->H' b=some (.tup xs)
 frzs:∀ b o u,H b=some (.frz o u)->H' b=some (.frz o u)
 tbls:∀ b ps,H b=some (.tbl ps)->∃ more,H' b=some (.tbl (ps++more))
section
variable {fs fs' ex ex':List Addr}{H H1 H2:Hp}{h h1 h2 h':Heap}{a x e:Addr}{o:HO}
theorem Un.any (u:Un fs ex H H1 h h1) {b:Addr}{ob:Obj} (q:h.get? b=some ob) (n:H b=none) (hx:b∉ex):∃ sl,h1.get? b=some { ob with slots:=sl }:=by
 by_cases hb:b∈fs
 ·exact u.slot b ob q n hb hx
 ·exact⟨ob.slots,u.keep b ob q n hb hx⟩
theorem Un.kept (k:∀ b u,h.get? b=some u->h'.get? b=some u):Un fs ex H H h h' :=
 ⟨fun b ob q _ _ _=>k b ob q,fun b ob q _ _ _=>⟨ob.slots,k b ob q⟩,fun _ _ _ n _=>n,fun b ob q _=>⟨ob,k b ob q⟩,fun _ _ q=>q,fun _ _ _ q=>q,fun _ ps q=>⟨#[],by rw[q];simp⟩⟩
theorem Un.refl:Un fs ex H H h h:=Un.kept fun _ _ q=>q
theorem Un.laid (k:∀ b u,h.get? b=some u->h'.get? b=some u) (hp:h.objs.size<=a) (hn:H a=none):Un fs ex H (upd H a o) h h' where
 keep:=fun b u q _ _ _=>k b u q
 slot:=fun b u q _ _ _=>⟨u.slots,k b u q⟩
 free:=fun b u q n _=>by rw[ah (Nat.ne_of_lt (Nat.lt_of_lt_of_le (Heap.lt_size q) hp))];exact n
 there:=fun b u q _=>⟨u,k b u q⟩
 tups:=fun b xs q=>by rw[ah (ai q hn)];exact q
 frzs:=fun b u xs q=>by rw[ah (ai q hn)];exact q
 tbls:=fun b ps q=>⟨#[],by rw[ah (ai q hn),q];simp⟩
theorem Un.write (mu:CK (H x)) (he:e=x\/H e=some (.own x)) (k:∀ b u,b≠e->h.get? b=some u->h'.get? b=some u) (heo:∃ u,h'.get? e=some u):Un fs ex H (upd H x o) h h':=by
 have hx:∀ b,H b=none->b≠x:=fun b n z=>by subst z;rw[n] at mu;exact mu
 have hb:∀ b,H b=none->b≠e:=fun b n z=>by
  subst z;rcases he with r|r
  ·exact hx b n r
  ·rw[n] at r;cases r
 have hm:∀ b u,H b=some u->¬ CK (some u)->b≠x:=fun b u q nm z=>by subst z;rw[q] at mu;exact nm mu
 refine⟨fun b u q n _ _=>k b u (hb b n) q,fun b u q n _ _=>⟨u.slots,k b u (hb b n) q⟩,fun b u q n _=>by rw[ah (hx b n)];exact n,fun b u q _=>?_,
  fun b xs q=>by rw[ah (hm b _ q fun z=>z)];exact q,fun b u xs q=>by rw[ah (hm b _ q fun z=>z)];exact q,fun b ps q=>⟨#[],by rw[ah (hm b _ q fun z=>z),q];simp⟩⟩
 by_cases hbe:b=e
 ·subst hbe;exact heo
 ·exact⟨u,k b u hbe q⟩
end
noncomputable def ES (h:Heap) (H:Hp):List Addr:=(List.range h.objs.size).filter fun a=>(H a).isSome
noncomputable def mV (h:Heap) (H:Hp):Heap:=PySem.W.hideAll h (ES h H)
theorem sZ (h:Heap) (H:Hp):(mV h H).objs.size=h.objs.size:=PySem.W.hideAll_size _ _
theorem vT {h:Heap}{H:Hp}{b:Addr}{o:Obj} (e:h.get? b=some o) (n:H b=none):(mV h H).get? b=some o :=
 PySem.W.hideAll_get _ e fun hm=>by
  have q:(H b).isSome=true:=(List.mem_filter.mp hm).2;rw[n] at q;simp at q
theorem yI {h:Heap}{H:Hp}{b:Addr}{o:Obj} (e:(mV h H).get? b=some o):h.get? b=some o/\H b=none:=by
 have e':h.get? b=some o:=PySem.W.of_hideAll (ES h H) e;refine⟨e',?_⟩
 cases q:H b with
 | none=>rfl
 | some x =>
  have hm:b∈ES h H:=List.mem_filter.mpr ⟨List.mem_range.mpr (Heap.lt_size e'),by simp[q]⟩;have z:(mV h H).get? b=none:=PySem.W.hideAll_none (ES h H) hm;rw[z] at e;cases e
end L2
namespace L2
open PySem PySem.Spec PyProof.Rows
structure Mod (K:PySem.W.Frag) (mg:Str->Option Value) (base:Heap):Prop where
 kin:K.In base
 glob:base.Ns mainGlobals mg
 blt:∃ mb,base.Ns builtinsNs mb/\∀ x:Str,x≠"__name__"->mb x=bootBuiltins x
 nolimit:base.NoLimit
structure Cx where
 prog:Program
 w:World
 K:PySem.W.Frag
 mg:Str->Option Value
 base:Heap
 A:Around
 N:List Str
 s₀:Shared
 H₀:Hp
 env:Env
 outer:List Env
 stack:List Env
 ex:List Addr
 fn:Str->Bool
 calm:Bool
 pn:List (Addr×Obj)
 xe:Value->Shared->Prop
noncomputable def iT (l:List Env):List Addr:=l.filterMap (·.frame)
noncomputable abbrev Cx.fs (X:Cx):List Addr:=iT X.outer
noncomputable def Dh (sc:Scope) (x:Str):Prop:=sc.names.lookup x=some .local\/sc.names.lookup x=some .cell\/sc.names.lookup x=some .free
noncomputable def Loc (sc:Scope) (x:Str):Prop:=sc.names.lookup x=some .local\/sc.names.lookup x=some .cell
noncomputable def Look (env:Env) (h:Heap) (m:Str->Option Value) (x:Str) (u:Value):Prop :=
 (env.kindOf x=some .local/\m x=some u)\/((env.kindOf x=some .cell\/env.kindOf x=some .free)/\∃ c,env.cells.lookup x=some c/\h.IsCell c (some u))
structure Cx.Ok (X:Cx):Prop where
 mod:Mod X.K X.mg X.base
 kind:X.env.scope.kind=.function
 glob:X.env.globals=mainGlobals
 blt:X.env.builtins=builtinsNs
 above:X.s₀.heap.objs.size<=X.env.locals
 inj:∀ x y c,X.env.cells.lookup x=some c->X.env.cells.lookup y=some c->x=y
 has:∀ x,(X.env.kindOf x=some .cell\/X.env.kindOf x=some .free)->∃ c,X.env.cells.lookup x=some c
 cab:∀ x c,X.fn x=true->X.env.cells.lookup x=some c->X.s₀.heap.objs.size<=c
 hd:X.calm=true->X.A.handled=none
 frames:X.A.frames=some X.stack
 stk:X.stack=X.outer\/(X.stack=X.env::X.outer/\X.env.frame=some X.env.locals)
 exf:∀ b∈X.ex,b≠X.env.locals/\∀ x c,X.env.cells.lookup x=some c->c≠b
 bs:∀ b o,X.base.get? b=some o->X.s₀.heap.get? b=some o/\X.H₀ b=none
 bsz:X.base.objs.size<=X.s₀.heap.objs.size
 noex:∀ b o,X.base.get? b=some o->b∉X.ex
 exfs:∀ b∈X.ex,b∉X.fs
 gh:X.s₀.heap.FunFrames X.base X.outer
 frf:∀ b∈X.fs,X.H₀ b=none
structure Inv (X:Cx) (pins:List (Addr×Obj)) (σ:List (Option V)) (H:Hp) (s:Shared):Prop where
 ok:X.Ok
 os:s.os=X.s₀.os
 bare:AllBare s.gens
 base:Un X.fs X.ex X.H₀ H X.s₀.heap s.heap
 loc:∃ m,s.heap.Ns X.env.locals m/\∀ (i:Nat) (x:Str) (v:V),X.N[i]?=some x->σ[i]?=some (some v)->Dh X.env.scope x->∃ u,RelV v u/\Look X.env s.heap m x u
 cell:∀ x c,X.env.cells.lookup x=some c->∃ v,s.heap.IsCell c v
 free:H X.env.locals=none
 freeC:∀ x c,X.env.cells.lookup x=some c->H c=none
 pin:∀ p∈X.pn++pins,s.heap.get? p.1=some p.2/\H p.1=none/\p.1≠X.env.locals/\p.1∉X.fs/\∀ v,p.2.data≠.cell v
 hok:fq X.prog X.w H s.heap
 len:σ.length=X.N.length
section
variable {X:Cx}{pins:List (Addr×Obj)}{σ:List (Option V)}{H H':Hp}{s:Shared}{h':Heap}
theorem Cx.Ok.F8 (ok:X.Ok) {b:Addr}{o:Obj} (e:X.base.get? b=some o):b∉X.fs:=fun hb=>by
 have:=(ok.gh.mem hb).1;rw[e] at this;cases this
theorem Inv.bs (I:Inv X pins σ H s):∀ b o,X.base.get? b=some o->s.heap.get? b=some o/\H b=none:=fun b o e =>
 ⟨I.base.keep b o (I.ok.bs b o e).1 (I.ok.bs b o e).2 (I.ok.F8 e) (I.ok.noex b o e),I.base.free b o (I.ok.bs b o e).1 (I.ok.bs b o e).2 (I.ok.noex b o e)⟩
theorem Inv.bk (I:Inv X pins σ H s):∀ b o,X.base.get? b=some o->s.heap.get? b=some o:=fun b o e=>(I.bs b o e).1
theorem Inv.mod (I:Inv X pins σ H s):Mod X.K X.mg X.base:=I.ok.mod
theorem Inv.eO (I:Inv X pins σ H s):X.K.In s.heap:=I.ok.mod.kin.keeps I.bk
theorem Inv.lt (I:Inv X pins σ H s):X.env.locals<s.heap.objs.size:=let ⟨_,hn,_⟩:=I.loc;hn.lt
theorem Inv.sz (I:Inv X pins σ H s):X.s₀.heap.objs.size<=s.heap.objs.size:=Nat.le_trans I.ok.above (Nat.le_of_lt I.lt)
theorem Inv.E9 (I:Inv X pins σ H s) {a:Addr} (h:s.heap.objs.size<=a):a∉X.fs:=fun hb=>by
 obtain⟨_,o,ho,_⟩:=I.ok.gh.mem hb;exact absurd (Nat.lt_of_lt_of_le (Heap.lt_size ho) (Nat.le_trans I.sz h)) (Nat.lt_irrefl _)
theorem Inv.xT (I:Inv X pins σ H s):∀ x c,X.env.cells.lookup x=some c->c≠X.env.locals:=fun x c e z=>by
 obtain⟨v,o,ho,hd⟩:=I.cell x c e;obtain⟨m,⟨o',es,ep,ho',hd',_⟩,_⟩:=I.loc;rw[z,ho'] at ho;cases ho;rw[hd'] at hd;cases hd
theorem Inv.gh (I:Inv X pins σ H s):s.heap.FunFrames X.base X.outer:=by
 have all:∀ (l:List Env),(∀ b∈iT l,b∈X.fs)->X.s₀.heap.FunFrames X.base l->s.heap.FunFrames X.base l:=by
  intro l
  induction l with
  | nil=>intro _ _;trivial
  | cons env r ih =>
   intro hs hl;obtain⟨hk,⟨L,o,hf,hn,ho,hd⟩,hr⟩:=hl;have hL:L∈X.fs:=hs L (by unfold iT;rw[List.filterMap_cons,hf];exact List.mem_cons_self);obtain⟨sl,e⟩:=I.base.slot L o ho (I.ok.frf L hL) hL fun z=>I.ok.exfs L z hL;exact⟨hk,⟨L,_,hf,hn,e,hd⟩,ih (fun b hb=>hs b (by unfold iT;rw[List.filterMap_cons,hf];exact List.mem_cons_of_mem _ hb)) hr⟩
 exact all X.outer (fun _ hb=>hb) I.ok.gh
theorem Inv.stack (I:Inv X pins σ H s):s.heap.FunFrames X.base X.stack:=by
 rcases I.ok.stk with e|⟨e,hf⟩
 ·rw[e];exact I.gh
 ·rw[e]
  obtain⟨m,hn,_⟩:=I.loc;refine .cons (by rw[I.ok.kind];decide) hf hn ?_ I.gh;exact Heap.get?_none_of_le (Nat.le_trans I.ok.bsz I.ok.above)
theorem Inv.nW (I:Inv X pins σ H s):∀ b∈iT X.stack,b∈X.env.locals::X.fs:=fun b hb=>by
 rcases I.ok.stk with e|⟨e,hf⟩
 ·rw[e] at hb;exact List.mem_cons_of_mem _ hb
 ·rw[e] at hb
  unfold iT at hb;rw[List.filterMap_cons,hf] at hb;exact hb
theorem Inv.jq (I:Inv X pins σ H s):∀ b∈iT X.stack,H b=none:=fun b hb=>by
 rcases List.mem_cons.mp (I.nW b hb) with e|hb
 ·rw[e];exact I.free
 ·obtain⟨_,o,ho,_⟩:=I.ok.gh.mem hb
  exact I.base.free b o ho (I.ok.frf b hb) fun z=>I.ok.exfs b z hb
theorem Inv.step {g':Array GenState}{t':Nat}{d':Drawn}{ch:List Addr} (I:Inv X pins σ H s)
  (hch:∀ b∈ch,(b∈X.ex\/X.s₀.heap.objs.size<=b)/\b≠X.env.locals/\(∀ x c,X.env.cells.lookup x=some c->c≠b)/\∀ p∈X.pn++pins,p.1≠b)
  (keep:∀ b o,b≠X.env.locals->b∉X.fs->b∉ch->s.heap.get? b=some o->H b=none->h'.get? b=some o)
  (slot:∀ b o,b≠X.env.locals->b∈X.fs->b∉ch->s.heap.get? b=some o->H b=none->∃ sl,h'.get? b=some { o with slots:=sl }) (free:∀ b o,b∉ch->s.heap.get? b=some o->H b=none->H' b=none)
  (there:∀ b o,b∉ch->s.heap.get? b=some o->∃ o',h'.get? b=some o')
  (tups:∀ b xs,H b=some (.tup xs)->H' b=some (.tup xs)) (frzs:∀ b o u,H b=some (.frz o u)->H' b=some (.frz o u)) (tbls:∀ b ps,H b=some (.tbl ps)->∃ more,H' b=some (.tbl (ps++more)))
  (ns:∀ m,s.heap.Ns X.env.locals m->h'.Ns X.env.locals m) (hok:fq X.prog X.w H' h') (hg:AllBare g') :
  Inv X pins σ H' { s with heap:=h',gens:=g',drawn:=d',toks:=t' }:=by
 have neL:∀ b o,X.s₀.heap.get? b=some o->b≠X.env.locals:=fun b o e=>Nat.ne_of_lt (Nat.lt_of_lt_of_le (Heap.lt_size e) I.ok.above);have neC:∀ b o,X.s₀.heap.get? b=some o->b∉X.ex->b∉ch:=fun b o e hx hb=>by
  rcases (hch b hb).1 with z|z
  ·exact hx z
  ·exact absurd (Nat.lt_of_lt_of_le (Heap.lt_size e) z) (Nat.lt_irrefl _)
 have cellK:∀ x c,X.env.cells.lookup x=some c->∀ v,s.heap.IsCell c v->h'.IsCell c v:=fun x c e v ⟨o,ho,hd⟩=>by
  have nch:c∉ch:=fun z=>(hch c z).2.2.1 x c e rfl
  by_cases hc:c∈X.fs
  ·obtain⟨sl,q⟩:=slot c o (I.xT x c e) hc nch ho (I.freeC x c e)
   exact⟨_,q,hd⟩
  ·exact⟨o,keep c o (I.xT x c e) hc nch ho (I.freeC x c e),hd⟩
 refine⟨I.ok,I.os,hg,⟨fun b o e n hb hx=>?_,fun b o e n hb hx=>?_,fun b o e n hx=>?_,fun b o e hx=>?_,fun b xs e=>tups b xs (I.base.tups b xs e),fun b o xs e=>frzs b o xs (I.base.frzs b o xs e),fun b ps e=>?_⟩,?_,fun x c e=>?_,?_,fun x c e=>?_,fun p hp=>?_,hok,I.len⟩
 ·exact keep b o (neL b o e) hb (neC b o e hx) (I.base.keep b o e n hb hx) (I.base.free b o e n hx)
 ·obtain⟨sl,e1⟩:=I.base.slot b o e n hb hx
  obtain⟨sl',e2⟩:=slot b _ (neL b o e) hb (neC b o e hx) e1 (I.base.free b o e n hx);exact⟨sl',e2⟩
 ·obtain⟨o',e1⟩:=I.base.there b o e hx
  exact free b o' (neC b o e hx) e1 (I.base.free b o e n hx)
 ·obtain⟨o',e1⟩:=I.base.there b o e hx
  exact there b o' (neC b o e hx) e1
 ·obtain⟨m1,e1⟩:=I.base.tbls b ps e
  obtain⟨m2,e2⟩:=tbls b _ e1;exact⟨m1++m2,by rw[e2,Array.append_assoc]⟩
 ·obtain⟨m,hn,hl⟩:=I.loc
  refine⟨m,ns m hn,fun i x v e1 e2 e3=>?_⟩;obtain⟨u,r,l⟩:=hl i x v e1 e2 e3;refine⟨u,r,?_⟩;rcases l with l|⟨k,c,e,z⟩
  ·exact .inl l
  ·exact .inr ⟨k,c,e,cellK x c e _ z⟩
 ·obtain⟨v,z⟩:=I.cell x c e
  exact⟨v,cellK x c e v z⟩
 ·obtain⟨m,⟨o,_,_,ho,_⟩,_⟩:=I.loc
  exact free _ o (fun z=>(hch _ z).2.1 rfl) ho I.free
 ·obtain⟨v,o,ho,hd⟩:=I.cell x c e
  exact free c o (fun z=>(hch c z).2.2.1 x c e rfl) ho (I.freeC x c e)
 ·obtain⟨e,n,ne,nf,d⟩:=I.pin p hp
  have nch:p.1∉ch:=fun z=>(hch p.1 z).2.2.2 p hp rfl;exact⟨keep p.1 p.2 ne nf nch e n,free p.1 p.2 nch e n,ne,nf,d⟩
theorem Inv.un {t':Nat} (I:Inv X pins σ H s) (u:Un X.fs [] H H' s.heap h') (hok:fq X.prog X.w H' h'):Inv X pins σ H' { s with heap:=h',toks:=t' }:=by
 obtain⟨m,⟨o,es,ep,ho,r⟩,_⟩:=id I.loc;obtain⟨sl,hL⟩:=u.any ho I.free (by simp);exact I.step (g':=s.gens) (d':=s.drawn) (ch:=[]) (fun _ z=>nomatch z) (fun b o _ hb _ e n=>u.keep b o e n hb (by simp)) (fun b o _ hb _ e n=>u.slot b o e n hb (by simp)) (fun b o _ e n=>u.free b o e n (by simp)) (fun b o _ e=>u.there b o e (by simp)) u.tups u.frzs u.tbls (fun m' hm=>by
  obtain⟨o',es',ep',ho',r'⟩:=hm;rw[ho] at ho';cases ho';exact⟨_,es',ep',hL,r'⟩) hok I.bare
theorem Inv.call {g':Array GenState}{t':Nat}{d':Drawn}{ch:List Addr} (I:Inv X pins σ H s) (u:Un (iT X.stack) ch H H' s.heap h') (hok:fq X.prog X.w H' h') (hg:AllBare g')
  (hch:∀ b∈ch,(b∈X.ex\/X.s₀.heap.objs.size<=b)/\b≠X.env.locals/\(∀ x c,X.env.cells.lookup x=some c->c≠b)/\∀ p∈X.pn++pins,p.1≠b) :
  Inv X pins σ H' { s with heap:=h',gens:=g',drawn:=d',toks:=t' }:=by
 obtain⟨m,⟨o,es,ep,ho,r⟩,_⟩:=id I.loc;obtain⟨sl,hL⟩:=u.any ho I.free fun z=>(hch _ z).2.1 rfl;exact I.step (ch:=ch) hch (fun b o hL hb hc e n=>u.keep b o e n (fun z=>(List.mem_cons.mp (I.nW b z)).elim hL hb) hc) (fun b o _ _ hc e n=>u.any e n hc) (fun b o hc e n=>u.free b o e n hc) (fun b o hc e=>u.there b o e hc) u.tups u.frzs u.tbls (fun m' hm=>by
  obtain⟨o',es',ep',ho',r'⟩:=hm;rw[ho] at ho';cases ho';exact⟨_,es',ep',hL,r'⟩) hok hg
theorem Inv.turned {t':Nat}{it:Addr} (I:Inv X pins σ H s) (k:∀ b o,b≠it->s.heap.get? b=some o->h'.get? b=some o) (hn:H it=none) (hL:it≠X.env.locals)
  (h1:it∈X.ex\/X.s₀.heap.objs.size<=it) (h2:∀ x c,X.env.cells.lookup x=some c->c≠it) (h3:∀ p∈X.pn++pins,p.1≠it):Inv X pins σ H { s with heap:=h',toks:=t' }:=by
 have nit:∀ b u,H b=some u->b≠it:=fun b u e z=>by rw[z,hn] at e;cases e
 refine I.step (g':=s.gens) (d':=s.drawn) (ch:=[it]) (fun b hb=>?_) (fun b o _ _ hc e _=>k b o (fun z=>hc (by simp[z])) e) (fun b o _ _ hc e _=>⟨o.slots,k b o (fun z=>hc (by simp[z])) e⟩) (fun _ _ _ _ n=>n)
  (fun b o hc e=>⟨o,k b o (fun z=>hc (by simp[z])) e⟩) (fun _ _ e=>e) (fun _ _ _ e=>e) (fun b ps e=>⟨#[],by rw[e];simp⟩) (fun m hm=>?_) (fun b u e=>?_) I.bare
 ·have e:b=it:=by simpa using hb
  subst e;exact⟨h1,hL,h2,h3⟩
 ·obtain⟨o,es,ep,ho,r⟩:=hm
  exact⟨o,es,ep,k _ o (Ne.symm hL) ho,r⟩
 ·refine (I.hok b u e).qg (fun c v hc q=>k c v ?_ q) (fun _ q=>q) fun _ _ q=>q
  rcases hc with z|z
  ·rw[z];exact nit b u e
  ·exact nit c _ z
theorem Inv.tok (I:Inv X pins σ H s) (t:Nat):Inv X pins σ H { s with toks:=t }:=I.un (h':=s.heap) (t':=t) Un.refl I.hok
theorem Inv.kept {t':Nat} (I:Inv X pins σ H s) (k:∀ b u,s.heap.get? b=some u->h'.get? b=some u):Inv X pins σ H { s with heap:=h',toks:=t' }:=I.un (Un.kept k) (I.hok.kept k)
theorem Inv.laid {a:Addr}{o:HO}{t':Nat} (I:Inv X pins σ H s) (k:∀ b u,s.heap.get? b=some u->h'.get? b=some u) (hp:s.heap.objs.size<=a) (new:bK X.prog X.w (upd H a o) h' a o) :
  Inv X pins σ (upd H a o) { s with heap:=h',toks:=t' }:=I.un (Un.laid k hp (I.hok.fresh hp)) (I.hok.laid k hp new)
theorem Inv.write {x e:Addr}{o:HO}{t':Nat} (I:Inv X pins σ H s) (mu:CK (H x)) (he:e=x\/H e=some (.own x)) (k:∀ b u,b≠e->s.heap.get? b=some u->h'.get? b=some u) (heo:∃ u,h'.get? e=some u)
  (new:bK X.prog X.w (upd H x o) h' x o):Inv X pins σ (upd H x o) { s with heap:=h',toks:=t' }:=I.un (Un.write mu he k heo) (I.hok.write mu he k heo new)
theorem Inv.weak {σ':List (Option V)} (I:Inv X pins σ H s) (hl:σ'.length=σ.length) (w:∀ (i:Nat) v,σ'[i]?=some (some v)->σ[i]?=some (some v)):Inv X pins σ' H s :=
 ⟨I.ok,I.os,I.bare,I.base,let ⟨m,hn,hl'⟩:=I.loc;⟨m,hn,fun i x v e1 e2 e3=>hl' i x v e1 (w i v e2) e3⟩,I.cell,I.free,I.freeC,I.pin,I.hok,hl.trans I.len⟩
theorem Inv.m_ {pins':List (Addr×Obj)} (I:Inv X pins σ H s) (h:∀ p∈pins',s.heap.get? p.1=some p.2/\H p.1=none/\p.1≠X.env.locals/\p.1∉X.fs/\∀ v,p.2.data≠.cell v):Inv X pins' σ H s :=
 ⟨I.ok,I.os,I.bare,I.base,I.loc,I.cell,I.free,I.freeC,fun p hp=>(List.mem_append.mp hp).elim (fun z=>I.pin p (List.mem_append_left _ z)) (h p),I.hok,I.len⟩
theorem oJ {N:List Str} (hN:N.Nodup) {i j:Nat}{x:Str} (a:N[i]?=some x) (b:N[j]?=some x):i=j:=by
 obtain⟨h1,e1⟩:=List.getElem?_eq_some_iff.mp a;obtain⟨h2,e2⟩:=List.getElem?_eq_some_iff.mp b;exact (List.getElem_inj hN).mp (e1.trans e2.symm)
theorem ma {M:Model}{A:Around}{E:Value->Shared->Prop}{i:Nat}{x:Str}{v:V}{u:Value}{Q:Unit->Shared->Prop} (I:Inv X pins σ H s) (hN:X.N.Nodup) (hi:X.N[i]?=some x) (hx:Loc X.env.scope x) (r:RelV v u)
  (h:∀ s',Inv X pins (σ.set i (some v)) H s'->(∃ a,Heap.SameBut a s.heap s'.heap/\(a=X.env.locals\/X.env.cells.lookup x=some a))->Q () s') (hf:X.fn x=true\/X.env.scope.names.lookup x=some .local:=by first|exact .inl rfl|exact .inr rfl|assumption):wpAny M A (storeName X.env x u) Q E s:=by
 obtain⟨m,hn,hl⟩:=id I.loc;have hcls:(X.env.scope.kind == .class || (X.env.scope.kind == .module && X.env.locals != X.env.globals))=false:=by rw[I.ok.kind];rfl
 have hiσ:i<σ.length:=by rw[I.len];exact (List.getElem?_eq_some_iff.mp hi).1
 have xT:=I.xT;have tracked:∀ {a:Addr}{h':Heap},(∃ o,s.heap.get? a=some o/\H a=none)->Heap.SameBut a s.heap h'->fq X.prog X.w H h':=fun {a h'} ha hs b ob e=>by
  obtain⟨_,_,hfree⟩:=ha;refine (I.hok b ob e).qg (fun c w' hc q=>(hs.2 c ?_).trans q) (fun _ q=>q) fun _ _ q=>q;rintro rfl;rcases hc with rfl|hc
  ·rw[hfree] at e;cases e
  ·rw[hfree] at hc;cases hc
 rcases hx with hk|hk
 ·refine wpAny_storeName_local hk hn (fun h' hn' hs=>?_) hcls
  obtain⟨oL,_,_,hoL,_⟩:=id hn;refine h _ ⟨I.ok,I.os,I.bare,⟨fun b o e n hb hx=>?_,fun b o e n hb hx=>?_,I.base.free,fun b o e hx=>?_,I.base.tups,I.base.frzs,I.base.tbls⟩,⟨_,hn',fun j y v' e1 e2 e3=>?_⟩,fun y c e=>?_,I.free,I.freeC,fun p hp=>?_,tracked ⟨oL,hoL,I.free⟩ hs,by simpa using I.len⟩ ⟨_,hs,.inl rfl⟩
  ·exact (hs.2 b (Nat.ne_of_lt (Nat.lt_of_lt_of_le (Heap.lt_size e) I.ok.above))).trans (I.base.keep b o e n hb hx)
  ·obtain⟨sl,e1⟩:=I.base.slot b o e n hb hx
   exact⟨sl,(hs.2 b (Nat.ne_of_lt (Nat.lt_of_lt_of_le (Heap.lt_size e) I.ok.above))).trans e1⟩
  ·obtain⟨o',e1⟩:=I.base.there b o e hx
   exact⟨o',(hs.2 b (Nat.ne_of_lt (Nat.lt_of_lt_of_le (Heap.lt_size e) I.ok.above))).trans e1⟩
  ·by_cases hj:j=i
   ·subst hj
    rw[hi] at e1;cases e1;rw[List.getElem?_set_self hiσ] at e2
    cases e2;exact⟨u,r,.inl ⟨hk,by simp⟩⟩
   ·rw[List.getElem?_set_ne (Ne.symm hj)] at e2
    obtain⟨u',r',q⟩:=hl j y v' e1 e2 e3;refine⟨u',r',?_⟩;rcases q with ⟨k,e⟩|⟨k,c,e,z⟩
    ·refine .inl ⟨k,?_⟩
     have:y≠x:=fun e=>hj (oJ hN e1 (e ▸ hi));simp[this,e]
    ·exact .inr ⟨k,c,e,z.sameBut hs (xT y c e)⟩
  ·obtain⟨w',z⟩:=I.cell y c e
   exact⟨w',z.sameBut hs (xT y c e)⟩
  ·obtain⟨e,n,ne,nf,d⟩:=I.pin p hp
   exact⟨(hs.2 p.1 ne).trans e,n,ne,nf,d⟩
 ·have hfn:X.fn x=true:=by
   rcases hf with z|z
   ·exact z
   ·rw[z] at hk;cases hk
  obtain⟨c,hc⟩:=I.ok.has x (.inl hk);obtain⟨w',z⟩:=I.cell x c hc;refine wpAny_storeName_cell I.ok.kind hk hc z (fun h' hc' hs=>?_);obtain⟨oc,hoc,hocd⟩:=id z;refine h { s with heap:=h' } ⟨I.ok,I.os,I.bare,⟨fun b o e n hb hx=>?_,fun b o e n hb hx=>?_,I.base.free,fun b o e hx=>?_,I.base.tups,I.base.frzs,I.base.tbls⟩,⟨m,hn.sameBut hs (Ne.symm (xT x c hc)),fun j y v' e1 e2 e3=>?_⟩,fun y c' e=>?_,I.free,I.freeC,fun p hp=>?_,tracked ⟨oc,hoc,I.freeC x c hc⟩ hs,by simpa using I.len⟩ ⟨c,hs,.inr hc⟩
  ·exact (hs.2 b (Nat.ne_of_lt (Nat.lt_of_lt_of_le (Heap.lt_size e) (I.ok.cab x c hfn hc)))).trans (I.base.keep b o e n hb hx)
  ·obtain⟨sl,e1⟩:=I.base.slot b o e n hb hx
   exact⟨sl,(hs.2 b (Nat.ne_of_lt (Nat.lt_of_lt_of_le (Heap.lt_size e) (I.ok.cab x c hfn hc)))).trans e1⟩
  ·obtain⟨o',e1⟩:=I.base.there b o e hx
   exact⟨o',(hs.2 b (Nat.ne_of_lt (Nat.lt_of_lt_of_le (Heap.lt_size e) (I.ok.cab x c hfn hc)))).trans e1⟩
  ·by_cases hj:j=i
   ·subst hj
    rw[hi] at e1;cases e1;rw[List.getElem?_set_self hiσ] at e2
    cases e2;exact⟨u,r,.inr ⟨.inl hk,c,hc,hc'⟩⟩
   ·rw[List.getElem?_set_ne (Ne.symm hj)] at e2
    obtain⟨u',r',q⟩:=hl j y v' e1 e2 e3;refine⟨u',r',?_⟩;rcases q with q|⟨k,c',e,z'⟩
    ·exact .inl q
    ·refine .inr ⟨k,c',e,z'.sameBut hs ?_⟩
     rintro rfl;exact hj (oJ hN e1 (I.ok.inj _ _ _ e hc ▸ hi))
  ·by_cases hcc:c'=c
   ·subst hcc;exact⟨_,hc'⟩
   ·obtain⟨w2,z2⟩:=I.cell y c' e
    exact⟨w2,z2.sameBut hs hcc⟩
  ·obtain⟨e,n,ne,nf,d⟩:=I.pin p hp
   refine⟨(hs.2 p.1 ?_).trans e,n,ne,nf,d⟩;intro q;rw[q,hoc] at e;have q':oc=p.2:=Option.some.inj e;exact d w' (by rw[<- q'];exact hocd)
theorem jY {M:Model}{A:Around}{E:Value->Shared->Prop}{i:Nat}{x:Str}{v:V}{u:Value}{Q:Unit->Shared->Prop} (I:Inv X pins σ H s) (hN:X.N.Nodup) (hi:X.N[i]?=some x) (hx:Loc X.env.scope x) (r:RelV v u)
  (h:∀ s',Inv X pins (σ.set i (some v)) H s'->Q () s') (hf:X.fn x=true\/X.env.scope.names.lookup x=some .local:=by first|exact .inl rfl|exact .inr rfl|assumption):wpAny M A (storeName X.env x u) Q E s :=
 ma I hN hi hx r (fun s' I' _=>h s' I') hf
theorem Inv.zj {s':Shared}{ch:List Addr} (I:Inv X pins σ H s) (ho:s'.os=s.os) (u:Un (iT X.stack) ch H H' s.heap s'.heap) (hok:fq X.prog X.w H' s'.heap) (hg:AllBare s'.gens)
  (hch:∀ b∈ch,(b∈X.ex\/X.s₀.heap.objs.size<=b)/\b≠X.env.locals/\(∀ x c,X.env.cells.lookup x=some c->c≠b)/\∀ p∈X.pn++pins,p.1≠b):Inv X pins σ H' s':=by
 obtain⟨h',g',d',t',o'⟩:=s';have e:o'=s.os:=ho;subst e;exact I.call (g':=g') (t':=t') (d':=d') u hok hg hch
end
noncomputable abbrev XK:=Value->Option Addr->Hp->Prop
noncomputable abbrev St:=List (Option V)
noncomputable abbrev VK:=V->Hp->Prop
noncomputable abbrev TE:=St->Hp->VK->Prop
noncomputable abbrev TT:=St->Hp->(Bool->Hp->Prop)->Prop
noncomputable abbrev TA:=St->Hp->(List V->Hp->Prop)->Prop
structure Ends where
 nx:St->Hp->Prop
 rt:VK
 bk:St->Hp->Prop:=fun _ _=>False
 ct:St->Hp->Prop:=fun _ _=>False
noncomputable abbrev TS:=Ends->St->Hp->Prop
noncomputable def EP (X:Cx) (pins:List (Addr×Obj)) (σ:St) (Q:VK) (u:Value) (s':Shared):Prop:=∃ v H',Inv X pins σ H' s'/\RelV v u/\Q v H'
noncomputable def TP (X:Cx) (pins:List (Addr×Obj)) (σ:St) (Q:Bool->Hp->Prop) (b:Bool) (s':Shared):Prop:=∃ H',Inv X pins σ H' s'/\Q b H'
noncomputable def AP (X:Cx) (pins:List (Addr×Obj)) (σ:St) (Q:List V->Hp->Prop) (us:List Value) (s':Shared):Prop:=∃ vs H',Inv X pins σ H' s'/\Vals vs us/\Q vs H'
noncomputable def SP (X:Cx) (pins:List (Addr×Obj)) (D:Ends) (f:Flow) (s':Shared):Prop :=
 match f with
 | .next=>∃ σ' H',Inv X pins σ' H' s'/\D.nx σ' H'
 | .brk=>∃ σ' H',Inv X pins σ' H' s'/\D.bk σ' H'
 | .cont=>∃ σ' H',Inv X pins σ' H' s'/\D.ct σ' H'
 | .ret u=>∃ v σ' H',Inv X pins σ' H' s'/\RelV v u/\D.rt v H'
noncomputable def PE (X:Cx) (e:Expr) (t:TE):Prop :=
 ∀ (pins:List (Addr×Obj)) (s:Shared) (σ:St) (H:Hp) (Q:VK),Inv X pins σ H s->t σ H Q->wpAny (model X.prog X.w) X.A (eval e X.env) (EP X pins σ Q) X.xe s
noncomputable def PT (X:Cx) (e:Expr) (t:TT):Prop :=
 ∀ (pins:List (Addr×Obj)) (s:Shared) (σ:St) (H:Hp) (Q:Bool->Hp->Prop),Inv X pins σ H s->t σ H Q->wpAny (model X.prog X.w) X.A (isTrue e X.env (eval e X.env)) (TP X pins σ Q) X.xe s
noncomputable def PW (X:Cx) (e:Expr) (t:TT):Prop :=
 ∀ (whole:Sem Value) (pins:List (Addr×Obj)) (s:Shared) (σ:St) (H:Hp) (Q:Bool->Hp->Prop),Inv X pins σ H s->t σ H Q->wpAny (model X.prog X.w) X.A (isTrue e X.env whole) (TP X pins σ Q) X.xe s
theorem PW.pt {X:Cx}{e:Expr}{t:TT} (h:PW X e t):PT X e t:=h _
noncomputable def PA (X:Cx) (es:List Expr) (t:TA):Prop :=
 ∀ (pos:Pos) (pins:List (Addr×Obj)) (s:Shared) (σ:St) (H:Hp) (Q:List V->Hp->Prop),Inv X pins σ H s->t σ H Q->wpAny (model X.prog X.w) X.A (spliced (backTo pos (starEach es X.env))) (AP X pins σ Q) X.xe s
noncomputable def PS (X:Cx) (st:Stmt) (t:TS):Prop :=
 ∀ (pins:List (Addr×Obj)) (s:Shared) (σ:St) (H:Hp) (D:Ends),Inv X pins σ H s->t D σ H->wpAny (model X.prog X.w) X.A (exec st X.env) (SP X pins D) X.xe s
noncomputable def oC (X:Cx) (st:List Stmt) (t:TS):Prop :=
 ∀ (pins:List (Addr×Obj)) (s:Shared) (σ:St) (H:Hp) (D:Ends),Inv X pins σ H s->t D σ H->wpAny (model X.prog X.w) X.A (execs st X.env) (SP X pins D) X.xe s
theorem bC {α:Type}{t:Sem α}{Q Q':α->Shared->Prop}{M:Model}{A:Around}{E:Value->Shared->Prop}{s:Shared} (h:wpAny M A t Q E s) (hQ:∀ a s,Q a s->Q' a s):wpAny M A t Q' E s:=wpAny_mono h hQ fun _ _ x=>x
end L2
namespace L2
open PySem PySem.Spec PyProof.Rows
section
variable {X:Cx}
noncomputable def kH (i:Nat):TE:=fun σ H Q=>∃ v,σ[i]?=some (some v)/\Q v H
noncomputable def tC (v:V):TE:=fun _ H Q=>Q v H
theorem Bx {i:Nat}{x:Str}{pos:Pos} (hN:X.N[i]?=some x) (hv:Dh X.env.scope x) (hd:(x == ("__debug__":Str))=false:=by decide) (hcd:(x == ("__classdict__":Str))=false:=by decide):PE X (.Name x pos) (kH i):=by
 intro pins s σ H Q I h;obtain⟨v,e,h⟩:=h;obtain⟨m,hn,hl⟩:=I.loc;obtain⟨u,r,l⟩:=hl i x v hN e hv;have fin:EP X pins σ Q u s:=⟨v,H,I,r,h⟩;rcases l with ⟨hk,hm⟩|⟨hk,c,hc,hcell⟩
 ·exact wpAny_Name (wpAny_loadName_local I.ok.kind hk hn hm fin) hd
 ·rcases hk with hk|hk
  ·exact wpAny_Name (wpAny_loadName_cell I.ok.kind hk hc hcell fin) hd
  ·exact wpAny_Name (wpAny_loadName_free I.ok.kind hk hc hcell fin hcd) hd
theorem aj {i j pos}:PE X (.Constant (.int i) j pos) (tC (.int i)):=fun _ _ _ H _ I h=>wpAny_Constant_int ⟨.int i,H,I.tok _,⟨_,rfl⟩,h⟩
theorem fo {b j pos}:PE X (.Constant (.bool b) j pos) (tC (.bl b)):=fun _ _ _ H _ I h=>Constant_bool ⟨.bl b,H,I,rfl,h⟩
theorem fP {j pos}:PE X (.Constant .none j pos) (tC .non):=fun _ _ _ H _ I h=>Constant_none ⟨.non,H,I,rfl,h⟩
theorem ar {x j pos}:PE X (.Constant (.str x) j pos) (tC (.str x)):=fun _ _ _ H _ I h=>Calls.Constant_str ⟨.str x,H,I.tok _,⟨_,rfl⟩,h⟩
noncomputable def Gl (X:Cx) (x:Str):Prop:=X.env.kindOf x=some .globalImplicit
theorem ff {E:Value->Shared->Prop}{pins:List (Addr×Obj)}{s:Shared}{σ:St}{H:Hp}{x:Str}{u:Value}{pos:Pos}{Q:Value->Shared->Prop} (I:Inv X pins σ H s) (hg:Gl X x) (hm:X.mg x=some u) (h:Q u s)
  (hd:(x == ("__debug__":Str))=false:=by decide):wpAny (model X.prog X.w) X.A (eval (.Name x pos) X.env) Q E s :=
 Calls.Name_function_global I.ok.kind hg (Calls.loadGlobal_global (by rw[I.ok.glob];exact I.mod.glob.keeps I.bk) hm h) hd
theorem gz {E:Value->Shared->Prop}{pins:List (Addr×Obj)}{s:Shared}{σ:St}{H:Hp}{x:Str}{u:Value}{pos:Pos}{Q:Value->Shared->Prop} (I:Inv X pins σ H s) (hg:Gl X x) (hm:X.mg x=none) (hv:bootBuiltins x=some u) (h:Q u s)
  (hn:x≠"__name__":=by decide) (hd:(x == ("__debug__":Str))=false:=by decide):wpAny (model X.prog X.w) X.A (eval (.Name x pos) X.env) Q E s:=by
 obtain⟨mb,h1,h2⟩:=I.mod.blt;exact Calls.Name_function_global I.ok.kind hg (Calls.loadGlobal_builtin (by rw[I.ok.glob];exact I.mod.glob.keeps I.bk) hm (by rw[I.ok.blt];exact h1.keeps I.bk) ((h2 x hn).trans hv) h) hd
theorem xB {x:Str}{v:V}{u:Value}{pos:Pos} (hg:Gl X x) (hm:X.mg x=some u) (r:RelV v u) (hd:(x == ("__debug__":Str))=false:=by decide):PE X (.Name x pos) (tC v) :=
 fun _ _ _ H _ I h=>ff I hg hm ⟨v,H,I,r,h⟩ hd
theorem cv {x:Str}{v:V}{u:Value}{pos:Pos} (hg:Gl X x) (hm:X.mg x=none) (hv:bootBuiltins x=some u) (r:RelV v u) (hn:x≠"__name__":=by decide) (hd:(x == ("__debug__":Str))=false:=by decide):PE X (.Name x pos) (tC v) :=
 fun _ _ _ H _ I h=>gz I hg hm hv ⟨v,H,I,r,h⟩ hn hd
variable {a b:Expr}{ta tb:TE}{pos:Pos}
noncomputable def PC (X:Cx) (op:CmpOp) (a b:Expr) (t:TE):Prop :=
 ∀ (pins:List (Addr×Obj)) (s:Shared) (σ:St) (H:Hp) (Q:VK),Inv X pins σ H s->t σ H Q ->
  wpAny (model X.prog X.w) X.A (eval a X.env) (fun v s₁=>wpAny (model X.prog X.w) X.A (eval b X.env) (fun u s₂=>wpAny (model X.prog X.w) X.A (compareOp op v u) (EP X pins σ Q) X.xe s₂) X.xe s₁) X.xe s
theorem vw (b:Expr) {op:CmpOp} (h:op≠.In) (h2:op≠.NotIn):behindInMarks op b=false:=by
 have e1:(op == CmpOp.In)=false:=by cases op <;> first|rfl|exact absurd rfl h
 have e2:(op == CmpOp.NotIn)=false:=by cases op <;> first|rfl|exact absurd rfl h2
 cases b <;> simp[behindInMarks,e1,e2]
noncomputable def BL (ta:TE):TE:=fun σ H Q=>ta σ H fun x H1=>Q (.bl (decide (x=.non))) H1
noncomputable def uU (ta:TE):TE:=fun σ H Q=>ta σ H fun x H1=>Q (.bl (!decide (x=.non))) H1
theorem RelV.oU {x:V}{v:Value} (r:RelV x v):(v == Value.none)=decide (x=.non):=by
 cases x with
 | non=>cases r;rfl
 | bl _=>cases r;rfl
 | int _=>obtain⟨t,rfl⟩:=r;rfl
 | str _=>obtain⟨t,rfl⟩:=r;rfl
 | byt _=>obtain⟨t,rfl⟩:=r;rfl
 | flt _=>obtain⟨t,rfl⟩:=r;rfl
 | ref _=>cases r;rfl
 | ty _=>cases r;rfl
theorem fh {j pos'} (ha:PE X a ta):PC X .Is a (.Constant .none j pos') (BL ta):=by
 intro pins s σ H Q I h;refine bC (ha pins s σ H _ I h) fun v s1 ⟨x,H1,I1,r1,q1⟩=>?_;exact Constant_none (is_none_gen ⟨.bl _,H1,I1,by rw[r1.oU];rfl,q1⟩)
theorem jm {j pos'} (ha:PE X a ta):PC X .IsNot a (.Constant .none j pos') (uU ta):=by
 intro pins s σ H Q I h;refine bC (ha pins s σ H _ I h) fun v s1 ⟨x,H1,I1,r1,q1⟩=>?_;exact Constant_none (isnot_none_gen ⟨.bl _,H1,I1,by rw[r1.oU];rfl,q1⟩)
noncomputable def tB (t:TE):TT:=fun σ H Q=>t σ H fun x H1=>∃ c,x=.bl c/\Q c H1
theorem da {op:CmpOp}{t:TE} (h:PC X op a b t) (h1:behindInMarks op b=false:=by first|exact vw _ (by decide) (by decide)|rfl):PT X (.Compare a [op] [b] pos) (tB t):=by
 intro pins s σ H Q I hw;refine wpAny_isTrue_Compare1 (bC (h pins s σ H _ I hw) fun v s1 h1=>bC h1 fun u s2 h2=>bC h2 fun c s3 ⟨x,H1,I1,r1,q1⟩=>?_) h1;obtain⟨d,rfl,q⟩:=q1
 cases r1;exact wpAny_truthy_bool ⟨H1,I1,q⟩
theorem cK {e:Expr}{t:TE} (h:PE X e t) (he:∀ whole,isTrue e X.env whole=(do let v <- whole;standAt e.pos;holding [v] (truthy v)):=by intro _;rfl):PT X e (tB t):=by
 intro pins s σ H Q I hw;refine isTrue_plain (bC (h pins s σ H _ I hw) fun v s1 ⟨x,H1,I1,r1,q1⟩=>?_) (he _);obtain⟨d,rfl,q⟩:=q1
 cases r1;exact wpAny_truthy_bool ⟨H1,I1,q⟩
variable {tA tB':TT}{rest:List Expr}
noncomputable def D9 (t u:TT):TT:=fun σ H Q=>t σ H fun c H1=>if c=true then u σ H1 Q else Q false H1
noncomputable def GJ (t u:TT):TT:=fun σ H Q=>t σ H fun c H1=>if c=true then Q true H1 else u σ H1 Q
noncomputable def Ep (t:TT):TT:=fun σ H Q=>t σ H fun c H1=>Q (!c) H1
theorem jt (ha:PT X a tA):PW X (.BoolOp .And [a] pos) tA:=by
 intro wh pins s σ H Q I h;refine isTrue_and (bC (ha pins s σ H Q I h) fun c s1 e=>?_)
 cases c with
 | true=>exact isTrue_and_nil e
 | false=>exact e
theorem fU (ha:PT X a tA):PW X (.BoolOp .Or [a] pos) tA:=by
 intro wh pins s σ H Q I h;refine isTrue_or (bC (ha pins s σ H Q I h) fun c s1 e=>?_)
 cases c with
 | false=>exact isTrue_or_nil e
 | true=>exact e
theorem jN (ha:PT X a tA) (hb:PW X (.BoolOp .And (b::rest) pos) tB'):PW X (.BoolOp .And (a::b::rest) pos) (D9 tA tB'):=by
 intro wh pins s σ H Q I h;refine isTrue_and (bC (ha pins s σ H _ I h) fun c s1 ⟨H1,I1,q1⟩=>?_)
 cases c with
 | true=>exact hb wh pins s1 σ H1 Q I1 q1
 | false=>exact⟨H1,I1,q1⟩
theorem hJ (ha:PT X a tA) (hb:PW X (.BoolOp .Or (b::rest) pos) tB'):PW X (.BoolOp .Or (a::b::rest) pos) (GJ tA tB'):=by
 intro wh pins s σ H Q I h;refine isTrue_or (bC (ha pins s σ H _ I h) fun c s1 ⟨H1,I1,q1⟩=>?_)
 cases c with
 | true=>exact⟨H1,I1,q1⟩
 | false=>exact hb wh pins s1 σ H1 Q I1 q1
theorem eM (ha:PT X a tA):PT X (.UnaryOp .Not a pos) (Ep tA):=by
 intro pins s σ H Q I h;exact isTrue_not (ha pins s σ H (fun c H1=>Q (!c) H1) I h)
noncomputable def yV (ta tb:TE):TE:=fun σ H Q=>ta σ H fun x H1=>∃ c,x=.bl c/\if c=true then tb σ H1 Q else Q (.bl false) H1
noncomputable def Cy (ta tb:TE):TE:=fun σ H Q=>ta σ H fun x H1=>∃ c,x=.bl c/\if c=true then Q (.bl true) H1 else tb σ H1 Q
noncomputable def zh (ta:TE):TE:=fun σ H Q=>ta σ H fun x H1=>∃ c,x=.bl c/\Q (.bl (!c)) H1
theorem qd {op}{t:TE} (h:PE X a t):PE X (.BoolOp op [a] pos) t:=fun pins s σ H Q I hw=>BoolOp_one (h pins s σ H Q I hw)
theorem uP (ha:PE X a ta) (hb:PE X (.BoolOp .And (b::rest) pos) tb):PE X (.BoolOp .And (a::b::rest) pos) (yV ta tb):=by
 intro pins s σ H Q I h;refine BoolOp_and (bC (ha pins s σ H _ I h) fun v s1 ⟨x,H1,I1,r1,q1⟩=>?_);obtain⟨c,rfl,q1⟩:=q1
 cases r1;refine wpAny_truthy_bool ?_
 cases c with
 | true=>exact hb pins s1 σ H1 Q I1 q1
 | false=>exact⟨.bl false,H1,I1,rfl,q1⟩
theorem CI (ha:PE X a ta) (hb:PE X (.BoolOp .Or (b::rest) pos) tb):PE X (.BoolOp .Or (a::b::rest) pos) (Cy ta tb):=by
 intro pins s σ H Q I h;refine BoolOp_or (bC (ha pins s σ H _ I h) fun v s1 ⟨x,H1,I1,r1,q1⟩=>?_);obtain⟨c,rfl,q1⟩:=q1
 cases r1;refine wpAny_truthy_bool ?_
 cases c with
 | false=>exact hb pins s1 σ H1 Q I1 q1
 | true=>exact⟨.bl true,H1,I1,rfl,q1⟩
theorem BE (ha:PE X a ta):PE X (.UnaryOp .Not a pos) (zh ta):=by
 intro pins s σ H Q I h;refine UnaryOp_ (bC (ha pins s σ H _ I h) fun v s1 ⟨x,H1,I1,r1,q1⟩=>?_);obtain⟨c,rfl,q1⟩:=q1
 cases r1;exact not_of (wpAny_truthy_bool ⟨.bl (!c),H1,I1,rfl,q1⟩)
noncomputable def GH (t:TT) (ta tb:TE):TE:=fun σ H Q=>t σ H fun c H1=>if c=true then ta σ H1 Q else tb σ H1 Q
theorem fw {c:Expr} (hc:PT X c tA) (ha:PE X a ta) (hb:PE X b tb):PE X (.IfExp c a b pos) (GH tA ta tb):=by
 intro pins s σ H Q I h;refine wpAny_IfExp (bC (hc pins s σ H _ I h) fun d s1 ⟨H1,I1,q1⟩=>?_)
 cases d with
 | true=>exact ha pins s1 σ H1 Q I1 q1
 | false=>exact hb pins s1 σ H1 Q I1 q1
end
end L2
namespace L2
open PySem PySem.Spec PyProof.Rows
noncomputable def aO (K:PySem.W.Frag) (H:Hp) (a:Addr) (xs:List V):Prop :=
 Rd H a (.lst xs) \/
  ∃ (o:Obj) (its:Array Value) (n:Nat),K.lookup a=some o/\o.cls=.type "list"/\o.dict=none/\o.data=.seq its n/\its.size<=sizeLine/\Vals xs its.toList
noncomputable def cI (K:PySem.W.Frag) (H:Hp) (a:Addr) (xs:List V):Prop :=
 Rd H a (.tup xs) \/
  ∃ (o:Obj) (its:Array Value) (n:Nat),K.lookup a=some o/\o.cls=.type "tuple"/\o.data=.seq its n/\its.size<=sizeLine/\Vals xs its.toList
noncomputable def FG:Value->Option V
 | .none=>some .non
 | .bool b=>some (.bl b)
 | .int i _=>some (.int i)
 | .str x _=>some (.str x)
 | .bytes b _=>some (.byt b)
 | .float b _=>some (.flt b)
 | .ref a=>some (.ref a)
 | .type n=>some (.ty n)
 | _=>none
theorem RelV.abs {x:V}{u:Value} (r:RelV x u):FG u=some x:=by
 cases x with
 | non=>cases r;rfl
 | bl _=>cases r;rfl
 | int _=>obtain⟨t,rfl⟩:=r;rfl
 | str _=>obtain⟨t,rfl⟩:=r;rfl
 | byt _=>obtain⟨t,rfl⟩:=r;rfl
 | flt _=>obtain⟨t,rfl⟩:=r;rfl
 | ref _=>cases r;rfl
 | ty _=>cases r;rfl
theorem RelV.inj {x y:V}{u:Value} (r:RelV x u) (q:RelV y u):x=y:=Option.some.inj (r.abs.symm.trans q.abs)
theorem Vals.inj:∀ {xs ys:List V}{us:List Value},Vals xs us->Vals ys us->xs=ys
 | _,_,_,.nil,.nil=>rfl
 | _,_,_,.cons r t,.cons r' t'=>by rw[r.inj r',Vals.inj t t']
section
variable {X:Cx}{pins:List (Addr×Obj)}{σ:St}{H:Hp}{s:Shared}{a:Addr}{xs ys:List V}
theorem aO.of {K:PySem.W.Frag} (h:H a=some (.lst xs)):aO K H a xs:=.inl (.inl h)
theorem cI.of {K:PySem.W.Frag} (h:H a=some (.tup xs)):cI K H a xs:=.inl (.inl h)
theorem Inv.list (I:Inv X pins σ H s) (h:aO X.K H a xs):∃ its:List Value,Vals xs its/\PlainL s.heap a its.toArray/\xs.length<=sizeLine:=by
 rcases h with h|⟨o,its,n,hk,hc,hd,hs,hz,r⟩
 ·obtain⟨z,its,n,r,e⟩:=h.ok I.hok
  exact⟨its,r,⟨_,n,e,rfl,rfl,rfl⟩,z⟩
 ·refine⟨its.toList,r,⟨o,n,I.eO a o hk,hc,hd,by simpa using hs⟩,?_⟩
  have e:=r.length;simp only[Array.length_toList] at e;omega
theorem Inv.tuple (I:Inv X pins σ H s) (h:cI X.K H a xs):∃ its:List Value,Vals xs its/\IsTup s.heap a its.toArray/\xs.length<=sizeLine:=by
 rcases h with h|⟨o,its,n,hk,hc,hs,hz,r⟩
 ·obtain⟨z,its,r,p⟩:=h.ok I.hok
  exact⟨its,r,p,z⟩
 ·refine⟨its.toList,r,⟨o,I.eO a o hk,hc,n,by simpa using hs⟩,?_⟩
  have e:=r.length;simp only[Array.length_toList] at e;omega
theorem Inv.oQ (I:Inv X pins σ H s) (h:aO X.K H a xs) (h':aO X.K H a ys):xs=ys:=by
 obtain⟨its,r,⟨o,n,e,_,_,d⟩,_⟩:=I.list h;obtain⟨its',r',⟨o',n',e',_,_,d'⟩,_⟩:=I.list h';rw[e] at e';cases e';rw[d] at d';injection d' with d1 _
 have:its=its':=by simpa using congrArg Array.toList d1
 subst this;exact r.inj r'
theorem Inv.tS (I:Inv X pins σ H s) (h:cI X.K H a xs) (h':cI X.K H a ys):xs=ys:=by
 obtain⟨its,r,⟨o,e,_,n,d⟩,_⟩:=I.tuple h;obtain⟨its',r',⟨o',e',_,n',d'⟩,_⟩:=I.tuple h';rw[e] at e';cases e';rw[d] at d';injection d' with d1 _
 have:its=its':=by simpa using congrArg Array.toList d1
 subst this;exact r.inj r'
end
noncomputable abbrev Cx.kP (X:Cx) (E:Value->Shared->Prop):Cx:={ X with xe:=E }
noncomputable abbrev Cx.EV (X:Cx):Cx:=X.kP fun _ _=>False
theorem Cx.Ok.kP {X:Cx} (ok:X.Ok) (E:Value->Shared->Prop):(X.kP E).Ok :=
 ⟨ok.mod,ok.kind,ok.glob,ok.blt,ok.above,ok.inj,ok.has,ok.cab,ok.hd,ok.frames,ok.stk,ok.exf,ok.bs,ok.bsz,ok.noex,ok.exfs,ok.gh,ok.frf⟩
theorem Cx.Ok.fQ {X:Cx}{E:Value->Shared->Prop} (ok:(X.kP E).Ok):X.Ok :=
 ⟨ok.mod,ok.kind,ok.glob,ok.blt,ok.above,ok.inj,ok.has,ok.cab,ok.hd,ok.frames,ok.stk,ok.exf,ok.bs,ok.bsz,ok.noex,ok.exfs,ok.gh,ok.frf⟩
section
variable {X:Cx}{pins:List (Addr×Obj)}{σ:St}{H:Hp}{s:Shared}{E:Value->Shared->Prop}
theorem Inv.kP (I:Inv X pins σ H s) (E:Value->Shared->Prop):Inv (X.kP E) pins σ H s:=⟨I.ok.kP E,I.os,I.bare,I.base,I.loc,I.cell,I.free,I.freeC,I.pin,I.hok,I.len⟩
theorem Inv.fQ (I:Inv (X.kP E) pins σ H s):Inv X pins σ H s:=⟨I.ok.fQ,I.os,I.bare,I.base,I.loc,I.cell,I.free,I.freeC,I.pin,I.hok,I.len⟩
theorem SP.fQ {D:Ends}{f:Flow}{s':Shared} (h:SP (X.kP E) pins D f s'):SP X pins D f s':=by
 cases f with
 | next=>obtain⟨σ',H',I,q⟩:=h;exact⟨σ',H',I.fQ,q⟩
 | brk=>obtain⟨σ',H',I,q⟩:=h;exact⟨σ',H',I.fQ,q⟩
 | cont=>obtain⟨σ',H',I,q⟩:=h;exact⟨σ',H',I.fQ,q⟩
 | ret u=>obtain⟨v,σ',H',I,r,q⟩:=h;exact⟨v,σ',H',I.fQ,r,q⟩
theorem oC.EV {st:List Stmt}{t:TS} (h:oC X.EV st t):oC X st t:=fun pins s σ H D I hw =>
 wpAny_mono (h pins s σ H D (I.kP _) hw) (fun _ _ q=>q.fQ) fun _ _ z=>False.elim z
end
section
variable {X:Cx}{st:Stmt}{rest:List Stmt}{t u:TS}{e:Expr}{te:TE}{pos:Pos}
noncomputable def xf:TS:=fun D σ H=>D.nx σ H
noncomputable def B8 (t u:TS):TS:=fun D σ H=>t { D with nx:=u D } σ H
theorem aJ:oC X [] xf:=fun _ _ σ H _ I h=>wpAny_execs_nil ⟨σ,H,I,h⟩
theorem af (h1:PS X st t) (h2:oC X rest u):oC X (st::rest) (B8 t u):=by
 intro pins s σ H D I h;refine wpAny_execs_cons (bC (h1 pins s σ H { D with nx:=u D } I h) fun f s1 q=>?_)
 cases f with
 | next =>
  obtain⟨σ',H',I',q⟩:=q;exact h2 pins s1 σ' H' D I' q
 | ret v=>exact q
 | brk=>exact q
 | cont=>exact q
theorem ao (h1:PS X st t):oC X [st] t:=by
 intro pins s σ H D I h;refine wpAny_execs_cons (bC (h1 pins s σ H D I h) fun f s1 q=>?_)
 cases f with
 | next=>exact wpAny_execs_nil q
 | ret v=>exact q
 | brk=>exact q
 | cont=>exact q
noncomputable def CQ:TS:=fun D σ H=>D.ct σ H
theorem pS:PS X (.Continue pos) CQ:=fun _ _ σ H _ I h=>wpAny_Continue ⟨σ,H,I,h⟩
theorem Inv.quiet {pins:List (Addr×Obj)}{σ:St}{H:Hp}{s:Shared} (I:Inv X pins σ H s):interactive X.env=false:=by simp[interactive,I.ok.kind]
noncomputable def wD (te:TE):TS:=fun D σ H=>te σ H fun _ H1=>D.nx σ H1
theorem ba (he:PE X e te) (hs:swapsWith e none pos.line X.env=pure false:=by rfl):PS X (.Expr e pos) (wD te):=by
 intro pins s σ H D I h;exact wpAny_Expr_any (bC (he pins s σ H _ I h) fun v s1 ⟨x,H1,I1,r1,q1⟩=>⟨σ,H1,I1,q1⟩) I.quiet hs
noncomputable def zH (te:TE):TS:=fun D σ H=>te σ H D.rt
theorem aw (he:PE X e te):PS X (.Return (some e) pos) (zH te):=by
 intro pins s σ H D I h;exact wpAny_Return_some (bC (he pins s σ H _ I h) fun v s1 ⟨x,H1,I1,r1,q1⟩=>⟨x,σ,H1,I1,r1,q1⟩)
noncomputable def D0:TS:=fun D _ H=>D.rt .non H
noncomputable def zB (c:TT) (t u:TS):TS:=fun D σ H=>c σ H fun b H1=>if b=true then t D σ H1 else u D σ H1
theorem a_ {c:Expr}{a b:List Stmt}{tc:TT} (hc:PT X c tc) (ha:oC X a t) (hb:oC X b u):PS X (.If c a b pos) (zB tc t u):=by
 intro pins s σ H D I h;refine wpAny_If (bC (hc pins s σ H _ I h) fun d s1 ⟨H1,I1,q1⟩=>?_)
 cases d with
 | true=>exact ha pins s1 σ H1 D I1 q1
 | false=>exact hb pins s1 σ H1 D I1 q1
end
noncomputable abbrev TG:=V->St->Hp->(St->Hp->Prop)->Prop
noncomputable abbrev uw:=List V->St->Hp->(St->Hp->Prop)->Prop
noncomputable def PG (X:Cx) (target:Expr) (t:TG):Prop :=
 ∀ (pins:List (Addr×Obj)) (s:Shared) (σ:St) (H:Hp) (v:V) (u:Value) (Q:St->Hp->Prop),Inv X pins σ H s->RelV v u->t v σ H Q ->
  wpAny (model X.prog X.w) X.A (assign target X.env u) (fun _ s'=>∃ σ' H',Inv X pins σ' H' s'/\Q σ' H') X.xe s
noncomputable def zc (X:Cx) (ts:List Expr) (t:uw):Prop :=
 ∀ (pins:List (Addr×Obj)) (s:Shared) (σ:St) (H:Hp) (vs:List V) (us:List Value) (Q:St->Hp->Prop),Inv X pins σ H s->Vals vs us->t vs σ H Q ->
  wpAny (model X.prog X.w) X.A (assignInOrder ((assignEach ts X.env).map (·.2)) us) (fun _ s'=>∃ σ' H',Inv X pins σ' H' s'/\Q σ' H') X.xe s
noncomputable abbrev EE:=V->V->Hp->VK->Prop
noncomputable def GK (X:Cx) (op:Operator) (t:EE):Prop :=
 ∀ (pins:List (Addr×Obj)) (s:Shared) (σ:St) (H:Hp) (x y:V) (v u:Value) (Q:VK),Inv X pins σ H s->RelV x v->RelV y u->t x y H Q ->
  wpAny (model X.prog X.w) X.A (inplaceOp op v u) (EP X pins σ Q) X.xe s
section
variable {X:Cx}{pos:Pos}
noncomputable def oG (i:Nat):TG:=fun v σ H Q=>Q (σ.set i (some v)) H
theorem aM {i:Nat}{x:Str} (hN:X.N.Nodup) (hi:X.N[i]?=some x) (hx:Loc X.env.scope x) (hf:X.fn x=true\/X.env.scope.names.lookup x=some .local:=by first|exact .inl rfl|exact .inr rfl|assumption):PG X (.Name x pos) (oG i):=by
 intro pins s σ H v u Q I r h;exact wpAny_assign_Name (jY I hN hi hx r (fun s' I'=>⟨_,H,I',h⟩) hf)
noncomputable def Cz:uw:=fun vs σ H Q=>vs=[]/\Q σ H
noncomputable def sv (t:TG) (u:uw):uw:=fun vs σ H Q=>∃ v r,vs=v::r/\t v σ H fun σ' H'=>u r σ' H' Q
theorem jj:zc X [] Cz:=by
 intro pins s σ H vs us Q I r h;obtain⟨e,h⟩:=h;subst e
 cases r;exact assignInOrder_nil ⟨σ,H,I,h⟩
theorem cN {e:Expr}{es:List Expr}{t:TG}{u:uw} (h1:PG X e t) (h2:zc X es u)
  (hs:(assignEach (e::es) X.env).map (·.2)=assign e X.env::(assignEach es X.env).map (·.2):=by rfl):zc X (e::es) (sv t u):=by
 intro pins s σ H vs us Q I r h;obtain⟨v,vr,e1,h⟩:=h;subst e1
 cases r with
 | cons r rr =>
  rw[hs];refine assignInOrder_cons (bC (h1 pins s σ H _ _ _ I r h) fun _ s1 ⟨σ1,H1,I1,q1⟩=>?_);exact h2 pins s1 σ1 H1 _ _ Q I1 rr q1
noncomputable def Ax (K:PySem.W.Frag) (n:Nat) (t:uw):TG:=fun v σ H Q=>∃ a xs,v=.ref a/\cI K H a xs/\xs.length=n/\t xs σ H Q
theorem A7 {es:List Expr}{k:Nat}{t:uw}{n:Nat} (hc:X.calm=true) (h:zc X es t)
  (hn:(assignEach es X.env).length=n:=by rfl) (hst:(assignEach es X.env).findIdx? (·.1)=none:=by rfl):PG X (.Tuple es k pos) (Ax X.K n t):=by
 intro pins s σ H v u Q I r hw;obtain⟨a,xs,e1,hq,hl,hw⟩:=hw;subst e1
 cases r;obtain⟨its,rv,ht,hz⟩:=I.tuple hq;refine assign_Tuple_tuple (I.ok.hd hc) ht (by simp[hn,<- hl,rv.length]) hst fun h' hx=>?_;have I1:Inv X pins σ H { s with heap:=h' }:=I.kept (t':=s.toks) fun b o e=>hx b o (Nat.ne_of_lt (Heap.lt_size e)) e;exact h pins _ σ H xs _ Q I1 (by simpa using rv) hw
noncomputable def xR (te:TE) (g:TG):TS:=fun D σ H=>te σ H fun x H1=>g x σ H1 D.nx
theorem uQ {tg e:Expr}{te:TE}{g:TG} (he:PE X e te) (hg:PG X tg g) (hs:swapsWithSole [tg] e pos.line X.env=pure false:=by rfl) (hw:swappedStores [tg] e X.env=pure none:=by rfl)
  (h1:(assignEach [tg] X.env).map (·.2)=[assign tg X.env]:=by rfl):PS X (.Assign [tg] e pos) (xR te g):=by
 intro pins s σ H D I h;refine wpAny_Assign_stores (bC (he pins s σ H _ I h) fun v s1 ⟨x,H1,I1,r1,q1⟩=>?_) hs hw;rw[h1];exact bC (hg pins s1 σ H1 x v _ I1 r1 q1) fun _ s2 q=>q
theorem au {i:Nat}{x:Str}{e:Expr}{te:TE}{pos':Pos} (hN:X.N.Nodup) (hi:X.N[i]?=some x) (hx:Loc X.env.scope x) (he:PE X e te) (hs:swapsWith e (some (.Name x pos')) pos.line X.env=pure false:=by rfl) (hf:X.fn x=true\/X.env.scope.names.lookup x=some .local:=by first|exact .inl rfl|exact .inr rfl|assumption) :
  PS X (.Assign [.Name x pos'] e pos) (xR te (oG i)):=by
 intro pins s σ H D I h;refine wpAny_Assign_Name (bC (he pins s σ H _ I h) fun v s1 ⟨y,H1,I1,r1,q1⟩=>?_) hs;exact jY I1 hN hi hx r1 (fun s2 I2=>⟨_,H1,I2,q1⟩) hf
noncomputable def Eh (i:Nat) (te:TE) (ti:EE):TS:=fun D σ H=>∃ x,σ[i]?=some (some x)/\te σ H fun y H1=>ti x y H1 fun z H2=>D.nx (σ.set i (some z)) H2
theorem vX {i:Nat}{x:Str}{e:Expr}{te:TE}{op:Operator}{ti:EE}{pos':Pos} (hN:X.N.Nodup) (hi:X.N[i]?=some x) (hx:Loc X.env.scope x) (he:PE X e te) (ho:GK X op ti) (hf:X.fn x=true\/X.env.scope.names.lookup x=some .local:=by first|exact .inl rfl|exact .inr rfl|assumption) :
  PS X (.AugAssign (.Name x pos') op e pos) (Eh i te ti):=by
 intro pins s σ H D I h;obtain⟨v,e1,h⟩:=h;obtain⟨m,hn,hl⟩:=I.loc;have vis:Dh X.env.scope x:=by rcases hx with k|k;exact .inl k;exact .inr (.inl k)
 obtain⟨u,r,l⟩:=hl i x v hi e1 vis;refine wpAny_AugAssign_Name ?_;have go:wpAny (model X.prog X.w) X.A (eval e X.env) (fun w s₂=>wpAny (model X.prog X.w) X.A (inplaceOp op u w) (fun r s₃=>wpAny (model X.prog X.w) X.A (storeName X.env x r) (fun _=>SP X pins D .next) X.xe s₃) X.xe s₂) X.xe s:=by
  refine bC (he pins s σ H _ I h) fun w s1 ⟨y,H1,I1,r1,q1⟩=>?_;refine bC (ho pins s1 σ H1 v y u w _ I1 r r1 q1) fun z s2 ⟨zv,H2,I2,r2,q2⟩=>?_;exact jY I2 hN hi hx r2 (fun s3 I3=>⟨_,H2,I3,q2⟩) hf
 rcases l with ⟨hk,hm⟩|⟨hk,c,hc,hcell⟩
 ·exact wpAny_loadName_local I.ok.kind hk hn hm go
 ·rcases hk with hk|hk
  ·exact wpAny_loadName_cell I.ok.kind hk hc hcell go
  ·rcases hx with k|k
   ·have:X.env.scope.names.lookup x=some .free:=hk
    rw[k] at this;cases this
   ·have:X.env.scope.names.lookup x=some .free:=hk
    rw[k] at this;cases this
noncomputable def GS (f:Int->Int->Int):EE:=fun x y H Q=>∃ i j,x=.int i/\y=.int j/\Q (.int (f i j)) H
theorem uA:GK X .Add (GS fun i j=>i+j):=by
 intro pins s σ H x y v u Q I r1 r2 h;obtain⟨i,j,e1,e2,q⟩:=h;subst e1;subst e2;obtain⟨t,rfl⟩:=r1;obtain⟨t',rfl⟩:=r2;exact iadd_int ⟨.int _,H,I.tok _,⟨_,rfl⟩,q⟩
end
section
variable {X:Cx}{pos:Pos}
noncomputable def qL (c:TT) (tb:TS):TS:=fun D σ H=>∃ W:Nat->St->Hp->Prop,(∃ m,W m σ H)/\∀ m σ H,W m σ H ->
 c σ H fun b H1=>if b=true then ∃ N:St->Hp->Prop,(∀ σ' H',N σ' H'->∃ m',m'<m/\W m' σ' H')/\tb { D with nx:=N,ct:=N,bk:=D.nx } σ H1 else D.nx σ H1
theorem km {c:Expr}{body:List Stmt}{tc:TT}{tb:TS} (hp:PassesOwn (model X.prog X.w) X.A X.env X.xe) (hc:PT X c tc) (hb:oC X body tb):PS X (.While c body [] pos) (qL tc tb):=by
 intro pins s σ H D I h;obtain⟨W,⟨m0,w0⟩,turn⟩:=h;refine wpAny_While (codeAny_whileLoop (fun n s'=>∃ σ' H',Inv X pins σ' H' s'/\W n σ' H') ?_ m0 ⟨σ,H,I,w0⟩);rintro n s1 ⟨σ1,H1,I1,w1⟩;refine wpAny_passesOwn hp (bC (hc pins s1 σ1 H1 _ I1 (turn n σ1 H1 w1)) fun b s2 ⟨H2,I2,q2⟩=>?_)
 cases b with
 | true =>
  obtain⟨N,hN,q2⟩:=q2;rw[if_pos rfl];refine wpAny_passesOwn hp (bC (hb pins s2 σ1 H2 _ I2 q2) fun f s3 q3=>?_)
  cases f with
  | next =>
   obtain⟨σ3,H3,I3,n3⟩:=q3;obtain⟨m',hm,w3⟩:=hN σ3 H3 n3;exact⟨m',hm,σ3,H3,I3,w3⟩
  | cont =>
   obtain⟨σ3,H3,I3,n3⟩:=q3;obtain⟨m',hm,w3⟩:=hN σ3 H3 n3;exact⟨m',hm,σ3,H3,I3,w3⟩
  | brk=>exact q3
  | ret v=>exact q3
 | false =>
  rw[if_neg Bool.false_ne_true];exact wpAny_execs_nil ⟨σ1,H2,I2,q2⟩
end
structure It where
 go:Nat->Hp->Prop
 yld:Nat->Hp->V->Hp->Prop
 stop:Nat->Hp->Prop
noncomputable def kL (X:Cx) (pins:List (Addr×Obj)) (H:Hp) (b:Addr):Prop :=
 H b=none/\b≠X.env.locals/\b∉X.fs/\(b∈X.ex\/X.s₀.heap.objs.size<=b)/\(∀ x c,X.env.cells.lookup x=some c->c≠b)/\∀ p∈X.pn++pins,p.1≠b
theorem Inv.qV {X:Cx}{pins:List (Addr×Obj)}{σ:St}{H H':Hp}{s:Shared}{b:Addr} (I:Inv X pins σ H s) (hb:s.heap.objs.size<=b) (hn:H' b=none):kL X pins H' b:=by
 refine⟨hn,Nat.ne_of_gt (Nat.lt_of_lt_of_le I.lt hb),I.E9 hb,.inr (Nat.le_trans I.sz hb),fun x c e z=>?_,fun p hp z=>?_⟩
 ·obtain⟨v,q⟩:=I.cell x c e
  exact absurd (Nat.lt_of_lt_of_le q.lt (by rw[z];exact hb)) (Nat.lt_irrefl _)
 ·exact absurd (Nat.lt_of_lt_of_le (Heap.lt_size (I.pin p hp).1) (by rw[z];exact hb)) (Nat.lt_irrefl _)
structure Turn (P:Program) (w:World) (K:PySem.W.Frag) (tg:Expr) (J:It) (fp:List Addr) (it:Addr) (tn:Nat->Heap->Prop):Prop where
 mem:it∈fp
 obj:∀ i h,tn i h->∀ b∈fp,∃ o,h.get? b=some o/\∀ v,o.data≠.cell v
 keep:∀ i h h',tn i h->(∀ b∈fp,∀ o,h.get? b=some o->h'.get? b=some o)->tn i h'
 item:∀ (X:Cx),X.prog=P->X.w=w->X.K=K->X.calm=true->∀ (i:Nat) (pins:List (Addr×Obj)) (s:Shared) (σ:St) (H:Hp) (E:Value->Shared->Prop),Inv X pins σ H s->(∀ b∈fp,kL X pins H b)->tn i s.heap->J.go i H ->
  wpAny (model P w) X.A (pyNext (.ref it)) (fun r s1=>∃ u,r=some u /\
   wpAny (model P w) X.A (letOwnedTupleGo tg (.ref it) u) (fun _ s2=>∃ x H',Inv X pins σ H' s2/\RelV x u/\J.yld i H x H'/\tn (i+1) s2.heap/\∀ b∈fp,H' b=none) E s1) E s
 done:∀ (X:Cx),X.prog=P->X.w=w->X.K=K->X.calm=true->∀ (i:Nat) (pins:List (Addr×Obj)) (s:Shared) (σ:St) (H:Hp) (E:Value->Shared->Prop),Inv X pins σ H s->(∀ b∈fp,kL X pins H b)->tn i s.heap->J.stop i H ->
  wpAny (model P w) X.A (pyNext (.ref it)) (fun r s1=>r=none/\Inv X pins σ H s1) E s
 self:∀ (A:Around) (i:Nat) (s:Shared) (Q:Value->Shared->Prop) (E:Value->Shared->Prop),tn i s.heap->Q (.ref it) s->wpAny (model P w) A (pyIter (.ref it)) Q E s
noncomputable abbrev TI:=St->Hp->(It->Hp->Prop)->Prop
noncomputable def Ft (X:Cx) (pins:List (Addr×Obj)) (σ:St) (tg:Expr) (R:It->Hp->Prop) (itv:Value) (s2:Shared):Prop :=
 ∃ (it:Addr) (fp:List Addr) (tn:Nat->Heap->Prop) (J:It) (H':Hp),itv=.ref it/\Inv X pins σ H' s2/\Turn X.prog X.w X.K tg J fp it tn/\tn 0 s2.heap/\(∀ b∈fp,kL X pins H' b)/\R J H'
noncomputable def PI (X:Cx) (tg iter:Expr) (wi:TI):Prop :=
 ∀ (pins:List (Addr×Obj)) (s:Shared) (σ:St) (H:Hp) (R:It->Hp->Prop),Inv X pins σ H s->wi σ H R ->
  wpAny (model X.prog X.w) X.A (eval iter X.env) (fun v s1=>wpAny (model X.prog X.w) X.A (pyIter v) (Ft X pins σ tg R) X.xe s1) X.xe s
theorem lH {M:Model}{A:Around}{E:Value->Shared->Prop}{s:Shared}{tg:Expr}{it:Addr}{u:Value}{o:Obj}{n:String}{vs:Array Value}{Q:Unit->Shared->Prop} (ho:s.heap.get? it=some o) (hc:o.cls=.type n) (hd:o.data=.fields vs)
  (hn:["enumerate","zip","dict_itemiterator","dict_reverseitemiterator","odict_iterator","itertools.zip_longest","itertools.pairwise"].contains n=false) (hQ:Q () s):wpAny M A (letOwnedTupleGo tg (.ref it) u) Q E s:=by
 unfold letOwnedTupleGo
 cases tg <;> first
  | exact wpAny_pure hQ
  | (cases u <;> first
    | exact wpAny_pure hQ
    | (refine wpAny_bind (wpAny_load ho ?_)
       rw[hc,hd];show wpAny M A (if (["enumerate","zip","dict_itemiterator","dict_reverseitemiterator","odict_iterator","itertools.zip_longest","itertools.pairwise"].contains n && vs[0]? == some (rawInt _))=true then _ else _) Q E s;rw[if_neg (by intro h;rw[hn,Bool.false_and] at h;cases h)];exact wpAny_pure hQ))
noncomputable def Dl (K:PySem.W.Frag) (a:Addr):It :=
 ⟨fun i H=>∃ xs x,aO K H a xs/\xs[i]?=some x,fun i H x H'=>H'=H/\∀ xs,aO K H a xs->xs[i]?=some x,fun i H=>∃ xs,aO K H a xs/\xs.length<=i⟩
noncomputable def EM (K:PySem.W.Frag) (a:Addr):It :=
 ⟨fun i H=>∃ xs x,cI K H a xs/\xs[i]?=some x,fun i H x H'=>H'=H/\∀ xs,cI K H a xs->xs[i]?=some x,fun i H=>∃ xs,cI K H a xs/\xs.length<=i⟩
noncomputable def DP (lo:Int) (n:Nat):It:=⟨fun i _=>i<n,fun i H x H'=>H'=H/\x=.int (lo+i),fun i _=>n<=i⟩
theorem ug {P:Program}{w:World}{K:PySem.W.Frag}{tg:Expr} (a it:Addr):Turn P w K tg (Dl K a) [it] it (fun i h=>h.IsListIter it a i) where
 mem:=by simp
 obj:=fun i h st b hb=>by
  have e:b=it:=by simpa using hb
  subst e;obtain⟨o,e,c,d⟩:=st;exact⟨o,e,fun v z=>by rw[d] at z;cases z⟩
 keep:=fun i h h' st k=>st.at fun o e=>k it (by simp) o e
 item:=by
  intro X hP hw hK hc i pins s σ H E I hf st hg;subst hP hw hK;obtain⟨xs,x,hq,hx⟩:=hg;obtain⟨its,rv,p,hz⟩:=I.list hq;obtain⟨u,hu,ru⟩:=rv.get hx;obtain⟨f0,f1,f2,f3,f4,f5⟩:=hf it (by simp);refine wpAny_pyNext_list_item st p.isList (x:=u) (by simpa using hu) fun h' st' sb=>?_;have I1:Inv X pins σ H { s with heap:=h' }:=I.turned (t':=s.toks) (fun b o hb e=>(sb.2 b hb).trans e) f0 f1 f3 f4 f5;obtain⟨o,e,c,d⟩:=id st';exact⟨u,rfl,lH (s:={ s with heap:=h' }) e c d (by decide) ⟨x,H,I1,ru,⟨rfl,fun ys hy=>by rw[I.oQ hy hq];exact hx⟩,st',fun b hb=>(hf b hb).1⟩⟩
 done:=by
  intro X hP hw hK hc i pins s σ H E I hf st hg;subst hP hw hK;obtain⟨xs,hq,hx⟩:=hg;obtain⟨its,rv,p,hz⟩:=I.list hq;obtain⟨f0,f1,f2,f3,f4,f5⟩:=hf it (by simp);have hl:=rv.length;exact wpAny_pyNext_list_end (I.ok.hd hc) st p.isList (by simp;omega) fun h' eb=>⟨rfl,I.turned (t':=s.toks) (fun b o hb e=>eb b o hb e) f0 f1 f3 f4 f5⟩
 self:=fun _ _ _ _ _ st h=>wpAny_pyIter_listiter st h
theorem qi {P:Program}{w:World}{K:PySem.W.Frag}{tg:Expr} (a it:Addr):Turn P w K tg (EM K a) [it] it (fun i h=>h.IsTupleIter it a i) where
 mem:=by simp
 obj:=fun i h st b hb=>by
  have e:b=it:=by simpa using hb
  subst e;obtain⟨o,e,c,d⟩:=st;exact⟨o,e,fun v z=>by rw[d] at z;cases z⟩
 keep:=fun i h h' st k=>st.at fun o e=>k it (by simp) o e
 item:=by
  intro X hP hw hK hc i pins s σ H E I hf st hg;subst hP hw hK;obtain⟨xs,x,hq,hx⟩:=hg;obtain⟨its,rv,p,hz⟩:=I.tuple hq;obtain⟨u,hu,ru⟩:=rv.get hx;obtain⟨f0,f1,f2,f3,f4,f5⟩:=hf it (by simp);refine wpAny_pyNext_tuple_item st (show s.heap.IsTuple a its.toArray from p) (x:=u) (by simpa using hu) fun h' st' sb=>?_;have I1:Inv X pins σ H { s with heap:=h' }:=I.turned (t':=s.toks) (fun b o hb e=>(sb.2 b hb).trans e) f0 f1 f3 f4 f5;obtain⟨o,e,c,d⟩:=id st';exact⟨u,rfl,lH (s:={ s with heap:=h' }) e c d (by decide) ⟨x,H,I1,ru,⟨rfl,fun ys hy=>by rw[I.tS hy hq];exact hx⟩,st',fun b hb=>(hf b hb).1⟩⟩
 done:=by
  intro X hP hw hK hc i pins s σ H E I hf st hg;subst hP hw hK;obtain⟨xs,hq,hx⟩:=hg;obtain⟨its,rv,p,hz⟩:=I.tuple hq;obtain⟨f0,f1,f2,f3,f4,f5⟩:=hf it (by simp);have hl:=rv.length;exact wpAny_pyNext_tuple_end (I.ok.hd hc) st (show s.heap.IsTuple a its.toArray from p) (by simp;omega) fun h' eb=>⟨rfl,I.turned (t':=s.toks) (fun b o hb e=>eb b o hb e) f0 f1 f3 f4 f5⟩
 self:=fun _ _ _ _ _ st h=>wpAny_pyIter_tupleiter st h
theorem qG {P:Program}{w:World}{K:PySem.W.Frag}{tg:Expr} (it:Addr) (lo:Int) (n:Nat):Turn P w K tg (DP lo n) [it] it (fun i h=>IsRangeIter h it (lo+(i:Nat) * 1) ((n:Int) - (i:Nat)) 1) where
 mem:=by simp
 obj:=fun i h st b hb=>by
  have e:b=it:=by simpa using hb
  subst e;exact⟨_,st,fun v z=>by
   have z':Data.fields _=Data.cell v:=z
   cases z'⟩
 keep:=fun i h h' st k=>k it (by simp) _ st
 item:=by
  intro X hP hw hK hc i pins s σ H E I hf st hg;subst hP hw hK;obtain⟨f0,f1,f2,f3,f4,f5⟩:=hf it (by simp);have W:=Walks.range (prog:=X.prog) (w:=X.w) (I.ok.hd hc) it lo 1 n;refine W.item i s _ _ hg st fun v h' tk hv st' kk=>?_;obtain⟨t,rfl⟩:=hv;have I1:Inv X pins σ H { s with heap:=h',toks:=tk }:=I.turned (fun b o hb e=>kk b o (by simpa using hb) e) f0 f1 f3 f4 f5;refine⟨_,rfl,lH (s:={ s with heap:=h',toks:=tk }) (n:="range_iterator") st' rfl rfl (by decide) ⟨.int (lo+i),H,I1,⟨t,?_⟩,⟨rfl,rfl⟩,st',fun b hb=>(hf b hb).1⟩⟩;rw[Int.mul_one]
 done:=by
  intro X hP hw hK hc i pins s σ H E I hf st hg;subst hP hw hK;obtain⟨f0,f1,f2,f3,f4,f5⟩:=hf it (by simp);exact wpAny_pyNext_range_end (I.ok.hd hc) st (by have:n<=i:=hg;omega) fun h' eb=>⟨rfl,I.turned (t':=s.toks) (fun b o hb e=>eb b o hb e) f0 f1 f3 f4 f5⟩
 self:=fun _ _ _ _ _ st h=>wpAny_pyIter_rangeiter st h
end L2
namespace L2
open PySem PySem.Spec PyProof.Rows
section
variable {X:Cx}{tg:Expr}
noncomputable def sk (K:PySem.W.Frag) (tl:TE):TI:=fun σ H R=>tl σ H fun x H1=>∃ a,x=.ref a/\(∃ xs,aO K H1 a xs)/\R (Dl K a) H1
noncomputable def AX (K:PySem.W.Frag) (tl:TE):TI:=fun σ H R=>tl σ H fun x H1=>∃ a,x=.ref a/\(∃ xs,cI K H1 a xs)/\R (EM K a) H1
theorem xp {l:Expr}{tl:TE} (hl:PE X l tl):PI X tg l (sk X.K tl):=by
 intro pins s σ H R I h;refine bC (hl pins s σ H _ I h) fun v s1 ⟨x,H1,I1,r1,q1⟩=>?_;obtain⟨a,e,⟨xs,hq⟩,q⟩:=q1;subst e
 cases r1;obtain⟨its,rv,p,hz⟩:=I1.list hq;refine wpAny_pyIter_list p.isList ?_;refine⟨s1.heap.objs.size,[s1.heap.objs.size],_,_,H1,rfl,I1.kept (t':=s1.toks) fun b o e=>Heap.get?_push_of_some _ e,ug a _,⟨_,Heap.get?_push_size _ rfl,rfl,rfl⟩,fun b hb=>?_,q⟩;have e:b=s1.heap.objs.size:=by simpa using hb
 subst e;exact I1.qV (Nat.le_refl _) (I1.hok.fresh (Nat.le_refl _))
theorem zJ {l:Expr}{tl:TE} (hl:PE X l tl):PI X tg l (AX X.K tl):=by
 intro pins s σ H R I h;refine bC (hl pins s σ H _ I h) fun v s1 ⟨x,H1,I1,r1,q1⟩=>?_;obtain⟨a,e,⟨xs,hq⟩,q⟩:=q1;subst e
 cases r1;obtain⟨its,rv,p,hz⟩:=I1.tuple hq;refine wpAny_pyIter_tuple (show s1.heap.IsTuple a its.toArray from p) ?_;refine⟨s1.heap.objs.size,[s1.heap.objs.size],_,_,H1,rfl,I1.kept (t':=s1.toks) fun b o e=>Heap.get?_push_of_some _ e,qi a _,⟨_,Heap.get?_push_size _ rfl,rfl,rfl⟩,fun b hb=>?_,q⟩;have e:b=s1.heap.objs.size:=by simpa using hb
 subst e;exact I1.qV (Nat.le_refl _) (I1.hok.fresh (Nat.le_refl _))
theorem wu {pins:List (Addr×Obj)}{σ:St}{H:Hp}{s:Shared}{R:It->Hp->Prop}{E:Value->Shared->Prop}{lo hi:Int}{t u v:Tok}{tk:Nat} (I:Inv X pins σ H s) (h1:-(2 ^ 62)<=lo) (h2:lo<2 ^ 62) (h3:-(2 ^ 62)<=hi) (h4:hi<2 ^ 62)
  (q:R (DP lo (hi - lo).toNat) H):wpAny (model X.prog X.w) X.A (pyIter (.ref s.heap.objs.size)) (Ft X pins σ tg R) E { s with heap:=s.heap.push { cls:=.type "range",data:=.fields #[.int lo t,.int hi u,.int 1 v] },toks:=tk }:=by
 refine wpAny_pyIter_range (IsRange.new ..) (small_one h1 h2 h3 h4) ?_;have I1:Inv X pins σ H { s with heap:=s.heap.push { cls:=.type "range",data:=.fields #[.int lo t,.int hi u,.int 1 v] },toks:=tk }:=I.kept fun b o e=>Heap.get?_push_of_some _ e;refine⟨(s.heap.push { cls:=.type "range",data:=.fields #[.int lo t,.int hi u,.int 1 v] }).objs.size,[(s.heap.push { cls:=.type "range",data:=.fields #[.int lo t,.int hi u,.int 1 v] }).objs.size],_,_,H,rfl,
  I1.kept (t':=tk) fun b o e=>Heap.get?_push_of_some _ e,qG _ lo (hi - lo).toNat,?_,fun b hb=>?_,q⟩
 ·have e1:lo+((0:Nat):Int) * 1=lo:=by simp
  have e2:(((hi - lo).toNat:Nat):Int) - ((0:Nat):Int)=Builtin.Range.rangeSize lo hi 1:=by rw[rangeSize_one];split <;> omega
  show IsRangeIter _ _ (lo+((0:Nat):Int) * 1) ((((hi - lo).toNat:Nat):Int) - ((0:Nat):Int)) 1;rw[e1,e2];exact Heap.get?_push_size _ rfl
 ·have e:b=(s.heap.push { cls:=.type "range",data:=.fields #[.int lo t,.int hi u,.int 1 v] }).objs.size:=by simpa using hb
  subst e;exact I1.qV (Nat.le_refl _) (I1.hok.fresh (Nat.le_refl _))
noncomputable def wt (ta:TA):TI:=fun σ H R=>ta σ H fun vs H1=>∃ j:Int,vs=[.int j]/\-(2 ^ 62)<=j/\j<2 ^ 62/\R (DP 0 j.toNat) H1
theorem iF {a:Expr}{ta:TA}{p pos:Pos} (hg:Gl X "range") (hm:X.mg "range"=none) (ha:PA X [a] ta) (hs:starEach [a] X.env=[(false,eval a X.env)]:=by rfl):PI X tg (.Call (.Name "range" p) [a] [] pos) (wt ta):=by
 intro pins s σ H R I h;refine Call_ (gz I hg hm boot_range (PyProof.Rows.callWith_type1 (bC (ha pos pins s σ H _ I h) fun us s1 ⟨vs,H1,I1,r1,q1⟩=>?_) hs rfl));obtain⟨j,e,q1,q2,q⟩:=q1;subst e
 cases r1 with
 | cons r rr =>
  cases rr;obtain⟨t,rfl⟩:=r;exact call_range_1 (wu I1 (by omega) (by omega) q1 q2 (by simpa using q))
noncomputable def DY (wi:TI) (g:TG) (tb:TS):TS:=fun D σ H=>wi σ H fun J H1=>∃ W:Nat->Nat->St->Hp->Prop,(∃ m,W 0 m σ H1)/\∀ i m σ H,W i m σ H ->
 (J.stop i H/\D.nx σ H)\/(J.go i H/\∃ N:St->Hp->Prop,(∀ σ' H',N σ' H'->∃ m',m'<m/\W (i+1) m' σ' H')/\∀ x H',J.yld i H x H'->g x σ H' fun σ2 H2=>tb { D with nx:=N,ct:=N,bk:=D.nx } σ2 H2)
noncomputable def dQ (fp:List Addr) (h:Heap):List (Addr×Obj):=fp.filterMap fun b=>(h.get? b).map fun o=>(b,o)
theorem df {fp:List Addr}{h:Heap}{b:Addr}{o:Obj} (hb:b∈fp) (e:h.get? b=some o):(b,o)∈dQ fp h:=List.mem_filterMap.mpr ⟨b,hb,by rw[e];rfl⟩
theorem lK {fp:List Addr}{h:Heap}{p:Addr×Obj} (hp:p∈dQ fp h):p.1∈fp/\h.get? p.1=some p.2:=by
 obtain⟨b,hb,e⟩:=List.mem_filterMap.mp hp
 cases q:h.get? b with
 | none=>rw[q] at e;cases e
 | some o =>
  rw[q] at e;have e':(b,o)=p:=Option.some.inj e;subst e';exact⟨hb,q⟩
theorem Inv.pinned {pins:List (Addr×Obj)}{σ:St}{H:Hp}{s:Shared}{fp:List Addr} (I:Inv X pins σ H s) (hf:∀ b∈fp,kL X pins H b) (ho:∀ b∈fp,∃ o,s.heap.get? b=some o/\∀ v,o.data≠.cell v):Inv X (pins++dQ fp s.heap) σ H s :=
 I.m_ fun p hp=>(List.mem_append.mp hp).elim (fun z=>I.pin p (List.mem_append_right _ z)) fun z=>by
  obtain⟨hb,e⟩:=lK z;obtain⟨f0,f1,f2,_⟩:=hf p.1 hb;obtain⟨o,e',d⟩:=ho p.1 hb;rw[e] at e';cases e';exact⟨e,f0,f1,f2,d⟩
theorem Inv.kh {pins pl:List (Addr×Obj)}{σ:St}{H:Hp}{s:Shared} (I:Inv X (pins++pl) σ H s):Inv X pins σ H s:=I.m_ fun p hp=>I.pin p (List.mem_append_right _ (List.mem_append_left _ hp))
theorem dt {iter:Expr}{body:List Stmt}{wi:TI}{g:TG}{tb:TS}{pos:Pos} (hp:PassesOwn (model X.prog X.w) X.A X.env X.xe) (hc:X.calm=true) (hi:PI X tg iter wi) (hg:PG X tg g) (hb:oC X body tb)
  (hs:∀ x,foldedSetIterable iter X.env x=pure x:=by intro _;rfl):PS X (.For tg iter body [] pos) (DY wi g tb):=by
 intro pins s σ H D I h;refine wpAny_For (bC (hi pins s σ H _ I h) fun v s1 h1=>bC h1 fun itv s2 h2=>?_) hs;obtain⟨it,fp,tn,J,H2,e,I2,T,st2,f2,W,⟨m0,w0⟩,turn⟩:=h2;subst e;have stat:∀ {H':Hp},(∀ b∈fp,H' b=none)->∀ b∈fp,kL X pins H' b:=fun hn b hb=>⟨hn b hb,(f2 b hb).2⟩;refine codeAny_forLoop_any (fun n s'=>∃ i σ' H',Inv X pins σ' H' s'/\tn i s'.heap/\(∀ b∈fp,H' b=none)/\W i n σ' H') ?_ m0 ⟨0,σ,H2,I2,st2,fun b hb=>(f2 b hb).1,w0⟩;rintro n s3 ⟨i,σ3,H3,I3,st3,fr3,w3⟩;rcases turn i n σ3 H3 w3 with ⟨stop,qn⟩|⟨go,N,hN,step⟩
 ·refine wpAny_passesOwn hp (bC (T.done X rfl rfl rfl hc i pins s3 σ3 H3 X.xe I3 (stat fr3) st3 stop) fun r s4 ⟨hr,I4⟩=>?_)
  subst hr;exact wpAny_execs_nil ⟨σ3,H3,I4,qn⟩
 ·refine wpAny_passesOwn hp (bC (T.item X rfl rfl rfl hc i pins s3 σ3 H3 X.xe I3 (stat fr3) st3 go) fun r s4 ⟨u,hr,h4⟩=>?_)
  subst hr;refine wpAny_passesOwn hp (bC h4 fun _ s5 ⟨x,H5,I5,r5,y5,st5,fr5⟩=>?_);have I5':=I5.pinned (stat fr5) (T.obj _ _ st5);refine wpAny_passesOwn hp (bC (hg _ s5 σ3 H5 x u _ I5' r5 (step x H5 y5)) fun _ s6 ⟨σ6,H6,I6,q6⟩=>?_);refine wpAny_passesOwn hp (bC (hb _ s6 σ6 H6 _ I6 q6) fun f s7 q7=>?_);have again:∀ {σ7:St}{H7:Hp},Inv X (pins++dQ fp s5.heap) σ7 H7 s7->N σ7 H7->∃ m,m<n/\∃ i σ' H',Inv X pins σ' H' s7/\tn i s7.heap/\(∀ b∈fp,H' b=none)/\W i m σ' H':=fun {σ7 H7} I7 n7=>by
   obtain⟨m',hm,w7⟩:=hN σ7 H7 n7;refine⟨m',hm,i+1,σ7,H7,I7.kh,T.keep _ _ _ st5 fun b hb o e=>(I7.pin (b,o) (List.mem_append_right _ (List.mem_append_right _ (df hb e)))).1,fun b hb=>?_,w7⟩;obtain⟨o,e,d⟩:=T.obj _ _ st5 b hb;exact (I7.pin (b,o) (List.mem_append_right _ (List.mem_append_right _ (df hb e)))).2.1
  cases f with
  | next=>obtain⟨σ7,H7,I7,n7⟩:=q7;exact again I7 n7
  | cont=>obtain⟨σ7,H7,I7,n7⟩:=q7;exact again I7 n7
  | brk=>obtain⟨σ7,H7,I7,q7⟩:=q7;exact⟨σ7,H7,I7.kh,q7⟩
  | ret v=>obtain⟨x7,σ7,H7,I7,r7,q7⟩:=q7;exact⟨x7,σ7,H7,I7.kh,r7,q7⟩
end
end L2
namespace L2
open PySem PySem.Spec PyProof.Rows
noncomputable abbrev R2:=V->V->Hp->VK->Prop
noncomputable def gu (X:Cx) (f:Value->Value->Sem Value) (r:R2):Prop :=
 ∀ (pins:List (Addr×Obj)) (s:Shared) (σ:St) (H:Hp) (x y:V) (v u:Value) (Q:VK),Inv X pins σ H s->RelV x v->RelV y u->r x y H Q ->
  wpAny (model X.prog X.w) X.A (f v u) (EP X pins σ Q) X.xe s
noncomputable def Fi (X:Cx) (f:Value->Sem Value) (r:V->Hp->VK->Prop):Prop :=
 ∀ (pins:List (Addr×Obj)) (s:Shared) (σ:St) (H:Hp) (x:V) (v:Value) (Q:VK),Inv X pins σ H s->RelV x v->r x H Q ->
  wpAny (model X.prog X.w) X.A (f v) (EP X pins σ Q) X.xe s
noncomputable def ck (X:Cx) (f:Value) (r:List V->Hp->VK->Prop):Prop :=
 ∀ (pins:List (Addr×Obj)) (s:Shared) (σ:St) (H:Hp) (xs:List V) (us:List Value) (Q:VK),Inv X pins σ H s->Vals xs us->r xs H Q ->
  wpAny (model X.prog X.w) X.A (call f us) (EP X pins σ Q) X.xe s
noncomputable def Co (r:R2) (ta tb:TE):TE:=fun σ H Q=>ta σ H fun x H1=>tb σ H1 fun y H2=>r x y H2 Q
noncomputable def EY (r:V->Hp->VK->Prop) (ta:TE):TE:=fun σ H Q=>ta σ H fun x H1=>r x H1 Q
noncomputable def rI (C:Int->Int->Prop) (g:Int->Int->V):R2:=fun x y H Q=>∃ i j,x=.int i/\y=.int j/\C i j/\Q (g i j) H
noncomputable def yc (g:Int->Int->V):R2:=fun x y H Q=>∃ i j,x=.int i/\y=.int j/\Q (g i j) H
noncomputable def rU (g:Int->V):V->Hp->VK->Prop:=fun x H Q=>∃ i,x=.int i/\Q (g i) H
section
variable {X:Cx}{a b c:Expr}{ta tb tc:TE}{pos:Pos}
theorem zC (ha:PE X a ta) (hb:PE X b tb) {pins:List (Addr×Obj)}{s:Shared}{σ:St}{H:Hp}{R:V->V->Hp->Prop} (I:Inv X pins σ H s)
  (h:ta σ H fun x H1=>tb σ H1 fun y H2=>R x y H2) {Q:Value->Shared->Prop}{f:Value->Value->Sem Value}
  (hf:∀ v u s2 x y H2,Inv X pins σ H2 s2->RelV x v->RelV y u->R x y H2->wpAny (model X.prog X.w) X.A (f v u) Q X.xe s2) :
  wpAny (model X.prog X.w) X.A (eval a X.env) (fun v s₁=>wpAny (model X.prog X.w) X.A (eval b X.env) (fun u s₂=>wpAny (model X.prog X.w) X.A (f v u) Q X.xe s₂) X.xe s₁) X.xe s:=by
 refine bC (ha pins s σ H _ I h) fun v s1 ⟨x,H1,I1,r1,q1⟩=>?_;refine bC (hb pins s1 σ H1 _ I1 q1) fun u s2 ⟨y,H2,I2,r2,q2⟩=>?_;exact hf v u s2 x y H2 I2 r1 r2 q2
theorem aA {op:Operator}{r:R2} (ho:gu X (binaryOp op) r) (ha:PE X a ta) (hb:PE X b tb):PE X (.BinOp a op b pos) (Co r ta tb):=by
 intro pins s σ H Q I h;exact wpAny_BinOp (zC ha hb I h fun v u s2 x y H2 I2 rx ry q=>ho pins s2 σ H2 x y v u Q I2 rx ry q)
theorem dr {op:UnaryOp}{r:V->Hp->VK->Prop} (ho:Fi X (unaryOp op) r) (ha:PE X a ta):PE X (.UnaryOp op a pos) (EY r ta):=by
 intro pins s σ H Q I h;exact UnaryOp_ (bC (ha pins s σ H _ I h) fun v s1 ⟨x,H1,I1,r1,q1⟩=>ho pins s1 σ H1 x v Q I1 r1 q1)
theorem EH {f:Value->Value->Sem Value}{C:Int->Int->Prop}{g:Int->Int->Int}
  (rule:∀ (i j:Int) (t u:Tok) (s:Shared) (Q:Value->Shared->Prop) (E:Value->Shared->Prop),C i j->Q (.int (g i j) s.toks) { s with toks:=s.toks+1 }->wpAny (model X.prog X.w) X.A (f (.int i t) (.int j u)) Q E s) :
  gu X f (rI C fun i j=>.int (g i j)):=by
 intro pins s σ H x y v u Q I rx ry h;obtain⟨i,j,rfl,rfl,hc,q⟩:=h;obtain⟨t,rfl⟩:=rx;obtain⟨t',rfl⟩:=ry;exact rule i j t t' s _ _ hc ⟨.int (g i j),H,I.tok _,⟨_,rfl⟩,q⟩
theorem EA {f:Value->Value->Sem Value}{g:Int->Int->Int}
  (rule:∀ (i j:Int) (t u:Tok) (s:Shared) (Q:Value->Shared->Prop) (E:Value->Shared->Prop),Q (.int (g i j) s.toks) { s with toks:=s.toks+1 }->wpAny (model X.prog X.w) X.A (f (.int i t) (.int j u)) Q E s) :
  gu X f (yc fun i j=>.int (g i j)):=by
 intro pins s σ H x y v u Q I rx ry h;obtain⟨i,j,rfl,rfl,q⟩:=h;obtain⟨t,rfl⟩:=rx;obtain⟨t',rfl⟩:=ry;exact rule i j t t' s _ _ ⟨.int (g i j),H,I.tok _,⟨_,rfl⟩,q⟩
theorem zy {f:Value->Value->Sem Value}{g:Int->Int->Bool}
  (rule:∀ (i j:Int) (t u:Tok) (s:Shared) (Q:Value->Shared->Prop) (E:Value->Shared->Prop),Q (.bool (g i j)) s->wpAny (model X.prog X.w) X.A (f (.int i t) (.int j u)) Q E s) :
  gu X f (yc fun i j=>.bl (g i j)):=by
 intro pins s σ H x y v u Q I rx ry h;obtain⟨i,j,rfl,rfl,q⟩:=h;obtain⟨t,rfl⟩:=rx;obtain⟨t',rfl⟩:=ry;exact rule i j t t' s _ _ ⟨.bl (g i j),H,I,rfl,q⟩
noncomputable def DH (i j:Int):Prop:=0<j/\j<1073741824
noncomputable def Ef (i j:Int):Prop:=j≠0/\j.natAbs<1073741824
noncomputable def DW (i j:Int):Prop:=0<=j/\j<=1000000/\i.natAbs<2 ^ 64
noncomputable def xr (i j:Int):Prop:=(-(2 ^ 64)<i/\i<2 ^ 64)\/(-(2 ^ 64)<j/\j<2 ^ 64)
theorem xr.ok {i j:Int} (h:xr i j):IntMulOk i j:=by
 rcases h with ⟨h1,h2⟩|⟨h1,h2⟩
 ·exact .of_left (intBits_le_64 h1 h2)
 ·exact .of_right (intBits_le_64 h1 h2)
theorem dO:gu X (binaryOp .Add) (yc fun i j=>.int (i+j)):=EA fun _ _ _ _ _ _ _ q=>add_int q
theorem fc:gu X (binaryOp .Sub) (yc fun i j=>.int (i - j)):=EA fun _ _ _ _ _ _ _ q=>sub_int q
theorem mW:gu X (binaryOp .Mult) (rI xr fun i j=>.int (i * j)):=EH fun _ _ _ _ _ _ _ hc q=>mul_int q hc.ok
theorem bZ:gu X (binaryOp .FloorDiv) (rI DH fun i j=>.int (i / j)):=EH fun i j _ _ _ _ _ hc q=>by
 have h1:(0:Int)<j:=hc.1;have h2:j<1073741824:=hc.2;exact floordiv_int (by omega) (by rw[Int.fdiv_eq_ediv_of_nonneg i (by omega)];exact q) (.inl (PyProof.noPylong_small (by omega)))
theorem bp:gu X (binaryOp .Mod) (rI (fun _ j=>0<j) fun i j=>.int (i % j)):=EH fun i j _ _ _ _ _ hc q=>by
 have h1:(0:Int)<j:=hc;exact mod_int' (by omega) (by rw[Int.fmod_eq_emod_of_nonneg i (by omega)];exact q)
theorem qz:gu X (binaryOp .Pow) (rI DW fun i j=>.int (i ^ j.toNat)):=EH fun _ _ _ _ _ _ _ hc q=>pow_int_small hc.1 hc.2.1 hc.2.2 q
theorem GQ {f:Value->Sem Value}{g:Int->Int}
  (rule:∀ (i:Int) (t:Tok) (s:Shared) (Q:Value->Shared->Prop) (E:Value->Shared->Prop),Q (.int (g i) s.toks) { s with toks:=s.toks+1 }->wpAny (model X.prog X.w) X.A (f (.int i t)) Q E s) :
  Fi X f (rU fun i=>.int (g i)):=by
 intro pins s σ H x v Q I rx h;obtain⟨i,rfl,q⟩:=h;obtain⟨t,rfl⟩:=rx;exact rule i t s _ _ ⟨.int (g i),H,I.tok _,⟨_,rfl⟩,q⟩
theorem cF:Fi X (unaryOp .USub) (rU fun i=>.int (-i)):=GQ fun _ _ _ _ _ q=>neg_int q
end
noncomputable def A8:V->V->Bool
 | .non,.non=>true|.non,.int _=>true|.int _,.non=>true|.non,.bl _=>true|.bl _,.non=>true|.non,.str _=>true|.str _,.non=>true
 | .int _,.int _=>true|.bl _,.bl _=>true|.str _,.str _=>true|.byt _,.byt _=>true
 | .int _,.str _=>true|.str _,.int _=>true|.bl _,.str _=>true|.str _,.bl _=>true
 | _,_=>false
noncomputable def Gw:R2:=fun x y H Q=>A8 x y=true/\Q (.bl (decide (x=y))) H
noncomputable def Fg:R2:=fun x y H Q=>A8 x y=true/\Q (.bl (!decide (x=y))) H
theorem sI {i j:Int}:decide (V.int i=V.int j)=(i == j):=by
 rw[Bool.eq_iff_iff];simp
theorem wZ {i j:Bool}:decide (V.bl i=V.bl j)=(i == j):=by
 rw[Bool.eq_iff_iff];simp
theorem rQ {i j:Str}:decide (V.str i=V.str j)=(i == j):=by
 rw[Bool.eq_iff_iff];simp
theorem sM {i j:Array UInt8}:decide (V.byt i=V.byt j)=(i.toList == j.toList):=by
 rw[Bool.eq_iff_iff]
 cases i
 cases j;simp
section
variable {X:Cx}{a b c:Expr}{ta tb tc:TE}{pos:Pos}
theorem aW {pins:List (Addr×Obj)}{σ:St}{H:Hp}{s:Shared}{Q:VK}{k k':Bool} (I:Inv X pins σ H s) (q:Q (.bl k) H) (e:k=k'):EP X pins σ Q (.bool k') s:=by
 subst e;exact⟨.bl k,H,I,rfl,q⟩
theorem dj:gu X (compareOp .Eq) Gw:=by
 intro pins s σ H x y v u Q I rx ry h;obtain⟨hs,q⟩:=h
 cases x with
 | non =>
  cases rx
  cases y with
  | non=>cases ry;exact PySem.EqNone.eq_none_none (aW I q (by simp))
  | bl j=>cases ry;exact PySem.EqNone.eq_none_bool (aW I q (by simp))
  | int j=>obtain⟨t',rfl⟩:=ry;exact PySem.EqNone.eq_none_int (aW I q (by simp))
  | str j=>obtain⟨t',rfl⟩:=ry;exact PySem.EqNone.eq_none_str (aW I q (by simp))
  | _=>exact absurd (show false=true from hs) Bool.false_ne_true
 | bl i =>
  cases rx
  cases y with
  | non=>cases ry;exact PySem.EqNone.eq_bool_none (aW I q (by simp))
  | bl j=>cases ry;exact eq_bool (aW I q wZ)
  | str j=>obtain⟨t',rfl⟩:=ry;exact PySem.EqMixed.eq_bool_str (aW I q (by simp))
  | _=>exact absurd (show false=true from hs) Bool.false_ne_true
 | int i =>
  obtain⟨t,rfl⟩:=rx
  cases y with
  | non=>cases ry;exact PySem.EqNone.eq_int_none (aW I q (by simp))
  | int j=>obtain⟨t',rfl⟩:=ry;exact eq_int (aW I q sI)
  | str j=>obtain⟨t',rfl⟩:=ry;exact PySem.EqMixed.eq_int_str (aW I q (by simp))
  | _=>exact absurd (show false=true from hs) Bool.false_ne_true
 | str i =>
  obtain⟨t,rfl⟩:=rx
  cases y with
  | non=>cases ry;exact PySem.EqNone.eq_str_none (aW I q (by simp))
  | bl j=>cases ry;exact PySem.EqMixed.eq_str_bool (aW I q (by simp))
  | int j=>obtain⟨t',rfl⟩:=ry;exact PySem.EqMixed.eq_str_int (aW I q (by simp))
  | str j=>obtain⟨t',rfl⟩:=ry;exact eq_str (aW I q rQ)
  | _=>exact absurd (show false=true from hs) Bool.false_ne_true
 | byt i =>
  obtain⟨t,rfl⟩:=rx
  cases y with
  | byt j=>obtain⟨t',rfl⟩:=ry;exact PySem.W.eq_bytes (aW I q sM)
  | _=>exact absurd (show false=true from hs) Bool.false_ne_true
 | _=>cases y <;> exact absurd (show false=true from hs) Bool.false_ne_true
theorem dS:gu X (compareOp .NotEq) Fg:=by
 intro pins s σ H x y v u Q I rx ry h;obtain⟨hs,q⟩:=h
 cases x with
 | non =>
  cases rx
  cases y with
  | non=>cases ry;exact PySem.EqNone.ne_none_none (aW I q (by simp))
  | bl j=>cases ry;exact PySem.EqNone.ne_none_bool (aW I q (by simp))
  | int j=>obtain⟨t',rfl⟩:=ry;exact PySem.EqNone.ne_none_int (aW I q (by simp))
  | str j=>obtain⟨t',rfl⟩:=ry;exact PySem.EqNone.ne_none_str (aW I q (by simp))
  | _=>exact absurd (show false=true from hs) Bool.false_ne_true
 | bl i =>
  cases rx
  cases y with
  | non=>cases ry;exact PySem.EqNone.ne_bool_none (aW I q (by simp))
  | bl j=>cases ry;exact ne_bool (aW I q (congrArg not wZ))
  | str j=>obtain⟨t',rfl⟩:=ry;exact PySem.EqMixed.ne_bool_str (aW I q (by simp))
  | _=>exact absurd (show false=true from hs) Bool.false_ne_true
 | int i =>
  obtain⟨t,rfl⟩:=rx
  cases y with
  | non=>cases ry;exact PySem.EqNone.ne_int_none (aW I q (by simp))
  | int j=>obtain⟨t',rfl⟩:=ry;exact ne_int (aW I q (congrArg not sI))
  | str j=>obtain⟨t',rfl⟩:=ry;exact PySem.EqMixed.ne_int_str (aW I q (by simp))
  | _=>exact absurd (show false=true from hs) Bool.false_ne_true
 | str i =>
  obtain⟨t,rfl⟩:=rx
  cases y with
  | non=>cases ry;exact PySem.EqNone.ne_str_none (aW I q (by simp))
  | bl j=>cases ry;exact PySem.EqMixed.ne_str_bool (aW I q (by simp))
  | int j=>obtain⟨t',rfl⟩:=ry;exact PySem.EqMixed.ne_str_int (aW I q (by simp))
  | str j=>obtain⟨t',rfl⟩:=ry;exact ne_str (aW I q (congrArg not rQ))
  | _=>exact absurd (show false=true from hs) Bool.false_ne_true
 | byt i =>
  obtain⟨t,rfl⟩:=rx
  cases y with
  | byt j=>obtain⟨t',rfl⟩:=ry;exact PySem.W.ne_bytes (aW I q (congrArg not sM))
  | _=>exact absurd (show false=true from hs) Bool.false_ne_true
 | _=>cases y <;> exact absurd (show false=true from hs) Bool.false_ne_true
theorem oS:gu X (compareOp .Lt) (yc fun i j=>.bl (decide (i<j))):=zy fun _ _ _ _ _ _ _ q=>lt_int q
theorem vK:gu X (compareOp .Gt) (yc fun i j=>.bl (decide (j<i))):=zy fun _ _ _ _ _ _ _ q=>gt_int q
theorem za:gu X (compareOp .GtE) (yc fun i j=>.bl (decide (j<=i))):=zy fun _ _ _ _ _ _ _ q=>ge_int q
theorem aK (b:Expr) {op:CmpOp} (h:op≠.In:=by decide) (h2:op≠.NotIn:=by decide):behindInMarks op b=false:=by
 have e1:(op == CmpOp.In)=false:=by cases op <;> first|rfl|exact absurd rfl h
 have e2:(op == CmpOp.NotIn)=false:=by cases op <;> first|rfl|exact absurd rfl h2
 cases b <;> simp[behindInMarks,e1,e2]
theorem g_ {op:CmpOp}{r:R2} (ho:gu X (compareOp op) r) (ha:PE X a ta) (hb:PE X b tb) (hm:behindInMarks op b=false):PE X (.Compare a [op] [b] pos) (Co r ta tb):=by
 intro pins s σ H Q I h;exact wpAny_Compare1 (zC ha hb I h fun v u s2 x y H2 I2 rx ry q=>ho pins s2 σ H2 x y v u Q I2 rx ry q) hm
noncomputable def wI (t:TE):TT:=fun σ H Q=>t σ H fun x H'=>∃ k,x=.bl k/\Q k H'
theorem aF {op:CmpOp}{r:R2} (ho:gu X (compareOp op) r) (ha:PE X a ta) (hb:PE X b tb) (hm:behindInMarks op b=false):PT X (.Compare a [op] [b] pos) (wI (Co r ta tb)):=by
 intro pins s σ H Q I h;refine wpAny_isTrue_Compare1 (bC (ha pins s σ H _ I h) fun v s1 ⟨x,H1,I1,r1,q1⟩=>bC (hb pins s1 σ H1 _ I1 q1) fun u s2 ⟨y,H2,I2,r2,q2⟩ =>
  bC (ho pins s2 σ H2 x y v u _ I2 r1 r2 q2) fun c s3 ⟨z,H3,I3,r3,k,e,q3⟩=>?_) hm
 subst e
 cases r3;exact wpAny_truthy_bool ⟨H3,I3,q3⟩
noncomputable def uG (r r':R2) (ta tb tc:TE):TE:=fun σ H Q=>ta σ H fun x H1=>tb σ H1 fun y H2=>r x y H2 fun z H3=>∃ k,z=.bl k /\
 (if k=true then tc σ H3 fun w' H4=>r' y w' H4 Q else Q (.bl false) H3)
theorem wg {op op':CmpOp}{r r':R2} (ho:gu X (compareOp op) r) (ho':gu X (compareOp op') r') (ha:PE X a ta) (hb:PE X b tb) (hc:PE X c tc)
  (hm:lastMarks [op,op'] [b,c]=false:=by with_unfolding_all rfl):PE X (.Compare a [op,op'] [b,c] pos) (uG r r' ta tb tc):=by
 intro pins s σ H Q I h;refine Compare_chain (bC (ha pins s σ H _ I h) fun v s1 ⟨x,H1,I1,r1,q1⟩=>chain_link (bC (hb pins s1 σ H1 _ I1 q1) fun u s2 ⟨y,H2,I2,r2,q2⟩ =>
  bC (ho pins s2 σ H2 x y v u _ I2 r1 r2 q2) fun d s3 ⟨z,H3,I3,r3,k,e,q3⟩=>?_)) hm
 subst e
 cases r3;refine wpAny_truthy_bool ?_
 cases k with
 | false=>exact ite_ff ⟨.bl false,H3,I3,rfl,q3⟩
 | true=>exact ite_tt (chain_last (bC (hc pins s3 σ H3 _ I3 q3) fun w' s4 ⟨z',H4,I4,r4,q4⟩=>ho' pins s4 σ H4 y z' u w' Q I4 r2 r4 q4))
theorem nG:(sizeLine:Nat)<2 ^ 63:=by rw[sizeLine_eq];decide
theorem cA:gu X (binaryOp .Add) (fun x y H Q=>∃ i j,x=.str i/\y=.str j/\i.length+j.length<=sizeLine/\Q (.str (i++j)) H):=by
 intro pins s σ H x y v u Q I rx ry h;obtain⟨i,j,rfl,rfl,hz,q⟩:=h;obtain⟨t,rfl⟩:=rx;obtain⟨t',rfl⟩:=ry;exact add_str (fun t' tk=>⟨.str (i++j),H,I.tok _,⟨_,rfl⟩,q⟩) hz
theorem vals1 {x:V}{us:List Value} (r:Vals [x] us):∃ u,us=[u]/\RelV x u:=by
 cases r with
 | cons r1 r2=>cases r2;exact⟨_,rfl,r1⟩
theorem vals2 {x y:V}{us:List Value} (r:Vals [x,y] us):∃ u w',us=[u,w']/\RelV x u/\RelV y w':=by
 cases r with
 | cons r1 r2 =>
  cases r2 with
  | cons r3 r4=>cases r4;exact⟨_,_,rfl,r1,r3⟩
theorem kY (hc:X.calm=true):ck X (.builtin "max") (fun xs H Q=>∃ i j,xs=[.int i,.int j]/\Q (.int (if j > i then j else i)) H):=by
 intro pins s σ H xs us Q I r h;obtain⟨i,j,rfl,q⟩:=h;obtain⟨u,w',rfl,⟨t,rfl⟩,⟨t',rfl⟩⟩:=vals2 r;refine max_two_ints (I.ok.hd hc) fun h' tk k=>⟨_,H,I.kept k,?_,q⟩
 by_cases hj:j > i
 ·rw[if_pos hj,if_pos hj];exact⟨_,rfl⟩
 ·rw[if_neg hj,if_neg hj];exact⟨_,rfl⟩
theorem mH:ck X (.type "str") (fun xs H Q=>∃ i,xs=[.int i]/\i.natAbs.log2<1920/\Q (.str (toString i)) H):=by
 intro pins s σ H xs us Q I r h;obtain⟨i,rfl,hz,q⟩:=h;obtain⟨u,rfl,t,rfl⟩:=vals1 r;exact PySem.P.str_of_int hz ⟨.str _,H,I.tok _,⟨_,rfl⟩,q⟩
noncomputable def xt (K:PySem.W.Frag) (x:V) (H:Hp) (n:Nat):Prop :=
 match x with
 | .str y=>y.length<=sizeLine/\n=y.length
 | .byt y=>y.size<=sizeLine/\n=y.size
 | .ref p=>(∃ xs,aO K H p xs/\n=xs.length)\/∃ xs,cI K H p xs/\n=xs.length
 | _=>False
theorem oZ:ck X (.builtin "len") (fun xs H Q=>∃ x n,xs=[x]/\xt X.K x H n/\Q (.int n) H):=by
 intro pins s σ H xs us Q I r h;obtain⟨x,n,rfl,e,q⟩:=h;obtain⟨u,rfl,rx⟩:=vals1 r;have hl:=nG;have hs:sizeLine=16777216:=sizeLine_eq
 cases x with
 | str y =>
  obtain⟨t,rfl⟩:=rx;obtain⟨hy,e'⟩:y.length<=sizeLine/\n=y.length:=e;subst e';exact len_str (by omega) ⟨.int _,H,I.tok _,⟨_,rfl⟩,q⟩
 | byt y =>
  obtain⟨t,rfl⟩:=rx;obtain⟨hy,e'⟩:y.size<=sizeLine/\n=y.size:=e;subst e';exact PySem.W.len_bytes (by omega) ⟨.int _,H,I.tok _,⟨_,rfl⟩,q⟩
 | ref p =>
  cases rx;have e':(∃ xs,aO X.K H p xs/\n=xs.length)\/∃ xs,cI X.K H p xs/\n=xs.length:=e;rcases e' with ⟨xs,hx,e'⟩|⟨xs,hx,e'⟩
  ·subst e'
   obtain⟨its,r',pl,hz⟩:=I.list hx;have hlen:=r'.length;exact Calls.call_len_list pl.isList (by simp only[List.size_toArray];omega) ⟨.int xs.length,H,I.tok _,⟨_,by simp only[List.size_toArray];rw[hlen]⟩,q⟩
  ·subst e'
   obtain⟨its,r',pl,hz⟩:=I.tuple hx;have hlen:=r'.length;exact len_tuple pl (by simp only[List.size_toArray];omega) ⟨.int xs.length,H,I.tok _,⟨_,by simp only[List.size_toArray];rw[hlen]⟩,q⟩
 | _=>exact (show False from e).elim
end
end L2
namespace L2
open PySem PySem.Spec PyProof.Rows
structure q_ (h:Heap) (x dx C:Addr) (mA:Str->Option Value):Prop where
 obj:h.get? x=some (PySem.W.instObj C dx)
 ns:h.Ns1 dx mA
 ne:dx≠x
theorem tU {h:Heap}{dx:Addr}{mA:Str->Option Value} (n:h.Ns1 dx mA):∃ od,h.get? dx=some od/\∀ name,PySem.W.lookIn name od=some (mA name):=by
 obtain⟨o,es,ep,ho,hd,hk,_,hm⟩:=n;refine⟨o,ho,fun name=>?_⟩;have e:=hm name;unfold nsFind findBy at e;rw[<- Array.find?_toList] at e;unfold PySem.W.lookIn;rw[hd];dsimp only
 split
 ·rename_i y q
  rw[q] at e;exact congrArg some e
 ·rename_i q
  rw[q] at e;have a:es.toList.any (·.refKey)=false:=by
   rw[List.any_eq_false];intro y hy;obtain⟨z,t,hkey⟩:=hk y (Array.mem_toList_iff.mp hy);simp[DictEntry.refKey,hkey]
  have a':¬ es.toList.any (·.refKey)=true:=by rw[a];exact Bool.false_ne_true
  rw[if_neg a'];exact congrArg some e
theorem q_.look {h:Heap}{x dx C:Addr}{mA:Str->Option Value} (I:q_ h x dx C mA):∃ od,PySem.W.InstAt h x (PySem.W.instObj C dx) C (some od)/\∀ name,PySem.W.lookIn name od=some (mA name) :=
 let ⟨od,ho,hl⟩:=tU I.ns
 ⟨od,⟨I.obj,rfl,rfl,ho⟩,hl⟩
section
variable {prog:Program}{w:World}{A:Around}{E:Value->Shared->Prop}{s:Shared}{K:PySem.W.Frag}{x dx C f:Addr}{mA:Str->Option Value}{name:Str}{v:Value}
theorem get_map {expr:Bool}{Q:Value->Shared->Prop} (X:K.In s.heap) (I:q_ s.heap x dx C mA) (hg:PySem.W.plainGet K C name=true) (hh:PySem.W.hasDictIn K C=true)
  (ha:PySem.W.findIn K (.ref C) name=some none) (hv:mA name=some v) (hv':PySem.W.handedIn v=true) (h:Q v { s with toks:=s.toks+1 }) :
  wpAny (model prog w) A (getAttr (.ref x) name expr) Q E s:=by
 obtain⟨od,J,hl⟩:=I.look;exact PySem.W.get_value X J (PySem.W.plainGet_of hg).1 (PySem.W.findObj_own hh ha rfl (by rw[hl,hv])) hv' h
theorem vp {pl:Sem Bool}{Q:Value×List Value->Shared->Prop} (X:K.In s.heap) (I:q_ s.heap x dx C mA) (hg:PySem.W.plainGet K C name=true)
  (hf:PySem.W.findIn K (.ref C) name=some (some (.ref f))) (ht:PySem.W.isFn K (.ref f)=true) (hv:mA name=none) (h:Q (.ref f,[.ref x]) s) :
  wpAny (model prog w) A (getMethod (.ref x) name pl) Q E s:=by
 obtain⟨od,J,hl⟩:=I.look;exact PySem.W.method_fn X J (PySem.W.plainGet_of hg).1 (PySem.W.plainGet_of hg).2 hf (beq_iff_eq.mp ht) (by show (PySem.W.lookIn name od).map (·.isSome)=some false;rw[hl,hv];rfl) h
theorem xU {ns:List Str}{Q:Unit->Shared->Prop} (X:K.In s.heap) (I:q_ s.heap x dx C mA)
  (hs:PySem.W.findIn K (.ref C) "__setattr__"=some (some (.builtin "object.__setattr__"))) (hp:PySem.W.plainOver K C=true) (ht:PySem.W.takerIn K C name=some none) (hh:PySem.W.hasDictIn K C=true)
  (hw:PySem.Within mA ns) (hsz:ns.length<=sizeLine)
  (h:∀ h',q_ h' x dx C (fun y=>if y=name then some v else mA y)->Heap.SameBut dx s.heap h'->Q () { s with heap:=h',toks:=s.toks+2 }) :
  wpAny (model prog w) A (setAttr (.ref x) name v) Q E s:=by
 obtain⟨od,J,hl⟩:=I.look;refine PySem.W.set_plain X J hs (PySem.W.osa_open (s:={ s with toks:=s.toks+1 }) (r:=none) X J hp ht fun b=>?_);obtain⟨cd,hc,hd'⟩:=PySem.W.any_some hh;have hx:s.heap.get? x=some ⟨.ref C,some dx,.plain,#[]⟩:=I.obj;refine wpAny_bind (wpAny_pure (wpAny_bind (wpAny_bind (wpAny_loadPart hx (wpAny_bind (PySem.W.Looks.here (s:={ s with toks:=s.toks+1 }) (PySem.W.looks_clsIn X hc) ?_))))));rw[hd'];refine wpAny_pure (a:=some dx) (wpAny_bind (wpAny_pure (wpAny_bind ?_)));refine wpAny_nsSet1 (s:={ s with toks:=s.toks+1 }) I.ns fun h' hn2 hs2=>?_;obtain⟨oD,esD,epD,hoD,hdD,hcD⟩:=hn2.count (PySem.Within.cons name v hw);refine wpAny_bind (wpAny_lookBehind hoD (by rw[hdD];exact pastItsLine_dict (Nat.le_trans hcD (by rw[List.length_cons];omega))) ?_);exact wpAny_pure (h _ ⟨(hs2.2 _ (Ne.symm I.ne)).trans I.obj,hn2,I.ne⟩ hs2)
theorem wb {R:Result->Shared->Prop}{vs:List Value}{kw:List (Str×Value)} (X:K.In s.heap) (hm:PySem.W.makesIn K C=true)
  (hi:PySem.W.findIn K (.ref C) "__init__"=some (some (.ref f))) (hf:PySem.W.typeIn K (.ref f)=some (.type "function"))
  (h:codeAny (model prog w) (A.under (.builtin "type.__call__" ⟨.ref C::vs,kw⟩)) (.call (.ref f) ⟨.ref (s.heap.objs.size+1)::vs,kw⟩) (PySem.W.InitBack (s.heap.objs.size+1) R)
   { s with heap:=(s.heap.push PySem.W.emptyDict).push (PySem.W.instObj C s.heap.objs.size) }) :
  codeAny (model prog w) A (.call (.ref C) ⟨vs,kw⟩) R s:=by
 obtain⟨hh,g,d,t,os⟩:=s;exact PySem.W.make_core (PySem.W.makes_of X hm) (PySem.W.looks_findIn X hi) (fun self=>PySem.W.bind_fn X self hf) (.inl rfl) h
end
noncomputable def cy (f:Str) (v:V):List (Str×V)->List (Str×V)
 | []=>[(f,v)]
 | (g,x)::r=>if g=f then (g,v)::r else (g,x)::cy f v r
theorem aD (f g:Str) (v:V):∀ fs:List (Str×V),(cy f v fs).lookup g=if g=f then some v else fs.lookup g
 | []=>by
  show List.lookup g [(f,v)]=_
  by_cases h:g=f
  ·have hb:(g == f)=true:=beq_iff_eq.mpr h
   simp only[List.lookup,hb,if_pos h]
  ·have hb:(g == f)=false:=beq_eq_false_iff_ne.mpr h
   simp only[List.lookup,hb,if_neg h]
 | (k,x)::r=>by
  have ih:=aD f g v r;rw[show cy f v ((k,x)::r)=(if k=f then (k,v)::r else (k,x)::cy f v r) from rfl]
  by_cases hk:k=f
  ·rw[if_pos hk]
   by_cases h:g=k
   ·have hb:(g == k)=true:=beq_iff_eq.mpr h
    simp only[List.lookup,hb,if_pos (h.trans hk)]
   ·have hb:(g == k)=false:=beq_eq_false_iff_ne.mpr h
    simp only[List.lookup,hb,if_neg (fun e:g=f=>h (e.trans hk.symm))]
  ·rw[if_neg hk]
   by_cases h:g=k
   ·have hb:(g == k)=true:=beq_iff_eq.mpr h
    simp only[List.lookup,hb,if_neg (fun e:g=f=>hk (h.symm.trans e))]
   ·have hb:(g == k)=false:=beq_eq_false_iff_ne.mpr h
    simp only[List.lookup,hb];exact ih
theorem iI (f:Str) (v:V):∀ fs:List (Str×V),f∈(cy f v fs).map (·.1)/\∀ g,g∈fs.map (·.1)->g∈(cy f v fs).map (·.1)
 | []=>⟨by simp[cy],fun g h=>by simp at h⟩
 | (k,x)::r=>by
  obtain⟨i1,i2⟩:=iI f v r;rw[show cy f v ((k,x)::r)=(if k=f then (k,v)::r else (k,x)::cy f v r) from rfl]
  by_cases hk:k=f
  ·rw[if_pos hk]
   subst hk;exact⟨by simp,fun g h=>by simpa using h⟩
  ·rw[if_neg hk]
   refine⟨?_,fun g h=>?_⟩
   ·rw[List.map_cons]
    exact List.mem_cons_of_mem _ i1
   ·rw[List.map_cons] at h ⊢
    rcases List.mem_cons.mp h with e|e
    ·exact List.mem_cons.mpr (.inl e)
    ·exact List.mem_cons_of_mem _ (i2 g e)
theorem cB (f:Str) (v:V):∀ fs:List (Str×V),(cy f v fs).length<=fs.length+1
 | []=>by simp[cy]
 | (k,x)::r=>by
  have ih:=cB f v r;rw[show cy f v ((k,x)::r)=(if k=f then (k,v)::r else (k,x)::cy f v r) from rfl]
  by_cases hk:k=f
  ·rw[if_pos hk,List.length_cons,List.length_cons];omega
  ·rw[if_neg hk,List.length_cons,List.length_cons];omega
theorem eX.some_of {v:V}{o:Option Value} (r:eX (some v) o):∃ u,o=some u/\RelV v u:=by
 cases o with
 | none=>exact (show False from r).elim
 | some u=>exact⟨u,rfl,r⟩
theorem eX.none_of {o:Option Value} (r:eX none o):o=none:=by
 cases o with
 | none=>rfl
 | some u=>exact (show False from r).elim
theorem tX {v:V}{u:Value} (r:RelV v u):PySem.W.handedIn u=true:=by
 cases v with
 | non=>cases (show u=Value.none from r);rfl
 | bl b=>cases (show u=Value.bool b from r);rfl
 | int i=>obtain⟨t,e⟩:=(show ∃ t,u=Value.int i t from r);cases e;rfl
 | str x=>obtain⟨t,e⟩:=(show ∃ t,u=Value.str x t from r);cases e;rfl
 | byt b=>obtain⟨t,e⟩:=(show ∃ t,u=Value.bytes b t from r);cases e;rfl
 | flt b=>obtain⟨t,e⟩:=(show ∃ t,u=Value.float b t from r);cases e;rfl
 | ref a=>cases (show u=Value.ref a from r);rfl
 | ty n=>cases (show u=Value.type n from r);rfl
section
variable {P:Program}{w:World}{H H':Hp}{h h':Heap}{a C dx:Addr}{fs fs':List (Str×V)}
theorem ij (hok:fq P w H h) (e:H a=some (.ins C dx fs)):∃ mA,q_ h a dx C mA/\(∀ f,eX (fs.lookup f) (mA f))/\PySem.Within mA (fs.map (·.1))/\fs.length<=1000/\H dx=some (.own a):=by
 obtain⟨d,z,ne,ob,mA,n,r,q⟩:=(show bK P w H h a (.ins C dx fs) from hok a _ e);exact⟨mA,⟨ob,n,ne⟩,r,q,z,d⟩
end
structure p_ (K:PySem.W.Frag) (C:Addr):Prop where
 pg:PySem.W.plainGet K C Str.empty=true
 hd:PySem.W.hasDictIn K C=true
 po:PySem.W.plainOver K C=true
 sa:PySem.W.findIn K (.ref C) "__setattr__"=some (some (.builtin "object.__setattr__"))
theorem p_.get {K:PySem.W.Frag}{C:Addr} (c:p_ K C) (f:Str):PySem.W.plainGet K C f=true:=c.pg
noncomputable def bB (K:PySem.W.Frag) (C:Addr) (f:Str):Prop:=PySem.W.findIn K (.ref C) f=some none
theorem bB.Ex {K:PySem.W.Frag}{C:Addr}{f:Str} (n:bB K C f):PySem.W.takerIn K C f=some none:=by
 unfold PySem.W.takerIn;rw[show PySem.W.findIn K (.ref C) f=some none from n]
 rfl
structure Hw (K:PySem.W.Frag) (C:Addr) (f:Str) (v:V) (u:Value):Prop where
 at_:PySem.W.findIn K (.ref C) f=some (some u)
 rel:RelV v u
 get:PySem.W.specialIn K u "__get__"=some none
 cp:PySem.W.copiedNames.contains f=false
structure Meth (K:PySem.W.Frag) (C:Addr) (m:Str) (f:Addr):Prop where
 at_:PySem.W.findIn K (.ref C) m=some (some (.ref f))
 fn:PySem.W.isFn K (.ref f)=true
 kp:PySem.W.keepIn K (.ref f)=true
section
variable {X:Cx}{pins:List (Addr×Obj)}{σ:St}{H:Hp}{s:Shared}{a C dx:Addr}{fs:List (Str×V)}{f:Str}{v:V}{A:Around}{E:Value->Shared->Prop}
theorem qc {b:Bool}{Q:Value->Shared->Prop} (I:Inv X pins σ H s) (e:H a=some (.ins C dx fs)) (c:p_ X.K C) (n:bB X.K C f) (l:fs.lookup f=some v)
  (h:∀ u s',Inv X pins σ H s'->RelV v u->Q u s'):wpAny (model X.prog X.w) A (getAttr (.ref a) f b) Q E s:=by
 obtain⟨mA,O,r,_,_,_⟩:=ij I.hok e;obtain⟨u,hu,ru⟩:=eX.some_of (v:=v) (o:=mA f) (by rw[<- l];exact r f);exact get_map I.eO O (c.get f) c.hd n hu (tX ru) (h u _ (I.tok _) ru)
theorem jH {m:Str}{g:Addr}{pl:Sem Bool}{Q:Value×List Value->Shared->Prop} (I:Inv X pins σ H s) (e:H a=some (.ins C dx fs)) (c:p_ X.K C) (k:Meth X.K C m g) (l:fs.lookup m=none)
  (h:Q (.ref g,[.ref a]) s):wpAny (model X.prog X.w) A (getMethod (.ref a) m pl) Q E s:=by
 obtain⟨mA,O,r,_,_,_⟩:=ij I.hok e;have hn:mA m=none:=eX.none_of (by rw[<- l];exact r m);exact vp I.eO O (c.get m) k.at_ k.fn hn h
theorem rf {y:V}{u:Value}{Q:Unit->Shared->Prop} (I:Inv X pins σ H s) (e:H a=some (.ins C dx fs)) (c:p_ X.K C) (n:bB X.K C f) (hl:fs.length<1000) (ry:RelV y u)
  (h:∀ s',Inv X pins σ (upd H a (.ins C dx (cy f y fs))) s'->Q () s'):wpAny (model X.prog X.w) A (setAttr (.ref a) f u) Q E s:=by
 obtain⟨mA,O,r,wi,_,ho⟩:=ij I.hok e;have hz:(fs.map (·.1)).length<=sizeLine:=by rw[List.length_map,sizeLine_eq];omega
 refine xU I.eO O c.sa c.po n.Ex c.hd wi hz fun h' O' sb=>h _ ?_;have hd:∃ o,h'.get? dx=some o:=let ⟨o,_,_,e',_⟩:=O'.ns;⟨o,e'⟩;refine I.write (x:=a) (e:=dx) (by rw[e];exact True.intro) (.inr ho) (fun b q hb z=>(sb.2 b hb).trans z) hd ?_;refine⟨by rw[ah O.ne];exact ho,?_,O.ne,O'.obj,_,O'.ns,fun g=>?_,fun g hg=>?_⟩
 ·have:=cB f y fs;omega
 ·show eX ((cy f y fs).lookup g) (if g=f then some u else mA g)
  rw[aD]
  by_cases q:g=f
  ·rw[if_pos q,if_pos q];exact ry
  ·rw[if_neg q,if_neg q];exact r g
 ·by_cases q:g=f
  ·rw[q];exact (iI f y fs).1
  ·refine (iI f y fs).2 g (wi g fun z=>hg ?_)
   show (if g=f then some u else mA g)=none;rw[if_neg q];exact z
theorem Inv.made (I:Inv X pins σ H s):Inv X pins σ (upd (upd H s.heap.objs.size (.own (s.heap.objs.size+1))) (s.heap.objs.size+1) (.ins C s.heap.objs.size []))
  { s with heap:=(s.heap.push PySem.W.emptyDict).push (PySem.W.instObj C s.heap.objs.size) }:=by
 have e1:(s.heap.push PySem.W.emptyDict).get? s.heap.objs.size=some PySem.W.emptyDict:=Heap.get?_push_size s.heap rfl;have e2:((s.heap.push PySem.W.emptyDict).push (PySem.W.instObj C s.heap.objs.size)).get? (s.heap.objs.size+1)=some (PySem.W.instObj C s.heap.objs.size):=by
  have:=Heap.get?_push_size (s.heap.push PySem.W.emptyDict) (o:=PySem.W.instObj C s.heap.objs.size) rfl
  rwa [Heap.size_push] at this
 have e3:(s.heap.push PySem.W.emptyDict).Ns s.heap.objs.size (fun _=>none):=⟨PySem.W.emptyDict,#[],_,e1,rfl,(fun e he=>absurd he (by simp)),fun _=>rfl⟩;have I1:=I.laid (a:=s.heap.objs.size) (o:=.own (s.heap.objs.size+1)) (h':=s.heap.push PySem.W.emptyDict) (t':=s.toks) (fun b u q=>Heap.get?_push_of_some _ q) (Nat.le_refl _) ⟨_,e1⟩;refine I1.laid (a:=s.heap.objs.size+1) (o:=.ins C s.heap.objs.size []) (t':=s.toks) (fun b u q=>Heap.get?_push_of_some _ q) (Nat.le_of_eq (Heap.size_push _ _)) ?_;have ne:s.heap.objs.size≠s.heap.objs.size+1:=Nat.ne_of_lt (Nat.lt_succ_self _);refine⟨by rw[ah ne,aa],Nat.zero_le _,ne,e2,fun _=>none,(Heap.Ns1.of_empty e3).at fun o q=>Heap.get?_push_of_some _ q,fun _=>True.intro,fun y hy=>absurd rfl hy⟩
theorem xW {prog:Program}{w:World}{env:Env}{e:Expr}{f:Str}{pos:Pos}{s:Shared}{Q:Value->Shared->Prop} (hb:attributeBase e f env (eval e env)=eval e env)
  (h:wpAny (model prog w) A (eval e env) (fun o s₁=>wpAny (model prog w) A (getAttr o f true) Q E s₁) E s):wpAny (model prog w) A (eval (.Attribute e f pos) env) Q E s :=
 Attribute_any_ h (by rw[arm_eval_Attribute,hb])
end
noncomputable def BW (K:PySem.W.Frag) (ta:TE) (f:Str):TE:=fun σ H Q=>ta σ H fun x H1=>∃ a C dx fs v,x=.ref a/\H1 a=some (.ins C dx fs)/\p_ K C/\bB K C f/\fs.lookup f=some v/\Q v H1
noncomputable def CJ (K:PySem.W.Frag) (ta tv:TE) (f:Str):TS:=fun D σ H=>tv σ H fun y H1=>ta σ H1 fun x H2=>∃ a C dx fs,x=.ref a/\H2 a=some (.ins C dx fs)/\p_ K C/\bB K C f/\fs.length<1000 /\
 D.nx σ (upd H2 a (.ins C dx (cy f y fs)))
section
variable {X:Cx}{o e value:Expr}{f:Str}{pos pos' tpos:Pos}{ta tv:TE}
theorem zV (he:PE X e ta) (hb:attributeBase e f X.env (eval e X.env)=eval e X.env):PE X (.Attribute e f pos) (BW X.K ta f):=by
 intro pins s σ H Q I h;refine xW hb (bC (he pins s σ H _ I h) fun u s1 ⟨x,H1,I1,rx,a,C,dx,fs,v,ex,ea,c,n,l,q⟩=>?_);subst ex;obtain rfl:u=Value.ref a:=rx;exact qc I1 ea c n l fun u' s2 I2 ru=>⟨v,H1,I2,ru,q⟩
theorem dU (ha:PE X o ta) (hv:PE X value tv) (hs:swapsWith value (some (.Attribute o f pos')) pos.line X.env=pure false):PS X (.Assign [.Attribute o f pos'] value pos) (CJ X.K ta tv f):=by
 intro pins s σ H D I h;refine plainObj_wpAny_Assign_Attribute (bC (hv pins s σ H _ I h) fun u s1 ⟨y,H1,I1,ry,q⟩=>bC (ha pins s1 σ H1 _ I1 q) fun ov s2 ⟨x,H2,I2,rx,a,C,dx,fs,ex,ea,c,n,l,q2⟩=>?_) hs;subst ex;obtain rfl:ov=Value.ref a:=rx;exact rf I2 ea c n l ry fun s3 I3=>⟨σ,_,I3,q2⟩
end
section
variable {X:Cx}{pins:List (Addr×Obj)}{σ:St}{H:Hp}{s:Shared}{A:Around}{E:Value->Shared->Prop}{Q:Value->Shared->Prop}{c:Value}{b:Bool}
inductive cJ (K:PySem.W.Frag) (H:Hp):V->Value->Prop where
 | non:cJ K H .non (.type "NoneType")
 | bl (x:Bool):cJ K H (.bl x) (.type "bool")
 | int (i:Int):cJ K H (.int i) (.type "int")
 | str (x:Str):cJ K H (.str x) (.type "str")
 | flt (x:UInt64):cJ K H (.flt x) (.type "float")
 | lst {a:Addr}{xs:List V} (e:H a=some (.lst xs)):cJ K H (.ref a) (.type "list")
 | frz {a:Addr}{o:Obj}{xs:List V} (e:H a=some (.frz o (.lst xs))):cJ K H (.ref a) (.type "list")
 | tup {a:Addr}{xs:List V} (e:H a=some (.tup xs)):cJ K H (.ref a) (.type "tuple")
 | dK {a:Addr}{kvs:List (Key×V)} (e:H a=some (.dK kvs)):cJ K H (.ref a) (.type "dict")
 | dT {a:Addr}{kvs:List (List Key×V)} (e:H a=some (.dT kvs)):cJ K H (.ref a) (.type "dict")
 | ins {a C dx:Addr}{fs:List (Str×V)} (e:H a=some (.ins C dx fs)) (cl:p_ K C) (ha:PySem.W.findIn K (.ref C) "__class__"=some (some (.builtin "object.__class__")))
   (hn:PySem.W.specialIn K (.builtin "object.__class__") "__get__"=some (some (.builtin "getset_descriptor.__get__"))) (htk:PySem.W.takesIn K (.builtin "object.__class__")=some true)
   (hm:PySem.W.mroIn K C (.type "object")=some true):cJ K H (.ref a) (.ref C)
theorem tL {x:V}{u t:Value} (I:Inv X pins σ H s) (rx:RelV x u) (ty:cJ X.K H x t) (e:PySem.W.kitOne X.K t c=some b) (h:∀ tk,Q (.bool b) { s with toks:=tk }) :
  wpAny (model X.prog X.w) A (call (.builtin "isinstance") [u,c]) Q E s:=by
 cases ty with
 | non=>cases (show u=Value.none from rx);exact PySem.W.kia_one PySem.W.kitx_none I.eO True.intro e (fun z=>nomatch z) h
 | bl y=>cases (show u=Value.bool y from rx);exact PySem.W.kia_one PySem.W.kitx_bool I.eO True.intro e (fun z=>nomatch z) h
 | int i=>obtain⟨t,q⟩:=(show ∃ t,u=Value.int i t from rx);cases q;exact PySem.W.kia_one PySem.W.kitx_int I.eO True.intro e (fun z=>nomatch z) h
 | str y=>obtain⟨t,q⟩:=(show ∃ t,u=Value.str y t from rx);cases q;exact PySem.W.kia_one PySem.W.kitx_str I.eO True.intro e (fun z=>nomatch z) h
 | flt y=>obtain⟨t,q⟩:=(show ∃ t,u=Value.float y t from rx);cases q;exact PySem.W.kia_one PySem.W.kitx_float I.eO True.intro e (fun z=>nomatch z) h
 | @lst a xs ea =>
  cases (show u=Value.ref a from rx);obtain⟨_,_,n,_,h1⟩:=(show bK X.prog X.w H s.heap a (.lst xs) from I.hok a _ ea);exact PySem.W.kia_one PySem.W.kitx_list I.eO ⟨_,h1,rfl⟩ e (fun z=>nomatch z) h
 | @frz a ob xs ea =>
  cases (show u=Value.ref a from rx);obtain⟨_,_,_,n,_,h1⟩:=(show bK X.prog X.w H s.heap a (.frz ob (.lst xs)) from I.hok a _ ea);exact PySem.W.kia_one PySem.W.kitx_list I.eO ⟨_,h1,rfl⟩ e (fun z=>nomatch z) h
 | @tup a xs ea =>
  cases (show u=Value.ref a from rx);obtain⟨_,_,_,p⟩:=(show bK X.prog X.w H s.heap a (.tup xs) from I.hok a _ ea);obtain⟨o,h1,h2,_⟩:=p;exact PySem.W.kia_one PySem.W.kitx_tuple I.eO ⟨o,h1,h2⟩ e (fun z=>nomatch z) h
 | @dK a kvs ea =>
  cases (show u=Value.ref a from rx);obtain⟨_,_,vs,_,p⟩:=(show bK X.prog X.w H s.heap a (.dK kvs) from I.hok a _ ea);obtain⟨o,es,ep,h1,h2,_⟩:=p;exact PySem.W.kia_one PySem.W.kitx_dict I.eO ⟨o,h1,h2.1⟩ e (fun z=>nomatch z) h
 | @dT a kvs ea =>
  cases (show u=Value.ref a from rx);obtain⟨_,_,xs,_,o,es,ep,h1,h2,_⟩:=(show bK X.prog X.w H s.heap a (.dT kvs) from I.hok a _ ea);exact PySem.W.kia_one PySem.W.kitx_dict I.eO ⟨o,h1,h2.1⟩ e (fun z=>nomatch z) h
 | @ins a C dx fs ea cl ha hn htk hm =>
  cases (show u=Value.ref a from rx);obtain⟨mA,O,_⟩:=ij I.hok ea;obtain⟨od,J,_⟩:=O.look;exact PySem.W.kia_one (PySem.W.kitx_own (cl.get _) cl.hd ha hn htk hm) I.eO J e (fun z=>nomatch z) h
end
end L2
namespace L2
open PySem PySem.Spec PyProof.Rows
structure cj (k:Nat) (A:Around):Prop where
 hd:A.handled=none
 dp:A.depth+3 * k+5<recursionLimit
 un:A.units+16 * k+200<cLine
theorem cj.mono {j k:Nat}{A:Around} (r:cj k A) (h:j<=k):cj j A:=⟨r.hd,by have:=r.dp;omega,by have:=r.un;omega⟩
theorem cj.deeper {k:Nat}{A:Around} (r:cj (k+1) A) (env:Env):cj k (A.deeper env) :=
 ⟨r.hd,by have:=r.dp;show A.depth+1+3 * k+5<_;omega,by have:=r.un;show A.units+3+16 * k+200<_;omega⟩
theorem qR {A:Around}{C:Addr}{us:List Value}{kw:List (Str×Value)}:(A.under (.builtin "type.__call__" ⟨.ref C::us,kw⟩)).depth=A.depth+1:=by
 first|rfl|simp[Around.under,Code.weight,Code.isCreation,Code.isGuard,Code.isCaller,Code.frames,Code.isFrame,guardIds]
theorem qw {A:Around}{C:Addr}{us:List Value}{kw:List (Str×Value)}:(A.under (.builtin "type.__call__" ⟨.ref C::us,kw⟩)).units=A.units+1:=by
 first|rfl|simp[Around.under,Code.cUnits,Code.frames,Code.isFrame]
theorem cj.make {k:Nat}{A:Around} (r:cj (k+1) A) (C:Addr) (us:List Value) (kw:List (Str×Value)):cj k (A.under (.builtin "type.__call__" ⟨.ref C::us,kw⟩)) :=
 ⟨r.hd,by have:=r.dp;rw[qR];omega,by have:=r.un;rw[qw];omega⟩
theorem cj.depth {k:Nat}{A:Around} (r:cj k A):A.depth<recursionLimit:=by have:=r.dp;omega
theorem cj.units {k:Nat}{A:Around} (r:cj k A):A.units+64<cLine:=by have:=r.un;omega
theorem cj.cu {k:Nat}{A:Around} (r:cj k A):A.units<cLine:=by have:=r.un;omega
noncomputable def nS:TA:=fun _ H Q=>Q [] H
noncomputable def sR (ta:TE) (tr:TA):TA:=fun σ H Q=>ta σ H fun x H1=>tr σ H1 fun xs H2=>Q (x::xs) H2
section
variable {X:Cx}{e:Expr}{es:List Expr}{te:TE}{t:TA}{pos:Pos}
theorem ae:PA X [] nS:=fun _ _ _ _ H Q I h=>Calls.spliced_nil ⟨[],H,I,.nil,h⟩
theorem jw (ha:PE X e te) (hr:PA X es t) (hs:starEach (e::es) X.env=(false,eval e X.env)::starEach es X.env:=by rfl):PA X (e::es) (sR te t):=by
 intro pos pins s σ H Q I h;rw[hs];show wpAny _ _ (spliced ((false,eval e X.env)::backTo pos (starEach es X.env))) _ _ s;refine Calls.spliced_cons (bC (ha pins s σ H _ I h) fun u s1 ⟨x,H1,I1,r1,q1⟩=>?_);exact bC (hr pos pins s1 σ H1 _ I1 q1) fun us s2 ⟨xs,H2,I2,r2,q2⟩=>⟨x::xs,H2,I2,.cons r1 r2,q2⟩
noncomputable def zw (t:TA):TE:=fun σ H Q=>t σ H fun xs H1=>xs.length<=sizeLine/\∀ p,H1 p=none->Q (.ref p) (upd H1 p (.tup xs))
noncomputable def Bm (t:TA):TE:=fun σ H Q=>t σ H fun xs H1=>xs.length<=sizeLine/\∀ p,H1 p=none->Q (.ref p) (upd H1 p (.lst xs))
theorem bH {x1} (h:PA X es t):PE X (.Tuple es x1 pos) (zw t):=by
 intro pins s σ H Q I hq;refine wpAny_Tuple_spliced (bC (h pos pins s σ H _ I hq) fun us s1 ⟨xs,H1,I1,r,z,q⟩=>⟨by rw[<- r.length];exact z,?_⟩);have hf:H1 s1.heap.objs.size=none:=I1.hok.fresh (Nat.le_refl _);refine⟨.ref s1.heap.objs.size,upd H1 s1.heap.objs.size (.tup xs),I1.laid (t':=s1.toks) (fun b u e=>Heap.get?_push_of_some _ e) (Nat.le_refl _) ?_,rfl,q _ hf⟩;exact⟨z,us,r,⟨_,Heap.get?_push_size _ rfl,rfl,_,rfl⟩⟩
theorem aT (h:PA X es t):PE X (.List es pos) (Bm t):=by
 intro pins s σ H Q I hq;refine wpAny_List_spliced (bC (h pos pins s σ H _ I hq) fun us s1 ⟨xs,H1,I1,r,z,q⟩=>⟨by rw[<- r.length];exact z,?_⟩);have hf:H1 s1.heap.objs.size=none:=I1.hok.fresh (Nat.le_refl _);refine⟨.ref s1.heap.objs.size,upd H1 s1.heap.objs.size (.lst xs),I1.laid (t':=s1.toks) (fun b u e=>Heap.get?_push_of_some _ e) (Nat.le_refl _) ?_,rfl,q _ hf⟩;exact⟨z,us,0,r,Heap.get?_push_size _ rfl⟩
end
noncomputable abbrev Sp:=List V->Hp->VK->XK->Prop
noncomputable abbrev lT:=List Env->Hp->Shared->XK->Value->Shared->Prop
structure qE (P:Program) (w:World) (K:PySem.W.Frag) (mg:Str->Option Value) (base:Heap) (A:Around) (outer:List Env) (s:Shared) (H:Hp):Prop where
 frames:A.frames=some outer
 mod:Mod K mg base
 bs:∀ b o,base.get? b=some o->s.heap.get? b=some o/\H b=none
 bsz:base.objs.size<=s.heap.objs.size
 gh:s.heap.FunFrames base outer
 frf:∀ b∈iT outer,H b=none
 hok:fq P w H s.heap
 bare:AllBare s.gens
noncomputable def CE (outer:List Env) (P:Program) (w:World) (H:Hp) (s:Shared) (Q:VK) (u:Value) (s':Shared):Prop :=
 ∃ v H',s'.os=s.os/\AllBare s'.gens/\Un (iT outer) [] H H' s.heap s'.heap/\fq P w H' s'.heap/\RelV v u/\Q v H'
noncomputable def CR (CX:lT) (outer:List Env) (P:Program) (w:World) (H:Hp) (s:Shared) (Q:VK) (E:XK) (r:Result) (s':Shared):Prop :=
 match r with
 | .ok (.ret u)=>CE outer P w H s Q u s'
 | .ok _=>False
 | .error e=>CX outer H s E e s'
structure aS (P:Program) (w:World) (K:PySem.W.Frag) (mg:Str->Option Value) (base:Heap) (CX:lT) (k:Nat) (f:Addr) (fd:FuncData) (ps:List Str) (sp:Sp):Prop where
 len:∀ vs H Q E,sp vs H Q E->vs.length=ps.length
 run:∀ (A:Around) (outer:List Env) (s:Shared) (H:Hp) (args:Args) (us:List Value) (vs:List V) (Q:VK) (E:XK),cj k A->qE P w K mg base A outer s H->BindsTo s fd args (ps.zip us)->Vals vs us->sp vs H Q E ->
  codeAny (model P w) A (.call (.ref f) args) (CR CX outer P w H s Q E) s
theorem aS.mono {P:Program}{w:World}{K:PySem.W.Frag}{mg:Str->Option Value}{base:Heap}{CX:lT}{j k:Nat}{f:Addr}{fd:FuncData}{ps:List Str}{sp:Sp} (F:aS P w K mg base CX j f fd ps sp) (h:j<=k) :
  aS P w K mg base CX k f fd ps sp:=⟨F.len,fun A outer s H args us vs Q E hr=>F.run A outer s H args us vs Q E (hr.mono h)⟩
theorem qE.make {P:Program}{w:World}{K:PySem.W.Frag}{mg:Str->Option Value}{base:Heap}{A:Around}{outer:List Env}{s:Shared}{H:Hp} (e:qE P w K mg base A outer s H) (C:Addr) (us:List Value) (kw:List (Str×Value)) :
  qE P w K mg base (A.under (.builtin "type.__call__" ⟨.ref C::us,kw⟩)) outer s H:=⟨by first|exact e.frames|(simpa [Around.under,Code.envs,Code.isFrame,pushEnvs] using e.frames),e.mod,e.bs,e.bsz,e.gh,e.frf,e.hok,e.bare⟩
section
variable {X:Cx}{pins:List (Addr×Obj)}{σ:St}{H:Hp}{s s':Shared}
theorem Inv.C7 (I:Inv X pins σ H s):qE X.prog X.w X.K X.mg X.base X.A X.stack s H :=
 ⟨I.ok.frames,I.ok.mod,I.bs,Nat.le_trans I.ok.bsz I.sz,I.stack,I.jq,I.hok,I.bare⟩
theorem Inv.after {Q:VK}{u:Value} (I:Inv X pins σ H s) (h:CE X.stack X.prog X.w H s Q u s'):EP X pins σ Q u s':=by
 obtain⟨v,H',os,bare,un,hok,r,q⟩:=h;obtain⟨hh,g,d,t,os'⟩:=s';obtain rfl:os'=s.os:=os;exact⟨v,H',I.call (h':=hh) (g':=g) (d':=d) (t':=t) (ch:=[]) un hok bare (fun b z=>absurd z (by simp)),r,q⟩
end
noncomputable def iZ (sp:Sp) (dvs:List V) (E:XK) (t:TA):TE:=fun σ H Q=>t σ H fun vs H1=>sp (vs++dvs) H1 Q E
noncomputable def pQ (C:Addr) (m:Str) (sp:Sp) (dvs:List V) (E:XK) (ta:TE) (t:TA):TE:=fun σ H Q=>ta σ H fun x H1=>∃ a dx fs,x=.ref a/\H1 a=some (.ins C dx fs)/\fs.lookup m=none /\
 t σ H1 fun vs H2=>sp (x::(vs++dvs)) H2 Q E
noncomputable def pJ (C:Addr) (sp:Sp) (dvs:List V) (E:XK) (t:TA):TE:=fun σ H Q=>t σ H fun vs H1=>∀ x dx,H1 x=none->H1 dx=none->dx≠x ->
 sp (.ref x::(vs++dvs)) (upd (upd H1 dx (.own x)) x (.ins C dx [])) (fun v H2=>v=.non/\Q (.ref x) H2) E
noncomputable def Binds (K:PySem.W.Frag) (fd:FuncData) (ps:List Str) (ds:List Value):Prop :=
 ∀ (s:Shared) (us:List Value),K.In s.heap->(us++ds).length=ps.length->BindsTo s fd ⟨us,[]⟩ (ps.zip (us++ds))
theorem Binds.all {K:PySem.W.Frag}{fd:FuncData}{ps:List Str} (h:∀ us:List Value,us.length=ps.length->bindArgs fd ⟨us,[]⟩=pure (ps.zip us)):Binds K fd ps []:=fun s us _ hl=>by
 rw[List.append_nil] at hl ⊢;exact .of_eq (h us hl)
noncomputable def Passes (CX:lT) (X:Cx) (E:XK):Prop:=∀ (pins:List (Addr×Obj)) (σ:St) (H:Hp) (s:Shared) (e:Value) (s':Shared),Inv X pins σ H s->CX X.stack H s E e s'->X.xe e s'
section
variable {X:Cx}{CX:lT}{k:Nat}{f C:Addr}{fd:FuncData}{ps:List Str}{sp:Sp}{dvs:List V}{ds:List Value}{E:XK}{x m:Str}{p pos apos:Pos}{e o:Expr}{es:List Expr}{ta:TE}{t:TA}
theorem mz {pins:List (Addr×Obj)}{σ:St}{H:Hp}{s:Shared}{Q:VK}{us:List Value}{vs:List V} (F:aS X.prog X.w X.K X.mg X.base CX k f fd ps sp) (hr:cj k X.A) (hb:Binds X.K fd ps ds) (hd:Vals dvs ds) (hx:Passes CX X E)
  (I:Inv X pins σ H s) (r:Vals vs us) (h:sp (vs++dvs) H Q E):wpAny (model X.prog X.w) X.A (call (.ref f) us) (EP X pins σ Q) X.xe s:=by
 have r2:Vals (vs++dvs) (us++ds):=r.append hd;have hl:(us++ds).length=ps.length:=by rw[<- r2.length];exact F.len _ _ _ _ h
 refine wpAny_call (codeAny_mono (F.run X.A X.stack s H ⟨us,[]⟩ (us++ds) (vs++dvs) Q E hr I.C7 (hb s us I.eO hl) r2 h) fun r s' hq=>?_)
 cases r with
 | error e=>exact hx pins σ H s e s' I hq
 | ok fl =>
  cases fl with
  | ret u=>exact I.after hq
  | next=>exact False.elim hq
  | brk=>exact False.elim hq
  | cont=>exact False.elim hq
theorem r_ (F:aS X.prog X.w X.K X.mg X.base CX k f fd ps sp) (hr:cj k X.A) (hg:Gl X x) (hm:X.mg x=some (.ref f)) (hk:PySem.W.keepIn X.K (.ref f)=true) (hb:Binds X.K fd ps ds) (hd:Vals dvs ds) (hx:Passes CX X E)
  (ha:PA X (e::es) t) (hdb:(x == ("__debug__":Str))=false:=by decide) (he:starEach (e::es) X.env=(false,eval e X.env)::starEach es X.env:=by rfl) (hpl:(backTo pos (starEach es X.env)).any (·.1)=false:=by rfl) :
  PE X (.Call (.Name x p) (e::es) [] pos) (iZ sp dvs E t):=by
 intro pins s σ H Q I h;refine wpAny_Call_Name_kw (ff I hg hm ?_ hdb);refine PySem.W.callWith_K (h₀:=X.base) I.ok.mod.kin hk (bC (ha pos pins s σ H _ I h) fun us s1 ⟨vs,H1,I1,r,q⟩=>⟨I1.eO,?_⟩) he hpl;exact mz F hr hb hd hx I1 r q
theorem vW (F:aS X.prog X.w X.K X.mg X.base CX k f fd ps sp) (hr:cj k X.A) (hg:Gl X x) (hm:X.mg x=some (.ref f)) (hk:PySem.W.keepIn X.K (.ref f)=true) (hb:Binds X.K fd ps ds) (hd:Vals dvs ds) (hx:Passes CX X E)
  (hdb:(x == ("__debug__":Str))=false:=by decide):PE X (.Call (.Name x p) [] [] pos) (iZ sp dvs E nS):=by
 intro pins s σ H Q I h;refine wpAny_Call_Name_kw (ff I hg hm ?_ hdb);exact PySem.W.callWith_K0 I.eO hk (mz (us:=[]) F hr hb hd hx I .nil h)
theorem xV {pl:Sem Bool} (he:PE X o ta) (c:p_ X.K C) (hm:Meth X.K C m f) (F:aS X.prog X.w X.K X.mg X.base CX k f fd ps sp) (hr:cj k X.A) (hb:Binds X.K fd ps ds) (hd:Vals dvs ds) (hx:Passes CX X E) (ha:PA X (e::es) t)
  (hst:starEach (e::es) X.env=(false,eval e X.env)::starEach es X.env:=by rfl) (hpl:(backTo pos (starEach es X.env)).any (·.1)=false:=by rfl)
  (ht:eval (.Call (.Attribute o m apos) (e::es) [] pos) X.env=(do
   let ov <- eval o X.env
   standAt apos.atName
   let (f,first) <- holding [ov] (getMethod ov m pl)
   callWith pos f first (backTo pos (starEach (e::es) X.env)) (backToKw pos (keywordEach [] X.env))):=by rfl) :
  PE X (.Call (.Attribute o m apos) (e::es) [] pos) (pQ C m sp dvs E ta t):=by
 intro pins s σ H Q I h;refine PySem.W.methodCall_KW (pl:=pl) (bC (he pins s σ H _ I h) fun u s1 ⟨x,H1,I1,rx,a,dx,fs,ex,ea,l,q⟩=>?_) ht;subst ex;obtain rfl:u=Value.ref a:=rx;refine jH I1 ea c hm l ?_;refine PySem.W.callWith_K (first:=[.ref a]) (h₀:=X.base) I.ok.mod.kin hm.kp (bC (ha pos pins s1 σ H1 _ I1 q) fun us s2 ⟨vs,H2,I2,r,q2⟩=>⟨I2.eO,?_⟩) hst hpl;exact mz (us:=.ref a::us) (vs:=.ref a::vs) F hr hb hd hx I2 (.cons rfl r) q2
theorem uI {pl:Sem Bool} (he:PE X o ta) (c:p_ X.K C) (hm:Meth X.K C m f) (F:aS X.prog X.w X.K X.mg X.base CX k f fd ps sp) (hr:cj k X.A) (hb:Binds X.K fd ps ds) (hd:Vals dvs ds) (hx:Passes CX X E)
  (ht:eval (.Call (.Attribute o m apos) [] [] pos) X.env=(do
   let ov <- eval o X.env
   standAt apos.atName
   let (f,first) <- holding [ov] (getMethod ov m pl)
   callWith pos f first (backTo pos (starEach [] X.env)) (backToKw pos (keywordEach [] X.env))):=by rfl) :
  PE X (.Call (.Attribute o m apos) [] [] pos) (pQ C m sp dvs E ta nS):=by
 intro pins s σ H Q I h;refine PySem.W.methodCall_KW (pl:=pl) (bC (he pins s σ H _ I h) fun u s1 ⟨x,H1,I1,rx,a,dx,fs,ex,ea,l,q⟩=>?_) ht;subst ex;obtain rfl:u=Value.ref a:=rx;refine jH I1 ea c hm l ?_;exact PySem.W.callWith_K0 (first:=[.ref a]) I1.eO hm.kp (mz (us:=[.ref a]) (vs:=[.ref a]) F hr hb hd hx I1 (.cons rfl .nil) q)
structure Mk (K:PySem.W.Frag) (C f:Addr):Prop where
 makes:PySem.W.makesIn K C=true
 init:PySem.W.findIn K (.ref C) "__init__"=some (some (.ref f))
 fn:PySem.W.isFn K (.ref f)=true
 kp:PySem.W.keepIn K (.ref C)=true
theorem oA {pins:List (Addr×Obj)}{σ:St}{H:Hp}{s:Shared}{Q:VK}{us:List Value}{vs:List V} (M:Mk X.K C f) (F:aS X.prog X.w X.K X.mg X.base CX k f fd ps sp) (hr:cj (k+1) X.A) (hb:Binds X.K fd ps ds) (hd:Vals dvs ds)
  (hx:Passes CX X E) (I:Inv X pins σ H s) (r:Vals vs us)
  (h:∀ x dx,H x=none->H dx=none->dx≠x->sp (.ref x::(vs++dvs)) (upd (upd H dx (.own x)) x (.ins C dx [])) (fun v H2=>v=.non/\Q (.ref x) H2) E) :
  wpAny (model X.prog X.w) X.A (call (.ref C) us) (EP X pins σ Q) X.xe s:=by
 have hq:=h (s.heap.objs.size+1) s.heap.objs.size (I.hok.fresh (Nat.le_succ _)) (I.hok.fresh (Nat.le_refl _)) (Nat.ne_of_lt (Nat.lt_succ_self _));have I2:=Inv.made (C:=C) I;have r2:Vals (V.ref (s.heap.objs.size+1)::(vs++dvs)) (Value.ref (s.heap.objs.size+1)::(us++ds)):=.cons rfl (r.append hd);have hl:(Value.ref (s.heap.objs.size+1)::us++ds).length=ps.length:=by
  have e:=r2.length;rw[F.len _ _ _ _ hq] at e;exact e.symm
 refine wpAny_call (wb (f:=f) I.eO M.makes M.init (beq_iff_eq.mp M.fn) (codeAny_mono (F.run _ X.stack _ _ ⟨Value.ref (s.heap.objs.size+1)::us,[]⟩ (Value.ref (s.heap.objs.size+1)::(us++ds)) _ _ E (hr.make C us [])
  (I2.C7.make C us []) (hb _ (Value.ref (s.heap.objs.size+1)::us) I2.eO hl) r2 hq) fun r s' hq'=>?_))
 cases r with
 | error e=>exact hx pins σ _ _ e s' I2 hq'
 | ok fl =>
  cases fl with
  | ret u =>
   obtain⟨v,H',I3,rv,ev,q3⟩:=I2.after hq';subst ev;exact⟨rv,⟨V.ref (s.heap.objs.size+1),H',I3,rfl,q3⟩⟩
  | next=>exact False.elim hq'
  | brk=>exact False.elim hq'
  | cont=>exact False.elim hq'
theorem yN (M:Mk X.K C f) (F:aS X.prog X.w X.K X.mg X.base CX k f fd ps sp) (hr:cj (k+1) X.A) (hg:Gl X x) (hm:X.mg x=some (.ref C)) (hb:Binds X.K fd ps ds) (hd:Vals dvs ds) (hx:Passes CX X E)
  (ha:PA X (e::es) t) (hdb:(x == ("__debug__":Str))=false:=by decide) (he:starEach (e::es) X.env=(false,eval e X.env)::starEach es X.env:=by rfl) (hpl:(backTo pos (starEach es X.env)).any (·.1)=false:=by rfl) :
  PE X (.Call (.Name x p) (e::es) [] pos) (pJ C sp dvs E t):=by
 intro pins s σ H Q I h;refine wpAny_Call_Name_kw (ff I hg hm ?_ hdb);refine PySem.W.callWith_K (h₀:=X.base) I.ok.mod.kin M.kp (bC (ha pos pins s σ H _ I h) fun us s1 ⟨vs,H1,I1,r,q⟩=>⟨I1.eO,?_⟩) he hpl;exact oA M F hr hb hd hx I1 r q
theorem wL (M:Mk X.K C f) (F:aS X.prog X.w X.K X.mg X.base CX k f fd ps sp) (hr:cj (k+1) X.A) (hg:Gl X x) (hm:X.mg x=some (.ref C)) (hb:Binds X.K fd ps ds) (hd:Vals dvs ds) (hx:Passes CX X E)
  (hdb:(x == ("__debug__":Str))=false:=by decide):PE X (.Call (.Name x p) [] [] pos) (pJ C sp dvs E nS):=by
 intro pins s σ H Q I h;refine wpAny_Call_Name_kw (ff I hg hm ?_ hdb);exact PySem.W.callWith_K0 I.eO M.kp (oA (us:=[]) M F hr hb hd hx I .nil h)
end
section
variable {X:Cx}{CX:lT}{k:Nat}{f C:Addr}{fd:FuncData}{ps ks:List Str}{sp:Sp}{E:XK}{x m:Str}{p pos apos kpos:Pos}{e o:Expr}{es:List Expr}{kws:List Keyword}{te ta:TE}{t tk:TA}{nm:Option Str}
structure Gy (K:PySem.W.Frag) (fd:FuncData) (ps ks:List Str) (g:List Value->List Value->List Value) (gV:List V->List V->List V):Prop where
 to:∀ (s:Shared) (us ws:List Value),K.In s.heap->(g us ws).length=ps.length->BindsTo s fd ⟨us,ks.zip ws⟩ (ps.zip (g us ws))
 rel:∀ {vs:List V}{us:List Value}{zs:List V}{ws:List Value},Vals vs us->Vals zs ws->Vals (gV vs zs) (g us ws)
variable {g:List Value->List Value->List Value}{gV:List V->List V->List V}
end
structure az (N P:List Str) (sc:Scope):Prop where
 kind:sc.kind=.function
 co:sc.isCoroutine=false
 gen:sc.isGenerator=false
 nd:N.Nodup
 pre:N.take P.length=P
 par:∀ x∈P,sc.names.lookup x=some .local\/sc.names.lookup x=some .cell
 nofree:∀ y∈sc.names,y.2≠.free
theorem kT {kindOf:Str->Option NameKind}{x:Str}:∀ {binds:List (Str×Value)}{m:Str->Option Value},(∀ v,(x,v)∉binds)->bindL kindOf binds m x=m x
 | [],_,_=>rfl
 | (n,v)::r,m,h=>by
  unfold bindL;rw[kT fun w hw=>h w (List.mem_cons_of_mem _ hw)]
  split
  ·have:x≠n:=by rintro rfl;exact h v List.mem_cons_self
   simp[this]
  ·rfl
theorem lV {kindOf:Str->Option NameKind}{x:Str}:∀ {binds:List (Str×Value)}{m:Str->Option Value},(∀ v,(x,v)∉binds)->bindC kindOf binds m x=m x
 | [],_,_=>rfl
 | (n,v)::r,m,h=>by
  unfold bindC;rw[lV fun w hw=>h w (List.mem_cons_of_mem _ hw)]
  split
  ·rfl
  ·have:x≠n:=by rintro rfl;exact h v List.mem_cons_self
   simp[this]
theorem kZ {kindOf:Str->Option NameKind}{x:Str}{v:Value}:∀ {P:List Str}{vs:List Value}{i:Nat}{m:Str->Option Value},P.Nodup->P[i]?=some x->vs[i]?=some v->kindOf x=some .local ->
  bindL kindOf (P.zip vs) m x=some v
 | [],_,_,_,_,h,_,_=>by simp at h
 | _::_,[],_,_,_,_,h,_=>by simp at h
 | p::P,w::vs,0,m,nd,h1,h2,hk=>by
  simp at h1 h2;subst h1;subst h2;show bindL kindOf ((p,w)::P.zip vs) m p=_;unfold bindL;rw[kT fun v hv=>(List.nodup_cons.mp nd).1 (List.of_mem_zip hv).1,if_pos hk];simp
 | p::P,w::vs,i+1,m,nd,h1,h2,hk=>by
  show bindL kindOf ((p,w)::P.zip vs) m x=_;unfold bindL;exact kZ (i:=i) (List.nodup_cons.mp nd).2 (by simpa using h1) (by simpa using h2) hk
theorem lW {kindOf:Str->Option NameKind}{x:Str}{v:Value}:∀ {P:List Str}{vs:List Value}{i:Nat}{m:Str->Option Value},P.Nodup->P[i]?=some x->vs[i]?=some v->kindOf x≠some .local ->
  bindC kindOf (P.zip vs) m x=some v
 | [],_,_,_,_,h,_,_=>by simp at h
 | _::_,[],_,_,_,_,h,_=>by simp at h
 | p::P,w::vs,0,m,nd,h1,h2,hk=>by
  simp at h1 h2;subst h1;subst h2;show bindC kindOf ((p,w)::P.zip vs) m p=_;unfold bindC;rw[lV fun v hv=>(List.nodup_cons.mp nd).1 (List.of_mem_zip hv).1,if_neg hk];simp
 | p::P,w::vs,i+1,m,nd,h1,h2,hk=>by
  show bindC kindOf ((p,w)::P.zip vs) m x=_;unfold bindC;exact lW (i:=i) (List.nodup_cons.mp nd).2 (by simpa using h1) (by simpa using h2) hk
noncomputable def start (N:List Str) (vs:List V):St:=vs.map some++List.replicate (N.length - vs.length) none
noncomputable def i_ (CX:lT) (P:Program) (w:World) (K:PySem.W.Frag) (mg:Str->Option Value) (base:Heap) (N:List Str) (qual:Str) (scope:Scope) (f:Addr) (cd:Value) (A:Around) (outer:List Env) (s:Shared) (H:Hp) (E:XK):Cx where
 prog:=P
 w:=w
 K:=K
 mg:=mg
 base:=base
 A:=A.deeper (envOfC qual scope s.heap.objs.size f cd)
 N:=N
 s₀:=s
 H₀:=H
 env:=envOfC qual scope s.heap.objs.size f cd
 outer:=outer
 stack:=envOfC qual scope s.heap.objs.size f cd::outer
 ex:=[]
 calm:=true
 fn:=fun _=>true
 pn:=[]
 xe:=fun e s'=>wpAny (model P w) (A.deeper (envOfC qual scope s.heap.objs.size f cd)) (leaving (envOfC qual scope s.heap.objs.size f cd) e) (fun _ s''=>CX outer H s E e s'') (fun e' s''=>CX outer H s E e' s'') s'
theorem pU {sc:Scope}{n:Nat}{x:Str} (h:sc.names.lookup x=some .cell):∃ c,(cellsFrom n sc.names []).lookup x=some c:=by
 have q:=PySem.W.cellsFrom_some sc.names n [] (.inl h);exact Option.isSome_iff_exists.mp q
theorem tj {CX:lT}{P:Program}{w:World}{K:PySem.W.Frag}{mg:Str->Option Value}{base:Heap}{N ps:List Str}{qual:Str}{scope:Scope}{f:Addr}{cd:Value}{A:Around}{outer:List Env}{s s1:Shared}{H:Hp}{E:XK}{us:List Value}{vs:List V}
  (S:az N ps scope) (hd:A.handled=none) (e0:qE P w K mg base A outer s H) (hl:vs.length=ps.length) (r:Vals vs us)
  (x:InCallC s s.heap.objs.size (bindL (envOfC qual scope s.heap.objs.size f cd).kindOf (ps.zip us) fun _=>none) (cellsFrom (s.heap.objs.size+1) scope.names []) (bindC (envOfC qual scope s.heap.objs.size f cd).kindOf (ps.zip us) fun _=>none) s1) :
  Inv (i_ CX P w K mg base N qual scope f cd A outer s H E) [] (start N vs) H s1:=by
 have hpl:ps.length<=N.length:=by have:=congrArg List.length S.pre;rw[List.length_take] at this;omega
 obtain⟨h1,tk,rfl,hk⟩:=x.done;have noA:∀ b:Addr,b∉(i_ CX P w K mg base N qual scope f cd A outer s H E).ex:=fun b z=>absurd (show b∈([]:List Addr) from z) (by simp);refine⟨⟨e0.mod,S.kind,rfl,rfl,Nat.le_refl _,fun y z c h1 h2=>?_,fun y hy=>?_,fun y c _ h=>?_,fun _=>hd,Around.frames_deeper e0.frames,.inr ⟨rfl,rfl⟩,fun b z=>absurd z (noA b),e0.bs,e0.bsz,fun b _ _=>noA b,fun b z=>absurd z (noA b),e0.gh,e0.frf⟩,
  rfl,e0.bare,Un.kept hk,⟨_,x.toInCall.ns,fun i y v h1 h2 h3=>?_⟩,fun y c h=>⟨_,x.cell y c h⟩,e0.hok.fresh (Nat.le_refl _),fun y c h=>?_,fun p hp=>absurd (show p∈([]:List (Addr×Obj)) from hp) (by simp),e0.hok.kept hk,?_⟩
 ·exact name_of_addr x.apart (PySem.mem_of_lookup h1) (PySem.mem_of_lookup h2)
 ·have hy:scope.names.lookup y=some .cell\/scope.names.lookup y=some .free:=hy
  rcases hy with hy|hy
  ·exact pU hy
  ·exact absurd rfl (S.nofree _ (PySem.mem_of_lookup hy))
 ·exact Nat.le_of_lt (x.above y c (PySem.mem_of_lookup h))
 ·have hi:i<vs.length:=by
   unfold start at h2
   by_cases hi:i<vs.length
   ·exact hi
   ·rw[List.getElem?_append_right (by simpa using hi)] at h2
    rw[List.getElem?_replicate] at h2
    split at h2 <;> cases h2
  have ha:vs[i]?=some v:=by
   unfold start at h2;rw[List.getElem?_append_left (by simpa using hi),List.getElem?_map] at h2
   cases e:vs[i]? with
   | none=>rw[e] at h2;cases h2
   | some a=>rw[e] at h2;cases h2;rfl
  obtain⟨u,hu,rv⟩:=r.get ha;have hp:ps[i]?=some y:=by
   rw[<- S.pre,List.getElem?_take_of_lt (by omega)];exact h1
  have ndP:ps.Nodup:=by rw[<- S.pre];exact S.nd.sublist (List.take_sublist _ _)
  refine⟨u,rv,?_⟩;rcases S.par y (List.mem_of_getElem? hp) with k|k
  ·exact .inl ⟨k,kZ ndP hp hu k⟩
  ·obtain⟨c,e⟩:=pU (n:=s.heap.objs.size+1) k
   refine .inr ⟨.inl k,c,e,?_⟩;have q:=x.cell y c e;rw[lW ndP hp hu (by show scope.names.lookup y≠_;rw[k];decide)] at q;exact q
 ·exact e0.hok.fresh (Nat.le_of_lt (x.above y c (PySem.mem_of_lookup h)))
 ·unfold start
  show _=N.length;rw[List.length_append,List.length_map,List.length_replicate];omega
theorem zd {CX:lT}{P:Program}{w:World}{K:PySem.W.Frag}{mg:Str->Option Value}{base:Heap}{k:Nat}{f:Addr}{name qual:Str}{params:Arguments}{body:List Stmt}{scope:Scope}{dV kV doc pm cdv ct oc:Value}{an od:Option Addr}
  {osl:Array (Option Value)}{N ps:List Str}{sp:Sp} (lk:K.lookup f=some ⟨oc,od,.func (PySem.W.fnOf name qual params body scope dV kV doc pm an cdv ct),osl⟩) (hcd:PySem.W.codeIn K cdv qual=true) (S:az N ps scope)
  (len:∀ vs H Q E,sp vs H Q E->vs.length=ps.length)
  (hbody:∀ (A:Around) (outer:List Env) (s:Shared) (H:Hp) (vs:List V) (Q:VK) (E:XK),cj k (A.deeper (envOfC qual scope s.heap.objs.size f cdv))->sp vs H Q E ->
   ∃ t,oC (i_ CX P w K mg base N qual scope f cdv A outer s H E) body t/\t { nx:=fun _ H'=>Q .non H',rt:=Q } (start N vs) H) :
  aS P w K mg base CX (k+1) f (PySem.W.fnOf name qual params body scope dV kV doc pm an cdv ct) ps sp:=by
 refine⟨len,fun A outer s H args us vs Q E hr e0 hb r hsp=>?_⟩;have hl:=len _ _ _ _ hsp;have KX:K.In s.heap:=e0.mod.kin.keeps fun b o e=>(e0.bs b o e).1;have lim:s.heap.NoLimit:=e0.mod.nolimit.keeps fun b o e=>(e0.bs b o e).1;have hkind:∀ y∈ps.zip us,scope.names.lookup y.1=some .local\/(scope.names.lookup y.1=some .cell/\((cellsFrom (s.heap.objs.size+1) scope.names []).lookup y.1).isSome=true):=fun ⟨n,v⟩ hy=>by
  rcases S.par n (List.of_mem_zip hy).1 with q|q
  ·exact .inl q
  ·exact .inr ⟨q,PySem.W.cellsFrom_some _ _ _ (.inl q)⟩
 refine codeAny_call_function hr.depth (KX _ _ lk) rfl S.co S.gen rfl (PySem.W.codeRec_of KX hcd) (hb _ _ _ _ ?_);refine wpAny_newFunctionEnv_cells S.kind hkind fun env he s1 x=>?_;subst he;refine⟨lim.keeps x.toInCall.keep,codeAny_func ?_⟩;obtain⟨t,ht,hq⟩:=hbody A outer s H vs Q E (hr.deeper _) hsp;have I:Inv (i_ CX P w K mg base N qual scope f cdv A outer s H E) [] (start N vs) H s1:=tj S hr.hd e0 hl r x;refine wpAny_mono (ht [] s1 (start N vs) H _ I hq) (fun fl s' hs=>?_) fun e s' hs=>hs;have fin:∀ {σ':St}{H':Hp}{v:V}{u:Value},Inv (i_ CX P w K mg base N qual scope f cdv A outer s H E) [] σ' H' s'->RelV v u->Q v H'->CE outer P w H s Q u s' :=
  fun {σ' H' v u} J rv q=>⟨v,H',J.os,J.bare,J.base,J.hok,rv,q⟩
 cases fl with
 | ret u =>
  obtain⟨v,σ',H',J,rv,q⟩:=hs;exact fin J rv q
 | next =>
  obtain⟨σ',H',J,q⟩:=hs;exact fin (v:=V.non) (u:=Value.none) J rfl q
 | brk =>
  obtain⟨_,_,_,q⟩:=hs;exact False.elim q
 | cont =>
  obtain⟨_,_,_,q⟩:=hs;exact False.elim q
end L2
namespace L2
open PySem PySem.Spec PyProof.Rows
section
variable {X:Cx}{x:Str}{p pos:Pos}{e:Expr}{es:List Expr}{t:TA}{id T:String}{r:List V->Hp->VK->Prop}
noncomputable def Cs (r:List V->Hp->VK->Prop) (t:TA):TE:=fun σ H Q=>t σ H fun vs H1=>r vs H1 Q
theorem pf (hc:ck X (.builtin id) r) (hg:Gl X x) (hm:X.mg x=none) (hv:bootBuiltins x=some (.builtin id)) (ha:PA X (e::es) t) (hn:x≠"__name__":=by decide) (hdb:(x == ("__debug__":Str))=false:=by decide)
  (he:starEach (e::es) X.env=(false,eval e X.env)::starEach es X.env:=by rfl) (hpl:(backTo pos (starEach es X.env)).any (·.1)=false:=by rfl):PE X (.Call (.Name x p) (e::es) [] pos) (Cs r t):=by
 intro pins s σ H Q I h;refine wpAny_Call_Name_kw (gz I hg hm hv ?_ hn hdb);exact PyProof.Rows.callWith_builtin1 (bC (ha pos pins s σ H _ I h) fun us s1 ⟨vs,H1,I1,r1,q1⟩=>hc pins s1 σ H1 vs us Q I1 r1 q1) he hpl
theorem sT (hc:ck X (.type T) r) (hg:Gl X x) (hm:X.mg x=none) (hv:bootBuiltins x=some (.type T)) (ha:PA X (e::es) t) (hn:x≠"__name__":=by decide) (hdb:(x == ("__debug__":Str))=false:=by decide)
  (he:starEach (e::es) X.env=(false,eval e X.env)::starEach es X.env:=by rfl) (hpl:(backTo pos (starEach es X.env)).any (·.1)=false:=by rfl):PE X (.Call (.Name x p) (e::es) [] pos) (Cs r t):=by
 intro pins s σ H Q I h;refine wpAny_Call_Name_kw (gz I hg hm hv ?_ hn hdb);exact PyProof.Rows.callWith_type1 (bC (ha pos pins s σ H _ I h) fun us s1 ⟨vs,H1,I1,r1,q1⟩=>hc pins s1 σ H1 vs us Q I1 r1 q1) he hpl
end
end L2
namespace L2
open PySem PySem.Spec PyProof.Rows
section
variable {κ:Type} [DecidableEq κ]
noncomputable def du (kvs:List (κ×V)) (k:κ):Option V:=(kvs.find? fun kv=>decide (kv.1=k)).map (·.2)
noncomputable def putK (kvs:List (κ×V)) (k:κ) (v:V):List (κ×V) :=
 if (kvs.any fun kv=>decide (kv.1=k))=true then kvs.map (fun kv=>if kv.1=k then (kv.1,v) else kv) else kvs++[(k,v)]
noncomputable def iV (kvs:List (κ×V)) (k:κ):List (κ×V):=kvs.filter fun kv=>decide (kv.1≠k)
theorem c_ {p:κ×V}{r:List (κ×V)}{k:κ} (e:p.1=k):du (p::r) k=some p.2:=by simp[du,List.find?_cons,e]
theorem aV {p:κ×V}{r:List (κ×V)}{k:κ} (e:¬ p.1=k):du (p::r) k=du r k:=by simp[du,List.find?_cons,e]
theorem kj (k:κ):∀ kvs:List (κ×V),(kvs.any fun kv=>decide (kv.1=k))=(du kvs k).isSome
 | []=>rfl
 | p::r=>by
  rw[List.any_cons]
  by_cases e:p.1=k
  ·simp only[c_ e,decide_eq_true e,Bool.true_or,Option.isSome_some]
  ·rw[aV e,decide_eq_false e,Bool.false_or];exact kj k r
theorem fO (kvs:List (κ×V)) (k:κ) (v:V):(putK kvs k v).length<=kvs.length+1:=by
 unfold putK
 split
 ·rw[List.length_map];omega
 ·rw[List.length_append,List.length_cons,List.length_nil];omega
theorem fA {kvs:List (κ×V)}{k:κ} (v:V) (h:du kvs k=none):putK kvs k v=kvs++[(k,v)]:=by
 unfold putK;rw[kj,h];exact if_neg (by decide)
theorem eX.iG {o:Option V}{u:Option Value} (r:eX o u):o.isSome=u.isSome:=by
 cases o with
 | none=>cases u with
  | none=>rfl
  | some _=>exact (show False from r).elim
 | some _=>cases u with
  | none=>exact (show False from r).elim
  | some _=>rfl
theorem eX.getD {o:Option V}{u:Option Value}{d:V}{d':Value} (r:eX o u) (rd:RelV d d'):RelV (o.getD d) (u.getD d'):=by
 cases o with
 | none=>cases u with
  | none=>exact rd
  | some _=>exact (show False from r).elim
 | some _=>cases u with
  | none=>exact (show False from r).elim
  | some _=>exact r
theorem KV.val {kvs:List (κ×V)}{vs:List (κ×Value)} (r:KV kvs vs) (k:κ):eX (du kvs k) (valueAt vs k):=by
 unfold KV at r
 induction r with
 | nil=>exact True.intro
 | @cons p q ps qs h t ih =>
  obtain⟨h1,h2⟩:=h
  by_cases e:p.1=k
  ·have e':q.1=k:=h1.symm.trans e
   have b:valueAt (q::qs) k=some q.2:=by simp[valueAt,List.find?_cons,e']
   rw[c_ e,b];exact h2
  ·have e':¬ q.1=k:=fun z=>e (h1.trans z)
   have b:valueAt (q::qs) k=valueAt qs k:=by simp[valueAt,List.find?_cons,e']
   rw[aV e,b];exact ih
theorem KV.any {kvs:List (κ×V)}{vs:List (κ×Value)} (r:KV kvs vs) (k:κ):(kvs.any fun kv=>decide (kv.1=k))=vs.any fun kv=>decide (kv.1=k):=by
 unfold KV at r
 induction r with
 | nil=>rfl
 | cons h t ih=>rw[List.any_cons,List.any_cons,ih,h.1]
theorem KV.BS {kvs:List (κ×V)}{vs:List (κ×Value)} (r:KV kvs vs) (k:κ) {y:V}{u:Value} (ry:RelV y u) :
  KV (kvs.map fun kv=>if kv.1=k then (kv.1,y) else kv) (vs.map fun kv=>if kv.1=k then (kv.1,u) else kv):=by
 unfold KV at r ⊢
 induction r with
 | nil=>exact .nil
 | @cons p q ps qs h t ih =>
  rw[List.map_cons,List.map_cons];refine .cons ?_ ih;obtain⟨h1,h2⟩:=h
  by_cases e:p.1=k
  ·rw[if_pos e,if_pos (h1.symm.trans e)];exact⟨h1,ry⟩
  ·rw[if_neg e,if_neg (fun z=>e (h1.trans z))];exact⟨h1,h2⟩
theorem KV.put {kvs:List (κ×V)}{vs:List (κ×Value)} (r:KV kvs vs) (k:κ) {y:V}{u:Value} (ry:RelV y u):KV (putK kvs k y) (stored vs k u):=by
 unfold putK stored;rw[r.any k]
 by_cases e:(vs.any fun kv=>decide (kv.1=k))=true
 ·rw[if_pos e,if_pos e];exact r.BS k ry
 ·rw[if_neg e,if_neg e];exact Paired.snoc r ⟨rfl,ry⟩
theorem KV.drop {kvs:List (κ×V)}{vs:List (κ×Value)} (r:KV kvs vs) (k:κ):KV (iV kvs k) (without vs k):=by
 unfold KV at r ⊢;unfold iV without
 induction r with
 | nil=>exact .nil
 | @cons p q ps qs h t ih =>
  obtain⟨h1,h2⟩:=h;rw[List.filter_cons,List.filter_cons]
  by_cases e:p.1=k
  ·have a:¬ decide (p.1≠k)=true:=by simp[e]
   have b:¬ decide (q.1≠k)=true:=by simp[h1.symm.trans e]
   rw[if_neg a,if_neg b];exact ih
  ·have e':¬ q.1=k:=fun z=>e (h1.trans z)
   have a:decide (p.1≠k)=true:=by simp[e]
   have b:decide (q.1≠k)=true:=by simp[e']
   rw[if_pos a,if_pos b];exact .cons ⟨h1,h2⟩ ih
theorem KV.length {kvs:List (κ×V)}{vs:List (κ×Value)} (r:KV kvs vs):kvs.length=vs.length:=Paired.length r
theorem wG (kvs:List (κ×V)) (k:κ):(iV kvs k).length<=kvs.length:=List.length_filter_le _ _
end
theorem iS {P:Program}{w:World}{k:Key}{u:Value} (r:RelV (kV k) u):(bj P w).is k u=true:=by
 cases k with
 | inl i=>obtain⟨t,e⟩:=(show ∃ t,u=Value.int i t from r);subst e;exact pT P w i t
 | inr x=>obtain⟨t,e⟩:=(show ∃ t,u=Value.str x t from r);subst e;exact ow P w x t
theorem lP {P:Program}{w:World}:∀ {ks:List Key}{us:List Value},Vals (ks.map kV) us->ItemsAre (bj P w) ks us
 | [],_,r=>by rw[List.map_nil] at r;cases r;exact .nil
 | k::ks,_,r=>by
  rw[List.map_cons] at r
  cases r with
  | cons h t=>exact .cons (iS h) (lP t)
noncomputable abbrev KT (H:Hp):List (List Key×V)->List (List Key×Addr×Value)->Prop:=Paired fun p q=>p.1=q.1/\H q.2.1=some (.tup (p.1.map kV))/\RelV p.2 q.2.2
theorem KT.val {H:Hp}{kvs:List (List Key×V)}{xs:List (List Key×Addr×Value)} (r:KT H kvs xs) (k:List Key):eX (du kvs k) ((atKey xs k).map (·.2)):=by
 induction r with
 | nil=>exact True.intro
 | @cons p q ps qs h t ih =>
  obtain⟨h1,_,h2⟩:=h
  by_cases e:p.1=k
  ·have e':q.1=k:=h1.symm.trans e
   have b:atKey (q::qs) k=some q.2:=by simp[atKey,List.find?_cons,e']
   rw[c_ e,b];exact h2
  ·have e':¬ q.1=k:=fun z=>e (h1.trans z)
   have b:atKey (q::qs) k=atKey qs k:=by simp[atKey,List.find?_cons,e']
   rw[aV e,b];exact ih
theorem KT.BS {H:Hp}{kvs:List (List Key×V)}{xs:List (List Key×Addr×Value)} (r:KT H kvs xs) (k:List Key) {y:V}{u:Value} (ry:RelV y u) :
  KT H (kvs.map fun kv=>if kv.1=k then (kv.1,y) else kv) (xs.map (putAt k u)):=by
 induction r with
 | nil=>exact .nil
 | @cons p q ps qs h t ih =>
  rw[List.map_cons,List.map_cons];refine .cons ?_ ih;obtain⟨h1,h2,h3⟩:=h;unfold putAt
  by_cases e:p.1=k
  ·rw[if_pos e,if_pos (h1.symm.trans e)];exact⟨h1,h2,ry⟩
  ·rw[if_neg e,if_neg (fun z=>e (h1.trans z))];exact⟨h1,h2,h3⟩
theorem KT.put {H:Hp}{kvs:List (List Key×V)}{xs:List (List Key×Addr×Value)} (r:KT H kvs xs) (k:List Key) {b:Addr}{y:V}{u:Value} (hb:H b=some (.tup (k.map kV))) (ry:RelV y u) :
  KT H (putK kvs k y) (storedH xs k b u):=by
 have e:(kvs.any fun kv=>decide (kv.1=k))=(atKey xs k).isSome:=by
  rw[kj,(r.val k).iG,Option.isSome_map]
 unfold putK storedH;rw[e]
 by_cases q:(atKey xs k).isSome=true
 ·rw[if_pos q,if_pos q];exact r.BS k ry
 ·rw[if_neg q,if_neg q];exact Paired.snoc r ⟨rfl,hb,ry⟩
theorem KT.keeps {H H':Hp}{kvs:List (List Key×V)}{xs:List (List Key×Addr×Value)} (r:KT H kvs xs) (ht:∀ b ys,H b=some (.tup ys)->H' b=some (.tup ys)):KT H' kvs xs :=
 Paired.yj r fun _ _ z=>⟨z.1,ht _ _ z.2.1,z.2.2⟩
section
variable {P:Program}{w:World}{H:Hp}{h:Heap}{a:Addr}
theorem yR {u:HO} (ok:fq P w H h) (e:Rd H a u):bK P w H h a u:=e.ok ok
theorem fH {kvs:List (Key×V)} (ok:fq P w H h) (e:Rd H a (.dK kvs)):kvs.length<=sizeLine/\(a == sysModules)=false/\∃ vs,KV kvs vs/\h.DictOf (bj P w) a vs :=
 show bK P w H h a (.dK kvs) from yR ok e
theorem rK {kvs:List (Key×V)} (ok:fq P w H h) (e:H a=some (.dK kvs)):kvs.length<=sizeLine/\(a == sysModules)=false/\∃ vs,KV kvs vs/\h.DictOf (bj P w) a vs:=fH ok (.inl e)
theorem kC {ks:List Key} (ok:fq P w H h) (e:H a=some (.tup (ks.map kV))):(tupleKind (bj P w)).is h ks a:=by
 obtain⟨_,its,r,o,h1,h2,n,h3⟩:=(show bK P w H h a (.tup (ks.map kV)) from ok a _ e);exact⟨o,its.toArray,n,h1,h2,h3,by simpa using lP r⟩
theorem kS {kvs:List (List Key×V)} (ok:fq P w H h) (e:Rd H a (.dT kvs)):kvs.length<=sizeLine/\(a == sysModules)=false /\
  ∃ xs,KT H kvs xs/\h.DictOfH (tupleKind (bj P w)) a xs:=by
 obtain⟨z,y,xs,r,o,es,ep,h1,h2,h3,h4,h5⟩:=(show bK P w H h a (.dT kvs) from yR ok e);refine⟨z,y,xs,r,o,es,ep,h1,h2,h3,h4,fun x hx=>?_,h5⟩;have all:∀ {l:List (List Key×V)}{m:List (List Key×Addr×Value)},KT H l m->∀ x∈m,(tupleKind (bj P w)).is h x.1 x.2.1:=by
  intro l m q
  induction q with
  | nil=>intro x hx;exact nomatch hx
  | @cons p q ps qs hq t ih =>
   intro x hx;rcases List.mem_cons.mp hx with e|hx
   ·subst e
    exact kC ok (by rw[<- hq.1];exact hq.2.1)
   ·exact ih x hx
 exact all r x hx
theorem DL {kvs:List (List Key×V)} (ok:fq P w H h) (e:H a=some (.dT kvs)):kvs.length<=sizeLine/\(a == sysModules)=false /\
  ∃ xs,KT H kvs xs/\h.DictOfH (tupleKind (bj P w)) a xs:=kS ok (.inl e)
end
noncomputable def bE (H:Hp) (a:Addr) (y:V) (r:Option V):Prop :=
 (∃ kvs k,Rd H a (.dK kvs)/\y=kV k/\r=du kvs k)\/∃ kvs k b,Rd H a (.dT kvs)/\y=.ref b/\H b=some (.tup (k.map kV))/\r=du kvs k
noncomputable def kK (H:Hp) (a:Addr) (y v:V) (H':Hp):Prop :=
 (∃ kvs k,H a=some (.dK kvs)/\y=kV k/\kvs.length<sizeLine/\H'=upd H a (.dK (putK kvs k v))) \/
 ∃ kvs k b,H a=some (.dT kvs)/\y=.ref b/\H b=some (.tup (k.map kV))/\kvs.length<sizeLine/\H'=upd H a (.dT (putK kvs k v))
theorem bE.k {H:Hp}{a:Addr}{kvs:List (Key×V)}{k:Key} (e:H a=some (.dK kvs)):bE H a (kV k) (du kvs k):=.inl ⟨kvs,k,.inl e,rfl,rfl⟩
theorem kK.k {H:Hp}{a:Addr}{kvs:List (Key×V)}{k:Key}{v:V} (e:H a=some (.dK kvs)) (hl:kvs.length<sizeLine):kK H a (kV k) v (upd H a (.dK (putK kvs k v))):=.inl ⟨kvs,k,e,rfl,hl,rfl⟩
section
variable {X:Cx}{pins:List (Addr×Obj)}{σ:St}{H:Hp}{s:Shared}{a:Addr}{y v:V}{u r:Value}{o:Option V}{A:Around}{E:Value->Shared->Prop}
theorem Inv.big (I:Inv X pins σ H s):sysModules<s.heap.objs.size:=by
 have h:mainGlobals<s.heap.objs.size:=(I.mod.glob.keeps I.bk).lt;exact Nat.lt_trans (by decide) h
theorem tK {Q:Value->Shared->Prop} (hu:A.units+1<cLine) (I:Inv X pins σ H s) (g:bE H a y (some v)) (ry:RelV y u) (h:∀ w' s',Inv X pins σ H s'->RelV v w'->Q w' s') :
  wpAny (model X.prog X.w) A (getItem (.ref a) u) Q E s:=by
 rcases g with ⟨kvs,k,e,ey,l⟩|⟨kvs,k,b,e,ey,eb,l⟩
 ·subst ey
  obtain⟨z,hd,vs,rel,dd⟩:=fH I.hok e;obtain⟨w',hw,rw'⟩:=eX.some_of (v:=v) (o:=valueAt vs k) (by rw[l];exact rel.val k);exact wpAny_getItem_of (iS ry) dd.mapOf hw (h w' _ (I.tok _) rw')
 ·subst ey
  cases (show u=Value.ref b from ry);obtain⟨z,hd,xs,rel,dd⟩:=kS I.hok e;obtain⟨w',hw,rw'⟩:=eX.some_of (v:=v) (o:=(atKey xs k).map (·.2)) (by rw[l];exact rel.val k);obtain⟨p,hp,hp2⟩:=Option.map_eq_some_iff.mp hw;refine wpAny_getItem_heap (tupleKind_room_in1 hu) (kC I.hok eb) dd hp ?_;rw[hp2];exact h w' _ (I.tok _) rw'
theorem xk {Q:Value->Shared->Prop} (hu:A.units+1<cLine) (I:Inv X pins σ H s) (g:bE H a y o) (ry:RelV y u) (h:∀ s',Inv X pins σ H s'->Q (.bool (!o.isSome)) s') :
  wpAny (model X.prog X.w) A (compareOp .NotIn u (.ref a)) Q E s:=by
 rcases g with ⟨kvs,k,e,ey,l⟩|⟨kvs,k,b,e,ey,eb,l⟩
 ·subst ey
  obtain⟨z,hd,vs,rel,dd⟩:=fH I.hok e;refine wpAny_notIn_of (iS ry) hd dd.mapOf ?_;rw[<- (rel.val k).iG,<- l];exact h _ (I.tok _)
 ·subst ey
  cases (show u=Value.ref b from ry);obtain⟨z,hd,xs,rel,dd⟩:=kS I.hok e;refine wpAny_notIn_heap (tupleKind_room_in1 hu) (kC I.hok eb) hd dd ?_;have q:=(rel.val k).iG;rw[Option.isSome_map] at q;rw[<- q,<- l];exact h _ (I.tok _)
theorem jr {h':Heap}{t':Nat}{ob:HO} (I:Inv X pins σ H s) (mu:CK (H a)) (hs:Heap.SameBut a s.heap h') (he:∃ q,h'.get? a=some q) (new:bK X.prog X.w (upd H a ob) h' a ob) :
  Inv X pins σ (upd H a ob) { s with heap:=h',toks:=t' } :=
 I.write (x:=a) (e:=a) mu (.inl rfl) (fun b q hb z=>(hs.2 b hb).trans z) he new
theorem nh {P:Program}{w:World}{H':Hp}{h':Heap}{kvs:List (Key×V)}{vs:List (Key×Value)} (z:kvs.length<=sizeLine) (hd:(a == sysModules)=false) (rel:KV kvs vs) (dd:h'.DictOf (bj P w) a vs) :
  bK P w H' h' a (.dK kvs):=⟨z,hd,vs,rel,dd⟩
theorem sW {H':Hp}{Q:Unit->Shared->Prop} (hu:A.units+1<cLine) (I:Inv X pins σ H s) (g:kK H a y v H') (ry:RelV y u) (rv:RelV v r) (h:∀ s',Inv X pins σ H' s'->Q () s') :
  wpAny (model X.prog X.w) A (setItem (.ref a) u r) Q E s:=by
 rcases g with ⟨kvs,k,e,ey,l,eH⟩|⟨kvs,k,b,e,ey,eb,l,eH⟩
 ·subst ey eH
  obtain⟨z,hd,vs,rel,dd⟩:=rK I.hok e;have hz:vs.length<=sizeLine:=by rw[<- rel.length];exact z
  have hl:(putK kvs k v).length<=sizeLine:=by have:=fO kvs k v;omega
  refine wpAny_setItem_pairs (hsz:=hz) (iS ry) dd fun h' dd' hs=>h _ ?_;have he:∃ q,h'.get? a=some q:=let ⟨q,_,_,hq,_⟩:=dd';⟨q,hq⟩;exact jr I (by rw[e];exact True.intro) hs he (nh hl hd (rel.put k rv) dd')
 ·subst ey eH
  cases (show u=Value.ref b from ry);obtain⟨z,hd,xs,rel,dd⟩:=DL I.hok e;have hz:xs.length<=sizeLine:=by rw[<- Paired.length rel];exact z
  have hl:(putK kvs k v).length<=sizeLine:=by have:=fO kvs k v;omega
  refine wpAny_setItem_heap (hsz:=hz) (tupleKind_room_in1 hu) (kC I.hok eb) dd fun h' dd' hs=>h _ ?_;obtain⟨q,es,ep,hq,h2,h3,h4,_,h5⟩:=dd';refine jr I (by rw[e];exact True.intro) hs ⟨q,hq⟩ ⟨hl,hd,_,(rel.put k eb rv).keeps fun c ys ec=>?_,q,es,ep,hq,h2,h3,h4,h5⟩;rw[ah (bO ec e (fun z=>nomatch z))];exact ec
end
section
variable {X:Cx}{pins:List (Addr×Obj)}{σ:St}{H:Hp}{s:Shared}{a:Addr}{kvs:List (Key×V)}{k:Key}{u:Value}{A:Around}{E:Value->Shared->Prop}
theorem zf {v:V}{more:List Value}{Q:Value->Shared->Prop} (I:Inv X pins σ H s) (e:H a=some (.dK kvs)) (ry:RelV (kV k) u) (l:du kvs k=some v) (hm:more=[]\/∃ x,more=[x])
  (h:∀ w' s',Inv X pins σ (upd H a (.dK (iV kvs k))) s'->RelV v w'->Q w' s'):wpAny (model X.prog X.w) A (call (.builtin "dict.pop") (.ref a::u::more)) Q E s:=by
 obtain⟨z,hd,vs,rel,dd⟩:=rK I.hok e;obtain⟨w',hw,rw'⟩:=eX.some_of (v:=v) (o:=valueAt vs k) (by rw[<- l];exact rel.val k);have hp:(keyPart u).isSome=true:=by
  cases k with
  | inl i=>obtain⟨t,q⟩:=(show ∃ t,u=Value.int i t from ry);subst q;rfl
  | inr x=>obtain⟨t,q⟩:=(show ∃ t,u=Value.str x t from ry);subst q;rfl
 have ha:argsOk "dict.pop" ⟨.ref a::u::more,[]⟩:=by
  rcases hm with q|⟨x,q⟩
  ·subst q;exact PySem.F.args_dict_pop_2 _ _
  ·subst q;exact PySem.F.args_dict_pop_3 _ _ _
 refine call_meetsIn PySem.F.slot_dict_pop dd.typeIs PySem.F.entry_dict_pop ha (meets_dict_pop_there (bj X.prog X.w) a (iS ry) more hm hp)
  ⟨vs,w',dd,by rw[<- rel.length];exact z,hw,fun h' dd' hs=>h w' _ ?_ rw'⟩
 have he:∃ q,h'.get? a=some q:=let ⟨q,_,_,hq,_⟩:=dd';⟨q,hq⟩;exact jr I (by rw[e];exact True.intro) hs he (nh (Nat.le_trans (wG kvs k) z) hd (rel.drop k) dd')
theorem zx {r:Value}{Q:Value->Shared->Prop} (I:Inv X pins σ H s) (e:H a=some (.dK kvs)) (ry:RelV (kV k) u) (l:du kvs k=none) (h:∀ s',Inv X pins σ H s'->Q r s') :
  wpAny (model X.prog X.w) A (call (.builtin "dict.pop") [.ref a,u,r]) Q E s:=by
 obtain⟨z,hd,vs,rel,dd⟩:=rK I.hok e;have hn:valueAt vs k=none:=eX.none_of (by rw[<- l];exact rel.val k);have hp:(keyPart u).isSome=true:=by
  cases k with
  | inl i=>obtain⟨t,q⟩:=(show ∃ t,u=Value.int i t from ry);subst q;rfl
  | inr x=>obtain⟨t,q⟩:=(show ∃ t,u=Value.str x t from ry);subst q;rfl
 exact call_meetsIn PySem.F.slot_dict_pop dd.typeIs PySem.F.entry_dict_pop (PySem.F.args_dict_pop_3 _ _ _) (meets_dict_pop_default (bj X.prog X.w) a (iS ry) hd hp r) ⟨vs,dd,hn,h _ (I.tok _)⟩
theorem Em {Q:Value->Shared->Prop} (I:Inv X pins σ H s) (e:Rd H a (.dK kvs)) (h:∀ t s',Inv X pins σ H s'->Q (.int kvs.length t) s'):wpAny (model X.prog X.w) A (call (.builtin "len") [.ref a]) Q E s:=by
 obtain⟨z,hd,vs,rel,dd⟩:=fH I.hok e;refine call_len_dict hd dd (by rw[<- rel.length];rw[sizeLine_eq] at z;omega) ?_;rw[<- rel.length];exact h _ _ (I.tok _)
end
noncomputable def Ew (i:Expr):Prop:=∀ ov iv,subscripted i false ov iv=operate [ov,iv] (getItem ov iv)
theorem xy {prog:Program}{w:World}{A:Around}{E:Value->Shared->Prop}{s:Shared}{env:Env}{value slice:Expr}{pos:Pos}{T id:String}{Q:Value->Shared->Prop}
  (hl:typeLookup (.type T) "__getitem__"=pure (some (.builtin id))) (hs:Ew slice)
  (h:wpAny (model prog w) A (eval value env) (fun o s₁=>wpAny (model prog w) A (eval slice env) (fun i s₂=>s₂.TypeIs o T/\wpAny (model prog w) A (getItem o i) Q E s₂) E s₁) E s) :
  wpAny (model prog w) A (eval (.Subscript value slice pos) env) Q E s:=by
 refine Subscript_ (wpAny_mono h (fun o s₁ h₁=>wpAny_mono h₁ (fun i s₂ h₂=>?_) fun _ _ x=>x) fun _ _ x=>x);obtain⟨hT,h₂⟩:=h₂;unfold subscriptTail;refine wpAny_bind ?_;rw[getitemInPython_of_ne hT.not_modules];refine wpAny_bind (wpAny_specialOf hT hl ?_);have fin:wpAny (model prog w) A (subscripted slice false o i) (fun r s₃=>wpAny (model prog w) A (letTemporaryGo value o r >>= fun _=>pure r) Q E s₃) E s₂:=by
  rw[hs o i];exact wpAny_operating (wpAny_mono h₂ (fun r s₃ h₃=>wpAny_bind (wpAny_letTemporaryGo (wpAny_pure h₃))) fun _ _ x=>x)
 first
  | exact wpAny_pure (wpAny_bind fin)
  | exact wpAny_bind (wpAny_pure (wpAny_bind fin))
  | exact wpAny_bind fin
theorem pH {X:Cx}{pins:List (Addr×Obj)}{σ:St}{H:Hp}{s:Shared}{a:Addr}{y:V}{o:Option V} (I:Inv X pins σ H s) (g:bE H a y o):s.TypeIs (.ref a) "dict":=by
 rcases g with ⟨kvs,k,e,_,_⟩|⟨kvs,k,b,e,_,_,_⟩
 ·obtain⟨_,_,vs,_,dd⟩:=fH I.hok e
  exact dd.typeIs
 ·obtain⟨_,_,xs,_,dd⟩:=kS I.hok e
  exact dd.typeIs
noncomputable def vB (td ty:TE):TE:=fun σ H Q=>td σ H fun x H1=>ty σ H1 fun y H2=>∃ a v,x=.ref a/\bE H2 a y (some v)/\Q v H2
noncomputable def F6 (ty td:TE):TE:=fun σ H Q=>ty σ H fun y H1=>td σ H1 fun x H2=>∃ a o,x=.ref a/\bE H2 a y o/\Q (.bl o.isSome) H2
noncomputable def nL (ty td:TE):TE:=fun σ H Q=>ty σ H fun y H1=>td σ H1 fun x H2=>∃ a o,x=.ref a/\bE H2 a y o/\Q (.bl (!o.isSome)) H2
noncomputable def uB (td ty tv:TE):TS:=fun D σ H=>tv σ H fun v H1=>td σ H1 fun x H2=>ty σ H2 fun y H3=>∃ a H4,x=.ref a/\kK H3 a y v H4/\D.nx σ H4
section
variable {X:Cx}{o i e value:Expr}{pos pos' tpos:Pos}{td ty tv:TE}
theorem bu (hu:X.A.units+1<cLine) (ho:PE X o td) (hi:PE X i ty) (hs:Ew i):PE X (.Subscript o i pos) (vB td ty):=by
 intro pins s σ H Q I h;refine xy PySem.F.slot_dict_getitem.lookup hs (bC (ho pins s σ H _ I h) fun u s1 ⟨x,H1,I1,rx,q1⟩=>bC (hi pins s1 σ H1 _ I1 q1) fun iv s2 ⟨y,H2,I2,ry,a,v,ex,g,q2⟩=>?_);subst ex;obtain rfl:u=Value.ref a:=rx;exact⟨pH I2 g,tK hu I2 g ry fun w' s3 I3 rw'=>⟨v,H2,I3,rw',q2⟩⟩
theorem tT (hu:X.A.units+1<cLine) (hi:PE X i ty) (ho:PE X o td):PC X .NotIn i o (nL ty td):=by
 intro pins s σ H Q I h;refine bC (hi pins s σ H _ I h) fun iv s1 ⟨y,H1,I1,ry,q1⟩=>bC (ho pins s1 σ H1 _ I1 q1) fun u s2 ⟨x,H2,I2,rx,a,ov,ex,g,q2⟩=>?_;subst ex;obtain rfl:u=Value.ref a:=rx;exact xk hu I2 g ry fun s3 I3=>⟨.bl (!ov.isSome),H2,I3,rfl,q2⟩
theorem jv (hu:X.A.units+1<cLine) (ho:PE X o td) (hi:PE X i ty) (hv:PE X value tv) (hs:swapsWith value (some (.Subscript o i pos')) pos.line X.env=pure false) :
  PS X (.Assign [.Subscript o i pos'] value pos) (uB td ty tv):=by
 intro pins s σ H D I h;refine wpAny_Assign_Subscript (bC (hv pins s σ H _ I h) fun r s1 ⟨v,H1,I1,rv,q1⟩=>bC (ho pins s1 σ H1 _ I1 q1) fun u s2 ⟨x,H2,I2,rx,q2⟩=>bC (hi pins s2 σ H2 _ I2 q2) fun iv s3 ⟨y,H3,I3,ry,a,H4,ex,g,q3⟩=>?_) hs;subst ex;obtain rfl:u=Value.ref a:=rx;exact sW hu I3 g ry rv fun s4 I4=>⟨σ,H4,I4,q3⟩
end
theorem pC {P:Program}{w:World}{H:Hp} (h:Heap) (hb:sysModules<h.objs.size):bK P w H (h.push { cls:=.type "dict",data:=.dict #[] }) h.objs.size (.dK []) :=
 ⟨Nat.zero_le _,beq_eq_false_iff_ne.mpr (Ne.symm (Nat.ne_of_lt hb)),[],.nil,Heap.DictOf.new h⟩
noncomputable def qK:TE:=fun _ H Q=>∀ p,H p=none->Q (.ref p) (upd H p (.dK []))
section
variable {X:Cx}{pos:Pos}
theorem jR:PE X (.Dict [] [] pos) qK:=fun pins s σ H Q I h =>
 wpAny_Dict_empty ⟨.ref s.heap.objs.size,_,I.laid (a:=s.heap.objs.size) (o:=.dK []) (t':=s.toks) (fun _ _ q=>Heap.get?_push_of_some _ q) (Nat.le_refl _) (pC s.heap I.big),rfl,h _ (I.hok.fresh (Nat.le_refl _))⟩
end
noncomputable def jV:List (TE×TE)->St->Hp->(List (V×V)->Hp->Prop)->Prop
 | [],_,H,Q=>Q [] H
 | (tk,tv)::r,σ,H,Q=>tk σ H fun x H1=>tv σ H1 fun y H2=>jV r σ H2 fun ps H3=>Q ((x,y)::ps) H3
noncomputable abbrev VV:List (V×V)->List (Value×Value)->Prop:=Paired fun p q=>RelV p.1 q.1/\RelV p.2 q.2
noncomputable def CM (X:Cx) (pos:Pos) (keys:List (Option Expr)) (values:List Expr) (trs:List (TE×TE)):Prop :=
 ∀ (pins:List (Addr×Obj)) (s:Shared) (σ:St) (H:Hp) (Q:List (V×V)->Hp->Prop),Inv X pins σ H s->jV trs σ H Q ->
  wpAny (model X.prog X.w) X.A (evalPairs (pairTrees keys values X.env pos)) (fun vs s'=>∃ ps H',Inv X pins σ H' s'/\VV ps vs/\Q ps H') X.xe s
theorem xq {X:Cx}{pos:Pos}:CM X pos [] [] []:=fun pins s σ H Q I h=>pairTrees_nil_walk ⟨[],H,I,.nil,h⟩
theorem fT {X:Cx}{pos:Pos}{k v:Expr}{ks:List (Option Expr)}{vs:List Expr}{tk tv:TE}{trs:List (TE×TE)} (hk:PE X k tk) (hv:PE X v tv) (hr:CM X pos ks vs trs) :
  CM X pos (some k::ks) (v::vs) ((tk,tv)::trs):=fun pins s σ H Q I h =>
 pairTrees_cons_walk (bC (hk pins s σ H _ I h) fun u s1 ⟨x,H1,I1,rx,q1⟩=>bC (hv pins s1 σ H1 _ I1 q1) fun w2 s2 ⟨y,H2,I2,ry,q2⟩ =>
  bC (hr pins s2 σ H2 _ I2 q2) fun ws s3 ⟨ps,H3,I3,rel,q3⟩=>⟨(x,y)::ps,H3,I3,.cons ⟨rx,ry⟩ rel,q3⟩)
noncomputable def gM (kvs more:List (Key×V)):List (Key×V):=more.foldl (fun acc kv=>putK acc kv.1 kv.2) kvs
theorem KV.merge:∀ {more:List (Key×V)}{rs:List (Key×Value)}{kvs:List (Key×V)}{vs:List (Key×Value)},KV more rs->KV kvs vs->KV (gM kvs more) (merged vs rs):=by
 intro more rs kvs vs r;unfold KV at r
 induction r generalizing kvs vs with
 | nil=>intro q;exact q
 | @cons p q ps qs h t ih =>
  intro r0;have e:KV (putK kvs p.1 p.2) (stored vs q.1 q.2):=by
   have:=r0.put p.1 h.2;rw[<- h.1];exact this
  exact ih e
theorem gv:∀ (more kvs:List (Key×V)),(gM kvs more).length<=kvs.length+more.length
 | [],kvs=>by show kvs.length<=kvs.length+0;omega
 | p::r,kvs=>by
  have h1:=gv r (putK kvs p.1 p.2);have h2:=fO kvs p.1 p.2;show (gM (putK kvs p.1 p.2) r).length<=_;rw[List.length_cons];omega
theorem jU {P:Program}{w:World}:∀ {kvs:List (Key×V)}{ws:List (Value×Value)},VV (kvs.map fun kv=>(kV kv.1,kv.2)) ws->∃ rs,Carries (bj P w) ws rs/\KV kvs rs
 | [],_,r=>by rw[List.map_nil] at r;cases r;exact⟨[],True.intro,.nil⟩
 | p::kvs,_,r=>by
  rw[List.map_cons] at r
  cases r with
  | @cons a b as bs h t =>
   obtain⟨rs,c,q⟩:=jU (P:=P) (w:=w) t;obtain⟨b1,b2⟩:=b;exact⟨(p.1,b2)::rs,⟨iS h.1,rfl,c⟩,.cons ⟨rfl,h.2⟩ q⟩
noncomputable def uY (trs:List (TE×TE)):TE:=fun σ H Q=>∀ p,H p=none->jV trs σ (upd H p (.dK [])) fun ps H2=>H2 p=some (.dK [])/\∃ kvs:List (Key×V),ps=kvs.map (fun kv=>(kV kv.1,kv.2))/\kvs.length<=15/\Q (.ref p) (upd H2 p (.dK (gM [] kvs)))
theorem yB {X:Cx}{pos:Pos}{keys:List (Option Expr)}{values:List Expr}{trs:List (TE×TE)} (h:CM X pos keys values trs) (hall:keys.all (·.isSome)=true) (hl:keys.length=values.length) (h0:keys≠[])
  (h15:keys.length<=15):PE X (.Dict keys values pos) (uY trs):=by
 intro pins s σ H Q I q;have hn:=I.hok.fresh (Nat.le_refl s.heap.objs.size);have I1:=I.laid (a:=s.heap.objs.size) (o:=.dK []) (h':=s.heap.push { cls:=.type "dict",data:=.dict #[] }) (t':=s.toks) (fun _ _ q=>Heap.get?_push_of_some _ q) (Nat.le_refl _) (pC s.heap I.big);refine wpAny_Dict_walk (knd:=bj X.prog X.w) hall hl h0 h15 (bC (h pins _ σ _ _ I1 (q _ hn)) fun ws s2 ⟨ps,H2,I2,rel,e,kvs,ep,lk,q2⟩=>?_);subst ep;obtain⟨rs,c,rk⟩:=jU (P:=X.prog) (w:=X.w) rel;obtain⟨z,hd,vs0,r0,dd⟩:=rK I2.hok e
 cases r0;refine⟨rs,c,dd,fun h' dd' hs=>⟨.ref s.heap.objs.size,_,?_,rfl,q2⟩⟩;have hz:(gM [] kvs).length<=sizeLine:=by
  have h1:=gv kvs [];rw[List.length_nil] at h1;rw[sizeLine_eq];omega
 have he:∃ q,h'.get? s.heap.objs.size=some q:=let ⟨q,_,_,hq,_⟩:=dd';⟨q,hq⟩;exact jr I2 (by rw[e];exact True.intro) hs he (nh hz hd (rk.merge .nil) dd')
structure M1 (X:Cx) (o:Expr) (m:Str) (apos:Pos) (e:Expr) (cpos:Pos):Prop where
 base:attributeBase o m X.env (eval o X.env)=eval o X.env
 few:((backTo cpos (starEach [e] X.env)).all (fun x=>!x.1) && (backToKw cpos (keywordEach [] X.env)).all (fun x=>x.1.isSome)
  && decide (([e]:List Expr).length+([]:List Keyword).length+(if ([]:List Keyword).isEmpty then 0 else 1)<30))=true
 line:(apos.endLine == cpos.line)=true
 trees:backTo cpos (starEach [e] X.env)=[(false,eval e X.env)]
structure M2 (X:Cx) (o:Expr) (m:Str) (apos:Pos) (e f:Expr) (cpos:Pos):Prop where
 base:attributeBase o m X.env (eval o X.env)=eval o X.env
 few:((backTo cpos (starEach [e,f] X.env)).all (fun x=>!x.1) && (backToKw cpos (keywordEach [] X.env)).all (fun x=>x.1.isSome)
  && decide (([e,f]:List Expr).length+([]:List Keyword).length+(if ([]:List Keyword).isEmpty then 0 else 1)<30))=true
 line:(apos.endLine == cpos.line)=true
 trees:backTo cpos (starEach [e,f] X.env)=[(false,eval e X.env),(false,eval f X.env)]
noncomputable def EN (H:Hp) (a:Addr):Prop:=(∃ kvs,Rd H a (.dK kvs))\/∃ kvs,Rd H a (.dT kvs)
theorem qH {X:Cx}{pins:List (Addr×Obj)}{σ:St}{H:Hp}{s:Shared}{a:Addr} (I:Inv X pins σ H s) (d:EN H a) :
  s.TypeIs (.ref a) "dict"/\(∀ b,Value.ref a=.ref b->∃ ob,s.heap.get? b=some ob/\ob.dict=none)/\(a == sysModules)=false:=by
 rcases d with ⟨kvs,e⟩|⟨kvs,e⟩
 ·obtain⟨_,hd,vs,_,dd⟩:=fH I.hok e
  refine⟨dd.typeIs,fun b q=>?_,hd⟩
  cases q;obtain⟨ob,_,_,h1,h2,_⟩:=dd;exact⟨ob,h1,h2.2.1⟩
 ·obtain⟨_,hd,xs,_,dd⟩:=kS I.hok e
  refine⟨dd.typeIs,fun b q=>?_,hd⟩
  cases q;obtain⟨ob,_,_,h1,h2,_⟩:=dd;exact⟨ob,h1,h2.2.1⟩
section
variable {X:Cx}{pins:List (Addr×Obj)}{σ:St}{H:Hp}{s:Shared}{a:Addr}{y d:V}{u r:Value}{o:Option V}{A:Around}{E:Value->Shared->Prop}
theorem As {Q:Value->Shared->Prop} (hu:A.units+1<cLine) (I:Inv X pins σ H s) (g:bE H a y o) (ry:RelV y u) (h:∀ w' s',Inv X pins σ H s'->RelV (o.getD .non) w'->Q w' s') :
  wpAny (model X.prog X.w) A (call (.builtin "dict.get") [.ref a,u]) Q E s:=by
 rcases g with ⟨kvs,k,e,ey,l⟩|⟨kvs,k,b,e,ey,eb,l⟩
 ·subst ey
  obtain⟨z,hd,vs,rel,dd⟩:=fH I.hok e;refine call_meetsIn PySem.F.slot_dict_get dd.typeIs PySem.F.entry_dict_get (PySem.F.args_dict_get_2 _ _) (meets_dict_get (bj X.prog X.w) a (iS ry) hd) ⟨_,dd.mapOf,h _ _ (I.tok _) ?_⟩;rw[l];exact (rel.val k).getD rfl
 ·subst ey
  cases (show u=Value.ref b from ry);obtain⟨z,hd,xs,rel,dd⟩:=kS I.hok e;refine call_meetsIn PySem.F.slot_dict_get dd.typeIs PySem.F.entry_dict_get (PySem.F.args_dict_get_2 _ _) (meetsH_dict_get (tupleKind (bj X.prog X.w)) a b hd) ⟨tupleKind_room_in1 hu,k,xs,kC I.hok eb,dd,h _ _ (I.tok _) ?_⟩;rw[l];exact (rel.val k).getD rfl
end
noncomputable def qk (td ty:TE):TE:=fun σ H Q=>td σ H fun x H1=>∃ a,x=.ref a/\EN H1 a/\ty σ H1 fun y H2=>∃ o,bE H2 a y o/\Q (o.getD .non) H2
noncomputable def qm (td ty:TE):TE:=fun σ H Q=>td σ H fun x H1=>∃ a,x=.ref a/\EN H1 a/\ty σ H1 fun y H2=>∃ kvs k v,H2 a=some (.dK kvs)/\y=kV k/\du kvs k=some v/\Q v (upd H2 a (.dK (iV kvs k)))
noncomputable def v_ (td ty tx:TE):TE:=fun σ H Q=>td σ H fun x H1=>∃ a,x=.ref a/\EN H1 a/\ty σ H1 fun y H2=>tx σ H2 fun z H3=>∃ kvs k,H3 a=some (.dK kvs)/\y=kV k /\
 (∀ v,du kvs k=some v->Q v (upd H3 a (.dK (iV kvs k))))/\(du kvs k=none->Q z H3)
section
variable {X:Cx}{o e f:Expr}{apos cpos:Pos}{td ty tx:TE}
theorem bV (hu:X.A.units+1<cLine) (ho:PE X o td) (he:PE X e ty) (m:M1 X o "get" apos e cpos):PE X (.Call (.Attribute o "get" apos) [e] [] cpos) (qk td ty):=by
 intro pins s σ H Q I h;refine wpAny_Call_method m.base m.few m.line PySem.F.plainAttrs_dict PySem.F.slot_dict_get PySem.F.type_dict_get (bC (ho pins s σ H _ I h) fun u s1 ⟨x,H1,I1,rx,a,ex,d,q1⟩=>?_);subst ex;obtain rfl:u=Value.ref a:=rx;obtain⟨t1,t2,_⟩:=qH I1 d;refine⟨t1,t2,?_⟩;rw[m.trees];refine Calls.callWith_builtin rfl (Calls.evalArgs_plain (Calls.spliced_cons (bC (he pins s1 σ H1 _ I1 q1) fun iv s2 ⟨y,H2,I2,ry,ov,g,q2⟩=>Calls.spliced_nil ?_)));exact As hu I2 g ry fun w' s3 I3 rw'=>⟨_,H2,I3,rw',q2⟩
theorem oy (ho:PE X o td) (he:PE X e ty) (m:M1 X o "pop" apos e cpos):PE X (.Call (.Attribute o "pop" apos) [e] [] cpos) (qm td ty):=by
 intro pins s σ H Q I h;refine wpAny_Call_method m.base m.few m.line PySem.F.plainAttrs_dict PySem.F.slot_dict_pop PySem.F.type_dict_pop (bC (ho pins s σ H _ I h) fun u s1 ⟨x,H1,I1,rx,a,ex,d,q1⟩=>?_);subst ex;obtain rfl:u=Value.ref a:=rx;obtain⟨t1,t2,_⟩:=qH I1 d;refine⟨t1,t2,?_⟩;rw[m.trees];refine Calls.callWith_builtin rfl (Calls.evalArgs_plain (Calls.spliced_cons (bC (he pins s1 σ H1 _ I1 q1) fun iv s2 ⟨y,H2,I2,ry,kvs,k,v,ea,ey,l,q2⟩=>Calls.spliced_nil ?_)));subst ey;exact zf I2 ea ry l (.inl rfl) fun w' s3 I3 rw'=>⟨v,_,I3,rw',q2⟩
theorem vF (ho:PE X o td) (he:PE X e ty) (hf:PE X f tx) (m:M2 X o "pop" apos e f cpos):PE X (.Call (.Attribute o "pop" apos) [e,f] [] cpos) (v_ td ty tx):=by
 intro pins s σ H Q I h;refine wpAny_Call_method m.base m.few m.line PySem.F.plainAttrs_dict PySem.F.slot_dict_pop PySem.F.type_dict_pop (bC (ho pins s σ H _ I h) fun u s1 ⟨x,H1,I1,rx,a,ex,d,q1⟩=>?_);subst ex;obtain rfl:u=Value.ref a:=rx;obtain⟨t1,t2,_⟩:=qH I1 d;refine⟨t1,t2,?_⟩;rw[m.trees];refine Calls.callWith_builtin rfl (Calls.evalArgs_plain (Calls.spliced_cons (bC (he pins s1 σ H1 _ I1 q1) fun iv s2 ⟨y,H2,I2,ry,q2⟩ =>
  Calls.spliced_cons (bC (hf pins s2 σ H2 _ I2 q2) fun fv s3 ⟨z,H3,I3,rz,kvs,k,ea,ey,q3,q4⟩=>Calls.spliced_nil ?_))))
 subst ey
 cases l:du kvs k with
 | some v=>exact zf I3 ea ry l (.inr ⟨fv,rfl⟩) fun w' s4 I4 rw'=>⟨v,_,I4,rw',q3 v l⟩
 | none=>exact zx I3 ea ry l fun s4 I4=>⟨z,H3,I4,rz,q4 l⟩
end
section
variable {X:Cx}{pins:List (Addr×Obj)}{σ:St}{H:Hp}{s:Shared}{a:Addr}{kvs:List (Key×V)}{A:Around}{E:Value->Shared->Prop}
theorem vJ {Q:Value->Shared->Prop} (I:Inv X pins σ H s) (e:Rd H a (.dK kvs)) (h:∀ p s',H p=none->Inv X pins σ (upd H p (.dK kvs)) s'->Q (.ref p) s'):wpAny (model X.prog X.w) A (call (.type "dict") [.ref a]) Q E s:=by
 obtain⟨z,hd,vs,rel,dd⟩:=fH I.hok e;refine kt_call_dict hd dd (by rw[<- rel.length];exact z) fun h' dd' hs=>?_;refine h _ _ (I.hok.fresh (Nat.le_refl _)) (I.laid (a:=s.heap.objs.size) (o:=.dK kvs) (t':=s.toks) (fun b q hq=>?_) (Nat.le_refl _) (nh z (beq_eq_false_iff_ne.mpr (Ne.symm (Nat.ne_of_lt I.big))) rel dd'));exact (hs.2 b (Nat.ne_of_lt (Heap.lt_size hq))).trans (Heap.get?_push_of_some _ hq)
end
section
variable {X:Cx}{pins:List (Addr×Obj)}{σ:St}{H:Hp}{s:Shared}{a:Addr}{y:V}{u:Value}{A:Around}{E:Value->Shared->Prop}
end
end L2
namespace HT
open PySem PyProof.Rows
section
open PySem.SeqAt
open PySem.AutoSeq1 (wpAny_loadPart')
open PySem.MeetsSeq PySem.MeetsSeq2 PySem.MeetsSeq3
end
section
variable {prog:Program}{w:World}{A:Around}{E:Value->Shared->Prop}{s:Shared}
noncomputable def cL (n d:Nat):Option Int->Nat
 | none=>d
 | some v=>if v<0 then (v+(n:Int)).toNat else min v.toNat n
theorem uz (n d:Nat):cL n d none=d:=rfl
theorem nP (n d k:Nat):cL n d (some (k:Int))=min k n:=by
 show (if (k:Int)<0 then ((k:Int)+(n:Int)).toNat else min (k:Int).toNat n)=min k n;rw[if_neg (by omega),Int.toNat_natCast]
theorem Bn (n d:Nat) (hd:d<=n) (o:Option Int):cL n d o<=n:=by
 cases o with
 | none=>exact hd
 | some v =>
  show (if v<0 then (v+(n:Int)).toNat else min v.toNat n)<=n
  by_cases hv:v<0
  ·rw[if_pos hv];omega
  ·rw[if_neg hv];exact Nat.min_le_right _ _
theorem si (v:Int) (n d:Nat):(if v<0 then max (v+(n:Int)) 0 else min v (n:Int))=((cL n d (some v):Nat):Int):=by
 show (if v<0 then max (v+(n:Int)) 0 else min v (n:Int))=(((if v<0 then (v+(n:Int)).toNat else min v.toNat n):Nat):Int)
 by_cases hv:v<0
 ·simp only[if_pos hv];omega
 ·simp only[if_neg hv];omega
theorem rF (lo hi:Option Int) (n:Nat):Builtin.Slice.sliceAdjust lo hi 1 (n:Int)=(((cL n 0 lo:Nat):Int),((cL n n hi:Nat):Int)):=by
 have h1:¬ ((1:Int)<0):=by omega
 unfold Builtin.Slice.sliceAdjust;simp only[h1,if_false];refine Prod.ext ?_ ?_
 ·cases lo with
  | none=>rfl
  | some v=>exact si v n 0
 ·cases hi with
  | none=>rfl
  | some v=>exact si v n n
theorem rg (i j:Nat):Builtin.Slice.slicePlaces (i:Int) (j:Int) 1=j - i:=by
 unfold Builtin.Slice.slicePlaces;have h1:(1:Int) > 0:=by omega
 simp only[h1,if_true,Int.ediv_one]
 split <;> omega
theorem kE {v:Value}{o:Option Int}{Q:Option Int->Shared->Prop} (p:IsPart v o) (h:Q o s):wpAny (model prog w) A (Builtin.Slice.slicePartIndex v) Q E s:=by
 cases p with
 | none=>exact slicePart_none h
 | int i t=>exact slicePart_int h
theorem iH {sl:Addr}{vl vu:Value}{lo hi:Option Int}{n:Nat}{Q:Int×Int×Nat->Shared->Prop} (hs:s.heap.IsSliceOf sl vl vu .none) (pl:IsPart vl lo) (pu:IsPart vu hi)
  (h:Q (((cL n 0 lo:Nat):Int),1,cL n n hi - cL n 0 lo) s):wpAny (model prog w) A (Builtin.Slice.sliceApplied (.ref sl) (pure (n:Int))) Q E s:=by
 obtain⟨os,hos,hcs,hds⟩:=id hs;unfold Builtin.Slice.sliceApplied Builtin.Slice.sliceFields;refine wpAny_bind (wpAny_bind (wpAny_field hos hds (x:=vl) rfl (wpAny_bind (wpAny_field hos hds (x:=vu) rfl (wpAny_bind (wpAny_field hos hds (x:=.none) rfl (wpAny_pure ?_)))))));refine wpAny_bind (slicePart_none ?_);show wpAny _ _ (if ((1:Int) == 0)=true then _ else _) _ _ s;rw[if_neg (by decide)];refine wpAny_bind (kE pl (wpAny_bind (kE pu (wpAny_bind (wpAny_pure ?_)))));show wpAny _ _ (match Builtin.Slice.sliceAdjust lo hi 1 (n:Int) with|(lo,hi)=>pure (lo,(1:Int),Builtin.Slice.slicePlaces lo hi 1)) _ _ s;rw[rF lo hi n];show wpAny _ _ (pure (((cL n 0 lo:Nat):Int),(1:Int),Builtin.Slice.slicePlaces ((cL n 0 lo:Nat):Int) ((cL n n hi:Nat):Int) 1)) _ _ s;rw[rg];exact wpAny_pure h
theorem uJ (xs:Array Value) (i k:Nat):((List.range k).filterMap fun (m:Nat)=>xs[((i:Int)+(m:Int) * 1).toNat]?).toArray=((xs.toList.drop i).take k).toArray:=by
 have e:(fun (m:Nat)=>xs[((i:Int)+(m:Int) * 1).toNat]?)=fun m=>xs[i+m]?:=by
  funext m
  have:((i:Int)+(m:Int) * 1).toNat=i+m:=by omega
  rw[this]
 rw[e];have:=pick_run xs i k;rw[List.filterMap_map] at this;have e2:((fun x=>xs[x]?) ∘ fun x=>i+x)=fun m=>xs[i+m]?:=rfl;rw[e2] at this;rw[this]
theorem gZ {t sl:Addr}{items:Array Value}{vl vu:Value}{lo hi:Option Int}{Q:Value->Shared->Prop} (ht:IsTup s.heap t items) (hs:s.heap.IsSliceOf sl vl vu .none) (pl:IsPart vl lo) (pu:IsPart vu hi)
  (hw:¬ (cL items.size 0 lo=0/\cL items.size items.size hi=items.size))
  (h:Q (.ref s.heap.objs.size) { s with heap:=s.heap.push { cls:=.type "tuple",data:=.seq ((items.toList.drop (cL items.size 0 lo)).take (cL items.size items.size hi - cL items.size 0 lo)).toArray } })
  (hsz:items.size<=sizeLine):wpAny (model prog w) A (getItem (.ref t) (.ref sl)) Q E s:=by
 have htake:sizeOk (.seq ((items.toList.drop (cL items.size 0 lo)).take (cL items.size items.size hi - cL items.size 0 lo)).toArray):=by
  show ((items.toList.drop (cL items.size 0 lo)).take (cL items.size items.size hi - cL items.size 0 lo)).toArray.size<=sizeLine;rw[List.size_toArray,List.length_take,List.length_drop,Array.length_toList];omega
 have hj:cL items.size items.size hi<=items.size:=Bn _ _ (Nat.le_refl _) hi;obtain⟨os,hos,hcs,hds⟩:=id hs;have hTs:s.TypeIs (.ref sl) "slice":=⟨os,hos,hcs⟩;unfold getItem
 try with_reducible refine wpAny_holding ?_
 first|refine wpAny_bind (wpAny_pure ?_)|skip
 refine wpAny_bind (wpAny_sequenceKey ht.typeIs (by decide) ?_);refine wpAny_bind (wpAny_callSpecial?_slot (name:=Str.ofString "__getitem__") ht.typeIs PyProof.Rows.slot_tuple_getitem
  (wpAny_call_entry PyProof.Rows.slot_tuple_getitem ht.typeIs entry_tuple_getitem ?_ (args_tuple_getitem _ _)))
 show wpAny _ _ (Builtin.Tuple.tupleItemsOf (.ref t) >>= _) _ _ s;refine wpAny_bind (tupleItemsOf_ ht ?_);refine wpAny_bind (wpAny_typeOf hTs ?_);rw[if_pos (by decide)];refine wpAny_bind (iH hs pl pu ?_);have hno:¬ ((((cL items.size 0 lo:Nat):Int) == 0 && (1:Int) == 1 && (cL items.size items.size hi - cL items.size 0 lo) == items.size)=true):=by
  intro q;rw[Bool.and_eq_true,Bool.and_eq_true] at q;have q1:((cL items.size 0 lo:Nat):Int)=0:=eq_of_beq q.1.1;have q2:cL items.size items.size hi - cL items.size 0 lo=items.size:=eq_of_beq q.2;exact hw ⟨by omega,by omega⟩
 show wpAny _ _ (if (((cL items.size 0 lo:Nat):Int) == 0 && (1:Int) == 1 && (cL items.size items.size hi - cL items.size 0 lo) == items.size)=true then _ else _) _ _ s;rw[if_neg hno,uJ]
 first
  | exact wpAny_bind (m:=Builtin.Tuple.tupleExact _) (wpAny_newObj_type (wpAny_pure ⟨_,rfl,wpAny_pure h⟩) htake)
  | exact wpAny_bind (m:=Builtin.Tuple.tupleExact _) (wpAny_newObj_type (wpAny_bind (wpAny_pure (wpAny_pure ⟨_,rfl,wpAny_pure h⟩))) htake)
  | exact wpAny_bind (wpAny_bind (m:=Builtin.Tuple.tupleExact _) (wpAny_newObj_type (wpAny_pure (wpAny_pure ⟨_,rfl,wpAny_pure h⟩)) htake))
  | exact wpAny_bind (wpAny_bind (m:=Builtin.Tuple.tupleExact _) (wpAny_newObj_type (wpAny_pure ⟨_,rfl,wpAny_pure h⟩) htake))
end
end HT
namespace L2
open PySem PySem.Spec PyProof.Rows
noncomputable abbrev TO:=St->Hp->(Option Int->Hp->Prop)->Prop
noncomputable def PO (X:Cx) (e:Option Expr) (t:TO):Prop :=
 ∀ (pins:List (Addr×Obj)) (s:Shared) (σ:St) (H:Hp) (Q:Option Int->Hp->Prop),Inv X pins σ H s->t σ H Q ->
  wpAny (model X.prog X.w) X.A (evalPart e X.env) (fun u s'=>∃ o H',Inv X pins σ H' s'/\IsPart u o/\Q o H') X.xe s
noncomputable def ni:TO:=fun _ H Q=>Q none H
noncomputable def vG (t:TE):TO:=fun σ H Q=>t σ H fun x H1=>∃ i,x=.int i/\Q (some i) H1
section
variable {X:Cx}{e:Expr}{te:TE}{lo hi:Option Expr}{tl th:TO}{pos p2:Pos}
theorem fe:PO X none ni:=by
 intro pins s σ H Q I h;rw[evalPart_none];exact wpAny_pure ⟨none,H,I,.none,h⟩
theorem dD (h:PE X e te):PO X (some e) (vG te):=by
 intro pins s σ H Q I hw;rw[evalPart_some];refine bC (h pins s σ H _ I hw) fun u s1 ⟨x,H1,I1,r1,q1⟩=>?_;obtain⟨i,rfl,q⟩:=q1;obtain⟨t,rfl⟩:=r1;exact⟨some i,H1,I1,.int i t,q⟩
noncomputable def Cg (X:Cx) (r:V->Option Int->Option Int->Hp->VK->Prop):Prop :=
 ∀ (pins:List (Addr×Obj)) (s:Shared) (σ:St) (H:Hp) (x:V) (v vl vu:Value) (lo hi:Option Int) (sl:Addr) (Q:VK),Inv X pins σ H s->RelV x v->s.heap.IsSliceOf sl vl vu .none->IsPart vl lo->IsPart vu hi->r x lo hi H Q ->
  ∃ T id,typeLookup (.type T) "__getitem__"=pure (some (.builtin id))/\s.TypeIs v T/\wpAny (model X.prog X.w) X.A (getItem v (.ref sl)) (EP X pins σ Q) X.xe s
noncomputable def Fj (r:V->Option Int->Option Int->Hp->VK->Prop) (te:TE) (tl th:TO):TE:=fun σ H Q=>te σ H fun x H1=>tl σ H1 fun l H2=>th σ H2 fun u H3=>r x l u H3 Q
theorem dq {r:V->Option Int->Option Int->Hp->VK->Prop} (hr:Cg X r) (he:PE X e te) (hl:PO X lo tl) (hu:PO X hi th):PE X (.Subscript e (.Slice lo hi none p2) pos) (Fj r te tl th):=by
 intro pins s σ H Q I h;refine Subscript_ (bC (he pins s σ H _ I h) fun v s1 ⟨x,H1,I1,r1,q1⟩=>?_);refine wpAny_Slice (bC (hl pins s1 σ H1 _ I1 q1) fun vl s2 ⟨l,H2,I2,pl,q2⟩=>bC (hu pins s2 σ H2 _ I2 q2) fun vu s3 ⟨u,H3,I3,pu,q3⟩=>?_);rw[evalPart_none];refine wpAny_pure ?_;have I4:Inv X pins σ H3 { s3 with heap:=s3.heap.push { cls:=.type "slice",data:=.fields #[vl,vu,.none] } }:=I3.kept (t':=s3.toks) fun b ob q=>Heap.get?_push_of_some _ q;obtain⟨T,id,hT,ht,hg⟩:=hr pins { s3 with heap:=s3.heap.push { cls:=.type "slice",data:=.fields #[vl,vu,.none] } } σ H3 x v vl vu l u s3.heap.objs.size Q I4 r1 (Heap.IsSliceOf.new ..) pl pu q3;show wpAny (model X.prog X.w) X.A (subscriptTail e (.Slice lo hi none p2) v (.ref s3.heap.objs.size)) (EP X pins σ Q) X.xe { s3 with heap:=s3.heap.push { cls:=.type "slice",data:=.fields #[vl,vu,.none] } };exact tail_any (ops:=[.ref s3.heap.objs.size,v]) ht hT hg (by with_unfolding_all rfl)
noncomputable def gp (xs:List V) (lo hi:Option Int):List V:=(xs.drop (HT.cL xs.length 0 lo)).take (HT.cL xs.length xs.length hi - HT.cL xs.length 0 lo)
theorem iO (xs:List V) (lo hi:Option Int):(gp xs lo hi).length<=xs.length:=by
 unfold gp;rw[List.length_take,List.length_drop];omega
noncomputable def BG (K:PySem.W.Frag):V->Option Int->Option Int->Hp->VK->Prop:=fun x lo hi H Q=>∃ a xs,x=.ref a/\cI K H a xs /\
 ¬ (HT.cL xs.length 0 lo=0/\HT.cL xs.length xs.length hi=xs.length)/\∀ p,H p=none->Q (.ref p) (upd H p (.tup (gp xs lo hi)))
theorem zP:Cg X (BG X.K):=by
 intro pins s σ H x v vl vu lo hi sl Q I rx hs pl pu h;obtain⟨a,xs,rfl,hx,hw,q⟩:=h
 cases rx;obtain⟨its,r,ht,hz⟩:=I.tuple hx;have hlen:its.toArray.size=xs.length:=by rw[List.size_toArray];exact r.length.symm
 refine⟨"tuple",_,PyProof.Rows.slot_tuple_getitem.lookup,ht.typeIs,?_⟩;refine HT.gZ ht hs pl pu (by rw[hlen];exact hw) ?_ (by rw[hlen];exact hz);rw[hlen];refine⟨.ref s.heap.objs.size,_,I.laid (t':=s.toks) (o:=.tup (gp xs lo hi)) (fun b ob q=>Heap.get?_push_of_some _ q) (Nat.le_refl _) ?_,rfl,q _ (I.hok.fresh (Nat.le_refl _))⟩;exact⟨Nat.le_trans (iO xs lo hi) hz,_,(r.drop (HT.cL xs.length 0 lo)).take (HT.cL xs.length xs.length hi - HT.cL xs.length 0 lo),IsTup.new _ _⟩
end
end L2
namespace L2
open PySem PySem.Spec PyProof.Rows
noncomputable def zm (n:Nat) (i:Int):Option Nat:=if 0<=i then (if i<n then some i.toNat else none) else if -(n:Int)<=i then some (i+n).toNat else none
noncomputable def mj {α:Type} (xs:List α) (i:Int):Option α:=(zm xs.length i).bind fun j=>xs[j]?
theorem yy {n:Nat}{i:Int}{j:Nat} (h:zm n i=some j):seqIndex? i n=some j/\j<n/\-(n:Int)<=i/\i<n:=by
 unfold zm at h
 by_cases h0:0<=i
 ·rw[if_pos h0] at h
  by_cases h1:i<n
  ·rw[if_pos h1] at h
   have e:i.toNat=j:=Option.some.inj h;exact⟨by rw[seqIndex_of h0 h1,e],by omega,by omega,h1⟩
  ·rw[if_neg h1] at h;cases h
 ·rw[if_neg h0] at h
  by_cases h1:-(n:Int)<=i
  ·rw[if_pos h1] at h
   have e:(i+n).toNat=j:=Option.some.inj h;exact⟨by rw[seqIndex_neg (by omega) h1,e],by omega,h1,by omega⟩
  ·rw[if_neg h1] at h;cases h
theorem mE {α:Type}{xs:List α}{i:Int}{v:α} (h:mj xs i=some v):∃ j,seqIndex? i xs.length=some j/\xs[j]?=some v/\j<xs.length/\-(xs.length:Int)<=i/\i<xs.length:=by
 unfold mj at h
 cases e:zm xs.length i with
 | none=>rw[e] at h;cases h
 | some j =>
  rw[e] at h;obtain⟨h1,h2,h3,h4⟩:=yy e;exact⟨j,h1,h,h2,h3,h4⟩
theorem bX {α:Type}{xs:List α}{j:Nat}{v:α} (h:xs[j]?=some v):mj xs (j:Int)=some v:=by
 have hj:j<xs.length:=(List.getElem?_eq_some_iff.mp h).1;have e:zm xs.length (j:Int)=some j:=by
  unfold zm;rw[if_pos (by omega),if_pos (by omega)];simp
 unfold mj;rw[e];exact h
theorem cX {α:Type} (xs:List α) (v:α):mj (xs++[v]) (-1)=some v:=by
 have hl:(xs++[v]).length=xs.length+1:=by simp
 have e:zm (xs++[v]).length (-1)=some xs.length:=by
  unfold zm;rw[hl,if_neg (by decide),if_pos (by omega)];congr 1;omega
 unfold mj;rw[e];show (xs++[v])[xs.length]?=some v;simp
noncomputable def xJ (b:Expr):Prop:=∀ o i,subscripted b false o i=operate [o,i] (getItem o i)
noncomputable def Cn (X:Cx) (r:R2):Prop :=
 ∀ (value slice:Expr) (pins:List (Addr×Obj)) (s:Shared) (σ:St) (H:Hp) (x y:V) (v u:Value) (Q:VK),Inv X pins σ H s->RelV x v->RelV y u->r x y H Q ->
  subscripted slice false v u=operate [v,u] (getItem v u)->wpAny (model X.prog X.w) X.A (subscriptTail value slice v u) (EP X pins σ Q) X.xe s
noncomputable def AO (X:Cx) (id:String) (r:V->List V->Hp->VK->Prop):Prop :=
 ∀ (pins:List (Addr×Obj)) (s:Shared) (σ:St) (H:Hp) (x:V) (xs:List V) (v:Value) (us:List Value) (Q:VK),Inv X pins σ H s->RelV x v->Vals xs us->r x xs H Q ->
  wpAny (model X.prog X.w) X.A (call (.builtin id) (v::us)) (EP X pins σ Q) X.xe s
section
variable {X:Cx}{a b:Expr}{ta tb:TE}{pos:Pos}
theorem aG {r:R2} (hr:Cn X r) (ha:PE X a ta) (hb:PE X b tb) (hs:xJ b):PE X (.Subscript a b pos) (Co r ta tb):=by
 intro pins s σ H Q I h;exact Subscript_ (zC ha hb I h fun v u s2 x y H2 I2 rx ry q=>hr a b pins s2 σ H2 x y v u Q I2 rx ry q (hs _ _))
noncomputable def Bh (K:PySem.W.Frag):R2:=fun x y H Q=>∃ p xs i v,x=.ref p/\y=.int i/\aO K H p xs/\mj xs i=some v/\Q v H
noncomputable def Al (K:PySem.W.Frag):R2:=fun x y H Q=>∃ p xs i v,x=.ref p/\y=.int i/\cI K H p xs/\mj xs i=some v/\Q v H
noncomputable def CG:R2:=fun x y H Q=>∃ z i c,x=.str z/\y=.int i/\z.length<=sizeLine/\mj z.cps.toList i=some c/\Q (.str ⟨#[c]⟩) H
theorem xG:Cn X (Bh X.K):=by
 intro value slice pins s σ H x y v u Q I rx ry h hs;obtain⟨p,xs,i,z,rfl,rfl,hq,he,q⟩:=h
 cases rx;obtain⟨t,rfl⟩:=ry;obtain⟨its,r,pl,hz⟩:=I.list hq;obtain⟨j,h1,h2,h3,h4,h5⟩:=mE he;obtain⟨w,ew,rw'⟩:=r.get h2;have hl:=r.length;have hn:=nG;have fin:EP X pins σ Q w s:=⟨z,H,I,rw',q⟩
 by_cases h0:0<=i
 ·have hj:i.toNat=j:=by
   rw[seqIndex_of h0 h5] at h1;exact Option.some.inj h1
  exact item_listR pl.isList h0 (by omega) (by rw[hj];simpa using ew) fin hs
 ·have hj:(i+(its.toArray.size:Int)).toNat=j:=by
   rw[seqIndex_neg (by omega) h4] at h1;rw[List.size_toArray,<- hl];exact Option.some.inj h1
  exact subscriptTail_builtinR (x:=w) pl.isList.typeIs slot_list_getitem.lookup
   (wpAny_getItem_list_neg (Q:=fun r s'=>r=w/\EP X pins σ Q r s') pl.isList (by omega) (by rw[List.size_toArray] <;> omega) (by omega) (by rw[hj];simpa using ew) ⟨rfl,fin⟩) hs
theorem zN:Cn X (Al X.K):=by
 intro value slice pins s σ H x y v u Q I rx ry h hs;obtain⟨p,xs,i,z,rfl,rfl,hq,he,q⟩:=h
 cases rx;obtain⟨t,rfl⟩:=ry;obtain⟨its,r,pl,hz⟩:=I.tuple hq;obtain⟨j,h1,h2,h3,h4,h5⟩:=mE he;obtain⟨w,ew,rw'⟩:=r.get h2;have hl:=r.length;have hn:=nG;have fin:EP X pins σ Q w s:=⟨z,H,I,rw',q⟩;exact subscriptTail_builtinR (x:=w) pl.typeIs slot_tuple_getitem.lookup
  (getItem_tuple (j:=j) (Q:=fun r s'=>r=w/\EP X pins σ Q r s') pl (by omega) (by omega) (by rw[List.size_toArray,<- hl];exact h1) (by simpa using ew) ⟨rfl,fin⟩) hs
theorem qM:Cn X CG:=by
 intro value slice pins s σ H x y v u Q I rx ry h hs;obtain⟨z,i,c,rfl,rfl,hz,he,q⟩:=h;obtain⟨t,rfl⟩:=rx;obtain⟨t',rfl⟩:=ry;obtain⟨j,h1,h2,h3,h4,h5⟩:=mE he;have hl:z.cps.toList.length=z.length:=by simp[Str.length]
 rw[hl] at h1 h4 h5;have hn:=nG;exact tail_any (typeIs_str s z t) slot_str_getitem.lookup (getItem_str (c:=c) (by
  have e1:decide (i < -(2 ^ 63:Int))=false:=decide_eq_false (by omega);have e2:decide (i ≥ 2 ^ 63)=false:=decide_eq_false (by omega);rw[e1,e2,Bool.or_false]) (by rw[h1];simpa using h2) ⟨.str ⟨#[c]⟩,H,I.tok _,⟨_,rfl⟩,q⟩) hs
theorem nX (lo hi:Option Int) (n:Nat):(sliceBounds lo hi none n).1=((HT.cL n 0 lo:Nat):Int)/\(sliceBounds lo hi none n).2.1=((HT.cL n n hi:Nat):Int)/\(sliceBounds lo hi none n).2.2=1:=by
 refine⟨?_,?_,rfl⟩
 ·cases lo with
  | none=>simp[sliceBounds,HT.cL]
  | some i =>
   simp only[sliceBounds,HT.cL,Option.getD_none,show (1:Int) > 0 by decide,if_true]
   by_cases h:i<0
   ·simp only[h,if_true] <;> omega
   ·simp only[h,if_false] <;> omega
 ·cases hi with
  | none=>simp[sliceBounds,HT.cL]
  | some i =>
   simp only[sliceBounds,HT.cL,Option.getD_none,show (1:Int) > 0 by decide,if_true]
   by_cases h:i<0
   ·simp only[h,if_true] <;> omega
   ·simp only[h,if_false] <;> omega
theorem kN (its:List Value) (lo hi:Option Int):slicePick its.toArray lo hi none=((its.drop (HT.cL its.length 0 lo)).take (HT.cL its.length its.length hi - HT.cL its.length 0 lo)).toArray:=by
 obtain⟨h1,h2,h3⟩:=nX lo hi its.toArray.size;unfold slicePick;rw[h1,h2,h3];simp only[sliceRange_one,pick_run,List.size_toArray] <;> rfl
noncomputable def BK (K:PySem.W.Frag):V->Option Int->Option Int->Hp->VK->Prop:=fun x lo hi H Q=>∃ a xs,x=.ref a/\aO K H a xs/\∀ p,H p=none->Q (.ref p) (upd H p (.lst (gp xs lo hi)))
theorem xm:Cg X (BK X.K):=by
 intro pins s σ H x v vl vu lo hi sl Q I rx hs pl pu h;obtain⟨a,xs,rfl,hx,q⟩:=h
 cases rx;obtain⟨its,r,ht,hz⟩:=I.list hx;have hlen:=r.length;refine⟨"list",_,slot_list_getitem.lookup,ht.isList.typeIs,?_⟩;refine wpAny_getItem_list_slice ht.isList hs pl pu .none (by simp) ?_ (by rw[List.size_toArray] <;> omega);rw[kN,<- hlen];refine⟨.ref s.heap.objs.size,_,I.laid (t':=s.toks) (o:=.lst (gp xs lo hi)) (fun b ob q=>Heap.get?_push_of_some _ q) (Nat.le_refl _) ?_,rfl,q _ (I.hok.fresh (Nat.le_refl _))⟩;exact⟨Nat.le_trans (iO xs lo hi) hz,_,0,(r.drop (HT.cL xs.length 0 lo)).take (HT.cL xs.length xs.length hi - HT.cL xs.length 0 lo),Heap.get?_push_size _ rfl⟩
noncomputable def fE:V->Bool
 | .non=>true
 | .bl _=>true
 | .int _=>true
 | .str _=>true
 | _=>false
noncomputable def xM:V->V->Bool
 | .non,.non=>true
 | .bl a,.bl b=>a == b
 | .bl a,.int b=>(if a then 1 else 0) == b
 | .int a,.bl b=>a == (if b then 1 else 0)
 | .int a,.int b=>a == b
 | .str a,.str b=>a == b
 | _,_=>false
theorem Bc {A:Around}{s:Shared}{y x:V}{u v:Value} (ry:RelV y u) (rx:RelV x v) (fy:fE y=true) (fx:fE x=true):SeqAt.EqAt A s u v (xM y x):=by
 cases y with
 | non =>
  cases ry
  cases x with
  | non=>cases rx;exact SeqAt.EqAt.same _
  | bl b=>cases rx;exact SeqAt.EqAt.none_bool b
  | int b=>obtain⟨t,rfl⟩:=rx;exact SeqAt.EqAt.none_int b t
  | str b=>obtain⟨t,rfl⟩:=rx;exact SeqAt.EqAt.none_str b t
  | _=>exact absurd (show false=true from fx) Bool.false_ne_true
 | bl a =>
  cases ry
  cases x with
  | non=>cases rx;exact SeqAt.EqAt.bool_none a
  | bl b=>cases rx;exact SeqAt.EqAt.bool_bool a b
  | int b=>obtain⟨t,rfl⟩:=rx;exact SeqAt.EqAt.bool_int a b t
  | str b=>obtain⟨t,rfl⟩:=rx;exact SeqAt.EqAt.bool_str a b t
  | _=>exact absurd (show false=true from fx) Bool.false_ne_true
 | int a =>
  obtain⟨t',rfl⟩:=ry
  cases x with
  | non=>cases rx;exact SeqAt.EqAt.int_none a t'
  | bl b=>cases rx;exact SeqAt.EqAt.int_bool a t' b
  | int b=>obtain⟨t,rfl⟩:=rx;exact SeqAt.EqAt.int_int a t' b t
  | str b=>obtain⟨t,rfl⟩:=rx;exact SeqAt.EqAt.int_str a t' b t
  | _=>exact absurd (show false=true from fx) Bool.false_ne_true
 | str a =>
  obtain⟨t',rfl⟩:=ry
  cases x with
  | non=>cases rx;exact SeqAt.EqAt.str_none a t'
  | bl b=>cases rx;exact SeqAt.EqAt.str_bool a t' b
  | int b=>obtain⟨t,rfl⟩:=rx;exact SeqAt.EqAt.str_int a t' b t
  | str b=>obtain⟨t,rfl⟩:=rx;exact SeqAt.EqAt.str_str a t' b t
  | _=>exact absurd (show false=true from fx) Bool.false_ne_true
 | _=>exact absurd (show false=true from fy) Bool.false_ne_true
noncomputable def qX (x:V) (u:Value):Bool:=match u with
 | .none=>xM .non x
 | .bool b=>xM (.bl b) x
 | .int i _=>xM (.int i) x
 | .str z _=>xM (.str z) x
 | _=>false
theorem uV {x y:V}{u:Value} (r:RelV y u) (f:fE y=true):qX x u=xM y x:=by
 cases y with
 | non=>cases r;rfl
 | bl b=>cases r;rfl
 | int i=>obtain⟨t,rfl⟩:=r;rfl
 | str z=>obtain⟨t,rfl⟩:=r;rfl
 | _=>exact absurd (show false=true from f) Bool.false_ne_true
theorem gS {x:V}:∀ {xs:List V}{us:List Value},Vals xs us->xs.all fE=true->us.any (qX x)=xs.any fun y=>xM y x
 | _,_,.nil,_=>rfl
 | y::xs,u::us,.cons r t,f=>by
  rw[List.all_cons,Bool.and_eq_true] at f;rw[List.any_cons,List.any_cons,uV r f.1,gS t f.2]
theorem fR {A:Around}{s:Shared}{x:V}{v:Value} (rx:RelV x v) (fx:fE x=true):∀ {xs:List V}{us:List Value},Vals xs us->xs.all fE=true->∀ u∈us,SeqAt.EqAt A s u v (qX x u)
 | _,_,.nil,_=>fun u hu=>by cases hu
 | y::xs,u::us,.cons r t,f=>fun u' hu=>by
  rw[List.all_cons,Bool.and_eq_true] at f;rcases List.mem_cons.mp hu with rfl|hu
  ·rw[uV r f.1];exact Bc r rx f.1 fx
  ·exact fR rx fx t f.2 u' hu
noncomputable def Cj (x:V) (xs:List V):Bool:=xs.any fun y=>xM y x
noncomputable def D2 (K:PySem.W.Frag) (neg:Bool):R2:=fun x y H Q=>∃ p xs,y=.ref p/\(aO K H p xs\/cI K H p xs)/\fE x=true/\xs.all fE=true/\Q (.bl (if neg then !Cj x xs else Cj x xs)) H
theorem sY:gu X (compareOp .In) (D2 X.K false):=by
 intro pins s σ H x y v u Q I rx ry h;obtain⟨p,xs,rfl,hq,fx,fs,q⟩:=h
 cases ry;rcases hq with hq|hq
 ·obtain⟨its,r,pl,hz⟩:=I.list hq
  refine SeqAt.in_listAt (qX x) pl.isList (fun w hw=>fR rx fx r fs w (by simpa using hw)) ⟨.bl _,H,I,rfl,?_⟩;rw[show its.toArray.any (qX x)=its.any (qX x) by simp,gS r fs];exact q
 ·obtain⟨its,r,pl,hz⟩:=I.tuple hq
  refine SeqAt.in_tupleAt (qX x) pl (fun w hw=>fR rx fx r fs w (by simpa using hw)) ⟨.bl _,H,I,rfl,?_⟩;rw[show its.toArray.any (qX x)=its.any (qX x) by simp,gS r fs];exact q
theorem mK:gu X (compareOp .NotIn) (D2 X.K true):=by
 intro pins s σ H x y v u Q I rx ry h;obtain⟨p,xs,rfl,hq,fx,fs,q⟩:=h
 cases ry;rcases hq with hq|hq
 ·obtain⟨its,r,pl,hz⟩:=I.list hq
  refine SeqAt.notIn_listAt (qX x) pl.isList (fun w hw=>fR rx fx r fs w (by simpa using hw)) ⟨.bl _,H,I,rfl,?_⟩;rw[show its.toArray.any (qX x)=its.any (qX x) by simp,gS r fs];exact q
 ·obtain⟨its,r,pl,hz⟩:=I.tuple hq
  refine SeqAt.notIn_tupleAt (qX x) pl (fun w hw=>fR rx fx r fs w (by simpa using hw)) ⟨.bl _,H,I,rfl,?_⟩;rw[show its.toArray.any (qX x)=its.any (qX x) by simp,gS r fs];exact q
theorem nM:gu X (compareOp .NotIn) (fun x y H Q=>∃ i j,x=.str i/\y=.str j/\Q (.bl (!(!(Builtin.Str.occurrences j i 0 j.length 1).isEmpty))) H):=by
 intro pins s σ H x y v u Q I rx ry h;obtain⟨i,j,rfl,rfl,q⟩:=h;obtain⟨t,rfl⟩:=rx;obtain⟨t',rfl⟩:=ry;exact notIn_str ⟨.bl _,H,I,rfl,q⟩
theorem mF:ck X (.type "list") (fun xs H Q=>∃ p ys,xs=[.ref p]/\(aO X.K H p ys\/cI X.K H p ys)/\∀ l,H l=none->Q (.ref l) (upd H l (.lst ys))):=by
 intro pins s σ H xs us Q I r h;obtain⟨p,ys,rfl,hq,q⟩:=h;obtain⟨u,rfl,rx⟩:=vals1 r
 cases rx;have fin:∀ (its:List Value),Vals ys its->ys.length<=sizeLine->∀ (h':Heap) (c':Nat),(∀ b o',s.heap.get? b=some o'->h'.get? b=some o') ->
   h'.get? s.heap.objs.size=some { cls:=.type "list",dict:=none,data:=.seq its.toArray c',slots:=#[] }->EP X pins σ Q (.ref s.heap.objs.size) { s with heap:=h' }:=fun its r' hz h' c' kp e =>
  ⟨.ref s.heap.objs.size,_,I.laid (t':=s.toks) kp (Nat.le_refl _) (show bK X.prog X.w _ h' _ (.lst ys) from ⟨hz,its,c',r',e⟩),rfl,q _ (I.hok.fresh (Nat.le_refl _))⟩
 rcases hq with hq|hq
 ·obtain⟨its,r',pl,hz⟩:=I.list hq
  have hlen:=r'.length;obtain⟨o,ho,hc,n,hd⟩:=pl.isList;exact call_list_seq p (.inl rfl) ho hc hd (fun h' c' kp e=>fin its r' hz h' c' kp e) (by simp only[List.size_toArray] <;> omega)
 ·obtain⟨its,r',pl,hz⟩:=I.tuple hq
  have hlen:=r'.length;obtain⟨o,ho,hc,n,hd⟩:=pl;exact call_list_seq p (.inr rfl) ho hc hd (fun h' c' kp e=>fin its r' hz h' c' kp e) (by simp only[List.size_toArray] <;> omega)
noncomputable def Gj (K:PySem.W.Frag) (T:String) (x:V) (H:Hp):Prop:=match x with
 | .str _=>T="str"
 | .int _=>T="int"
 | .ref p=>(T="list"/\∃ xs,aO K H p xs)\/(T="tuple"/\∃ o,K.lookup p=some o/\o.cls=.type "tuple"/\o.dict=none) \/
   (T="dict"/\((∃ kvs,H p=some (.dK kvs))\/∃ kvs,H p=some (.dT kvs)))\/(T="set"/\∃ S n,H p=some (.set S n))
 | _=>False
theorem vY {pins:List (Addr×Obj)}{σ:St}{H:Hp}{s:Shared}{T:String}{x:V}{v:Value} (I:Inv X pins σ H s) (r:RelV x v) (ty:Gj X.K T x H) :
  s.TypeIs v T/\∀ a,v=.ref a->∃ ob,s.heap.get? a=some ob/\ob.dict=none:=by
 cases x with
 | str z =>
  obtain⟨t,rfl⟩:=r
  cases (show T="str" from ty);exact⟨typeIs_str s z t,fun _ e=>nomatch e⟩
 | int i =>
  obtain⟨t,rfl⟩:=r
  cases (show T="int" from ty);exact⟨typeIs_int s i t,fun _ e=>nomatch e⟩
 | ref p =>
  cases r;rcases ty with ⟨rfl,xs,hq⟩|⟨rfl,o,hk,hc,hd⟩|⟨rfl,hk⟩|⟨rfl,S,n,hk⟩
  ·obtain⟨its,_,pl,_⟩:=I.list hq
   refine⟨pl.isList.typeIs,fun a e=>?_⟩
   cases e;obtain⟨o,n,e,c,hd,_⟩:=pl;exact⟨o,e,hd⟩
  ·refine⟨⟨o,I.eO p o hk,hc⟩,fun a e=>?_⟩
   cases e;exact⟨o,I.eO _ o hk,hd⟩
  ·have z:∃ o,s.heap.get? p=some o/\o.ExactDict:=by
    rcases hk with ⟨kvs,hk⟩|⟨kvs,hk⟩
    ·obtain⟨_,_,_,_,o,_,_,e,ex,_⟩:=I.hok p _ hk
     exact⟨o,e,ex⟩
    ·obtain⟨_,_,_,_,o,_,_,e,ex,_⟩:=I.hok p _ hk
     exact⟨o,e,ex⟩
   obtain⟨o,e,ex⟩:=z;refine⟨⟨o,e,ex.1⟩,fun a e2=>?_⟩
   cases e2;exact⟨o,e,ex.2.1⟩
  ·obtain⟨o,_,_,_,e,ex,_⟩:=I.hok p _ hk
   refine⟨⟨o,e,ex.1⟩,fun a e2=>?_⟩
   cases e2;exact⟨o,e,ex.2.1⟩
 | _=>exact False.elim ty
noncomputable def AW (K:PySem.W.Frag) (T:String) (r:V->List V->Hp->VK->Prop) (to:TE):TE:=fun σ H Q=>to σ H fun x H1=>Gj K T x H1/\r x [] H1 Q
noncomputable def Dj (K:PySem.W.Frag) (T:String) (r:V->List V->Hp->VK->Prop) (to:TE) (t:TA):TE:=fun σ H Q=>to σ H fun x H1=>Gj K T x H1/\t σ H1 fun xs H2=>r x xs H2 Q
variable {o e:Expr}{es:List Expr}{to:TE}{t:TA}{name:Str}{apos cpos:Pos}{T id:String}{r:V->List V->Hp->VK->Prop}
theorem Bj (pa:PlainAttrs T) (slot:Slot T name id) (hty:typeOf (.builtin id)=pure (.type "method_descriptor")) (hm:AO X id r) (ho:PE X o to)
  (hbase:attributeBase o name X.env (eval o X.env)=eval o X.env:=by rfl) (hline:(apos.endLine == cpos.line)=true:=by rfl):PE X (.Call (.Attribute o name apos) [] [] cpos) (AW X.K T r to):=by
 intro pins s σ H Q I h;refine wpAny_Call_method0_late hbase hline (bC (ho pins s σ H _ I h) fun v s1 ⟨x,H1,I1,r1,ty,q1⟩=>?_);obtain⟨h1,h2⟩:=vY I1 r1 ty;exact⟨T,id,pa,slot,hty,h1,h2,Calls.callWith_builtin rfl (PySem.evalArgs_none (hm pins s1 σ H1 x [] v [] Q I1 r1 .nil q1))⟩
theorem DX (pa:PlainAttrs T) (slot:Slot T name id) (hty:typeOf (.builtin id)=pure (.type "method_descriptor")) (hm:AO X id r) (ho:PE X o to) (ha:PA X (e::es) t)
  (hbase:attributeBase o name X.env (eval o X.env)=eval o X.env:=by rfl)
  (hfew:((backTo cpos (starEach (e::es) X.env)).all (fun x=>!x.1) && (backToKw cpos (keywordEach [] X.env)).all (fun x=>x.1.isSome)
   && decide ((e::es).length+([]:List Keyword).length+(if ([]:List Keyword).isEmpty then 0 else 1)<30))=true:=by rfl)
  (hline:(apos.endLine == cpos.line)=true:=by rfl) (hs:starEach (e::es) X.env=(false,eval e X.env)::starEach es X.env:=by rfl) (hplain:(backTo cpos (starEach es X.env)).any (·.1)=false:=by rfl) :
  PE X (.Call (.Attribute o name apos) (e::es) [] cpos) (Dj X.K T r to t):=by
 intro pins s σ H Q I h;refine wpAny_Call_method_late hbase hfew hline rfl (bC (ho pins s σ H _ I h) fun v s1 ⟨x,H1,I1,r1,ty,q1⟩=>?_);obtain⟨h1,h2⟩:=vY I1 r1 ty;refine⟨T,id,pa,slot,hty,h1,h2,?_⟩;have hA:=ha cpos pins s1 σ H1 _ I1 q1;rw[hs] at hA ⊢;refine Calls.callWith_builtin (by show (false || (backTo cpos (starEach es X.env)).any (·.1))=false;rw[hplain] <;> rfl) (Calls.evalArgs_plain ?_);exact bC hA fun us s2 ⟨vs,H2,I2,r2,q2⟩=>hm pins s2 σ H2 x vs v us Q I2 r1 r2 q2
end
end L2
namespace L2
open PySem PySem.Spec PyProof.Rows
noncomputable def EO (X:Cx) (id:String) (r:V->List V->Hp->VK->Prop):Prop :=
 ∀ (pins:List (Addr×Obj)) (s:Shared) (σ:St) (H:Hp) (x:V) (xs:List V) (v:Value) (us:List Value) (Q:VK),Inv X pins σ H s->RelV x v->Vals xs us->r x xs H Q ->
  wpAny (model X.prog X.w) X.A (call (.builtin id) (v::us)) (EP X pins σ Q) X.xe s
theorem Vals.one:∀ {x:V}{us:List Value},Vals [x] us->∃ u,us=[u]/\RelV x u
 | _,_,.cons r .nil=>⟨_,rfl,r⟩
theorem Vals.zero:∀ {us:List Value},Vals [] us->us=[]
 | _,.nil=>rfl
theorem Vals.dropLast {xs:List V}{us:List Value} (h:Vals xs us):Vals xs.dropLast us.dropLast:=by
 induction h with
 | nil=>exact .nil
 | cons r t ih =>
  cases t with
  | nil=>exact .nil
  | cons q t'=>exact .cons r ih
theorem rE {α:Type} (l:List α):l.eraseIdx (l.length - 1)=l.dropLast:=by
 induction l with
 | nil=>rfl
 | cons a r ih =>
  cases r with
  | nil=>rfl
  | cons b r =>
   have e:(a::b::r).length - 1=((b::r).length - 1)+1:=by
    have h1:(a::b::r).length=r.length+2:=rfl;have h2:(b::r).length=r.length+1:=rfl;omega
   rw[e,List.eraseIdx_cons_succ,ih]
   all_goals rfl
section
variable {X:Cx}{pins:List (Addr×Obj)}{σ:St}{H:Hp}{s:Shared}{l b:Addr}{xs ys zs:List V}
theorem Inv.bU {its its':List Value}{n:Nat}{f:Array Value->Array Value}{t':Nat} (I:Inv X pins σ H s) (hH:H l=some (.lst xs))
  (e:s.heap.get? l=some { cls:=.type "list",data:=.seq its.toArray n }) (hf:f its.toArray=its'.toArray) (hv:Vals ys its') (hz:ys.length<=sizeLine) :
  Inv X pins σ (upd H l (.lst ys)) { s with heap:=s.heap.update l (Obj.mapSeq f),toks:=t' }:=by
 have q:=PySem.IsL.update e f;rw[hf] at q;refine I.write (x:=l) (e:=l) (by rw[hH];exact trivial) (.inl rfl) (fun b' u hb hu=>(Heap.get?_update_other s.heap (Obj.mapSeq f) (Ne.symm hb)).trans hu) ⟨_,q⟩ ?_;exact⟨hz,its',_,hv,q⟩
theorem Inv.E3 {its:List Value}{t':Nat} (I:Inv X pins σ H s) (hv:Vals ys its) (hz:ys.length<=sizeLine) :
  Inv X pins σ (upd H s.heap.objs.size (.lst ys)) { s with heap:=s.heap.push { cls:=.type "list",data:=.seq its.toArray },toks:=t' } :=
 I.laid (fun _ _ q=>Heap.get?_push_of_some _ q) (Nat.le_refl _) ⟨hz,its,0,hv,Heap.get?_push_size _ rfl⟩
theorem Inv.fresh (I:Inv X pins σ H s):H s.heap.objs.size=none:=I.hok.fresh (Nat.le_refl _)
theorem Inv.uf (I:Inv X pins σ H s) (hH:H l=some (.lst xs)):xs.length<=sizeLine/\∃ (its:List Value) (n:Nat),Vals xs its/\xs.length=its.length/\s.heap.get? l=some { cls:=.type "list",data:=.seq its.toArray n }:=by
 obtain⟨z,its,n,r,e⟩:=I.hok l _ hH;exact⟨z,its,n,r,r.length,e⟩
theorem uH {n:Nat} (h:n<=sizeLine):Builtin.List.listTooLong n=false:=by
 unfold Builtin.List.listTooLong;exact decide_eq_false (by omega)
end
section
variable {X:Cx}
noncomputable def nJ:V->List V->Hp->VK->Prop:=fun x vs H Q=>∃ l xs y,x=.ref l/\vs=[y]/\H l=some (.lst xs)/\xs.length<sizeLine/\Q .non (upd H l (.lst (xs++[y])))
theorem bf:EO X "list.append" nJ:=by
 intro pins s σ H x vs v us Q I rx rv h;obtain⟨l,xs,y,rfl,rfl,hH,hz,q⟩:=h
 cases rx;obtain⟨u,rfl,ru⟩:=rv.one;obtain⟨z,its,n,r,hl,e⟩:=I.uf hH;refine call_meets F.slot_list_append ⟨_,e,rfl⟩ F.entry_list_append (F.args_list_append_2 _ _) (PySem.list_append l its.toArray n u (by rw[List.size_toArray];omega)) ⟨e,?_⟩;refine⟨.non,_,I.bU (its':=its++[u]) hH e (by simp) (r.append (.cons ru .nil)) ?_,rfl,q⟩;rw[List.length_append,List.length_singleton];omega
noncomputable def rS:V->List V->Hp->VK->Prop:=fun x vs H Q=>∃ l b xs zs,x=.ref l/\vs=[.ref b]/\H l=some (.lst xs)/\H b=some (.lst zs)/\xs.length+zs.length<=sizeLine/\Q .non (upd H l (.lst (xs++zs)))
theorem fX:EO X "list.extend" rS:=by
 intro pins s σ H x vs v us Q I rx rv h;obtain⟨l,b,xs,zs,rfl,rfl,hH,hB,hz,q⟩:=h
 cases rx;obtain⟨u,rfl,ru⟩:=rv.one
 cases ru;obtain⟨z,its,n,r,hl,e⟩:=I.uf hH;obtain⟨z2,its2,n2,r2,hl2,e2⟩:=I.uf hB;have hsz:its.toArray.size+its2.toArray.size<=sizeLine:=by rw[List.size_toArray,List.size_toArray];omega
 have hlong:¬ (!its.toArray.isEmpty && Builtin.List.listTooLong (its.toArray.size+its2.toArray.size))=true:=by
  rw[uH hsz,Bool.and_false];exact Bool.false_ne_true
 refine call_meets F.slot_list_extend ⟨_,e,rfl⟩ F.entry_list_extend (F.args_list_extend_2 _ _)
  (AutoSeq1.list_extend_list_list_0 l its.toArray n b its2.toArray n2 hlong (by rw[List.size_toArray];omega) (by omega)) ⟨e,e2,?_⟩
 refine⟨.non,_,I.bU (its':=its++its2) hH e (by simp) (r.append r2) ?_,rfl,q⟩;rw[List.length_append];omega
noncomputable def Dq:V->List V->Hp->VK->Prop:=fun x vs H Q=>∃ l xs y,x=.ref l/\vs=[]/\H l=some (.lst xs)/\xs[xs.length - 1]?=some y/\Q y (upd H l (.lst xs.dropLast))
theorem nu:EO X "list.pop" Dq:=by
 intro pins s σ H x vs v us Q I rx rv h;obtain⟨l,xs,y,rfl,rfl,hH,hy,q⟩:=h
 cases rx;have hus:=rv.zero;subst hus;obtain⟨z,its,n,r,hl,e⟩:=I.uf hH;obtain⟨u,hu,ru⟩:=r.get hy;have hy':its.toArray[its.toArray.size - 1]?=some u:=by
  show its.toArray[its.length - 1]?=some u;rw[<- Array.getElem?_toList,<- hl];exact hu
 refine call_meets F.slot_list_pop ⟨_,e,rfl⟩ F.entry_list_pop (F.args_list_pop_1 _) (MeetsSeq.list_pop_last l its.toArray n u hy' (by rw[List.size_toArray];omega)) ⟨e,?_⟩;refine⟨y,_,I.bU (its':=its.dropLast) hH e ?_ r.dropLast ?_,ru,q⟩
 ·show its.toArray.eraseIdxIfInBounds (its.toArray.size - 1)=its.dropLast.toArray
  rw[List.size_toArray,List.eraseIdxIfInBounds_toArray,rE]
 ·rw[List.length_dropLast]
  omega
noncomputable def DT:R2:=fun x y H Q=>∃ l b xs zs,x=.ref l/\y=.ref b/\H l=some (.lst xs)/\H b=some (.lst zs)/\xs.length+zs.length<=sizeLine/\∀ p,H p=none->Q (.ref p) (upd H p (.lst (xs++zs)))
theorem mT:gu X (binaryOp .Add) DT:=by
 intro pins s σ H x y v u Q I rx ry h;obtain⟨l,b,xs,zs,rfl,rfl,hH,hB,hz,q⟩:=h
 cases rx
 cases ry;obtain⟨z,its,n,r,hl,e⟩:=I.uf hH;obtain⟨z2,its2,n2,r2,hl2,e2⟩:=I.uf hB;refine PySem.P.add_list e e2 ?_ (by rw[List.size_toArray,List.size_toArray];omega);have ea:its.toArray++its2.toArray=(its++its2).toArray:=by simp
 rw[ea];exact⟨.ref _,_,I.E3 (t':=s.toks) (r.append r2) (by rw[List.length_append];omega),rfl,q _ I.fresh⟩
end
section
variable {prog:Program}{w:World}{A:Around}{E:Value->Shared->Prop}{s:Shared}
set_option maxRecDepth 100000 in
end
section
variable {X:Cx}
end
end L2
namespace Att
open PySem PySem.W PySem.Calls PyProof.Rows
theorem jf {P:Params}{h:Heap}:∀ (ns:List Int) (vs:List Value),WellAll P h vs (ns.map WData.int)->IntsAre vs ns:=by
 intro ns
 induction ns with
 | nil =>
  intro vs w;rw[List.map_nil] at w
  cases w;exact .nil
 | cons n ns ih =>
  intro vs w;rw[List.map_cons] at w
  cases w with
  | cons a b =>
   cases a;exact .cons _ _ (ih _ b)
theorem tE {l:OpenLaw}{n:Nat} (hn:l.most=some n) {P:Params}{h:Heap}{args:List WData}{vals:List Value}
  (hpre:l.row.toRowW.claim.pre args=true) (hwl:WellAll P h vals args) :
  ∃ a vs ns,vals=[Value.ref a]/\args=[WData.list (ns.map WData.int)]/\h.get? a=some { cls:=.type "list",data:=.seq vs.toArray }/\IntsAre vs ns/\ns.length<=n:=by
 have hsh:WShape.hasAll [] args [.list .int]=true:=(pre_splitW hpre).1;have hc:l.pre.holds [] { args:=args }=true:=(pre_splitW hpre).2;obtain⟨d,r,rfl,h1,h2⟩:=hasAllW_cons hsh;obtain rfl:=hasAllW_nil h2;obtain⟨xs,rfl,h3⟩:=hasW_list h1;obtain⟨ns,rfl⟩:=items_int h3;have hlen:ns.length<=n:=by
  unfold OpenLaw.pre at hc;have h4:(WTm.not (.lt (.lit (.int (n:Int))) (.len (.arg 0)))).holds [] { args:=[.list (ns.map .int)] }=true:=by
   have h4:=(holds_andW hc).1;rw[hn] at h4;exact h4
  have h5:=condW_of h4 (w_not (w_lt w_lit (w_len_list (w_arg rfl))));rw[List.length_map] at h5;refine Nat.le_of_not_lt fun q=>?_;have q':(n:Int)<((ns.length:Nat):Int):=by omega
  first
   | (rw[decide_eq_true q'] at h5;exact absurd h5 (by decide))
   | (simp at h5;omega)
 cases hwl with
 | cons w1 w2 =>
  cases w2
  cases w1 with
  | list ho hall=>exact⟨_,_,ns,rfl,rfl,ho,jf ns _ hall,hlen⟩
theorem ua (l:OpenLaw) (args:List WData):l.row.toRowW.claim.post args (.bool true) args=true :=
 postW_of (r:=l.row.toRowW) (X:=(true == true))
  (show WShape.has [] (.bool true) .bool=true by first|rfl|decide|simp[WShape.has,WShape.arms,WShape.armsAll])
  (show (WTm.eq .res (.lit (.bool true))).value [] { args:=args,res:=some (.bool true),after:=args }=some (.bool (true == true)) from w_eq_bool (w_res rfl) w_lit) rfl
theorem oY {l:OpenLaw}{n:Nat}{q:Program}{loose:List Str}{XP:(Str->Option Value)->Heap->Prop}{YP:World->Heap->Prop}{d:DefRec}
  (hn:l.most=some n) (hdf:d.params.defaults=[])
  (call:∀ (w:World) (s₀ s₁:Shared) (mg mb:Str->Option Value) (fa:Addr) (o:Obj) (pm cd doc:Value) (a:Addr) (vs:List Value) (ns:List Int),
   Ground q loose [] XP w s₀ mg mb s₁.heap->YP w s₁.heap ->
   s₁.heap.get? fa=some o->o.data=.func (docDef d.name d.params d.body d.scope pm cd doc)->s₁.heap.CodeRec cd d.name->mg d.name=some (.ref fa) ->
   s₁.heap.get? a=some { cls:=.type "list",data:=.seq vs.toArray }->IntsAre vs ns->ns.length<=n->s₁.gens=#[] ->
   codeAny (model l.prog w) callerA (.call (.ref fa) ⟨[.ref a],[]⟩) (fun r s'=>r=.ok (.ret (.bool true))/\OldK s₁.heap s'.heap/\s'.os=s₁.os/\AllBare s'.gens) s₁) :
  WalkO q loose XP YP l.row.toRowW d [] (fun f vs=>PySem.call f vs):=by
 intro w s₀ s₁ mg mb G Y fa o pm cd doc dV kV ho hd hcd hD hmg hg args vals as hpre hlay hrd hwl hlo;obtain rfl:dV=.none:=Dflts.none hD hdf;obtain rfl:kV=.none:=Dflts.noKw hD;obtain⟨a,vs,ns,rfl,rfl,hobj,hints,hlen⟩:=tE hn hpre hwl;refine enter_call (codeAny_mono (call w s₀ s₁ mg mb fa o pm cd doc a vs ns G Y ho (fd_plain hd) hcd hmg hobj hints hlen hg) fun r s' hq=>?_);obtain⟨rfl,h2,h3,h4⟩:=hq;exact⟨.inl ⟨.bool true,.bool true,[],rfl,fun _=>rfl,.bool true,ua l _,fun _=>⟨List.Pairwise.nil,fun _ hm=>(nomatch hm)⟩⟩,h2,h3,h4⟩
section
variable {prog:Program}{w:World}{A:Around}{E:Value->Shared->Prop}{s:Shared}{K:Frag}
end
end Att
namespace L2
open PySem PySem.Spec PyProof.Rows
theorem lU:∀ {vs:List Value}{ns:List Int},IntsAre vs ns->Vals (ns.map V.int) vs
 | _,_,.nil=>.nil
 | _,_,.cons n t h=>.cons ⟨t,rfl⟩ (lU h)
noncomputable def Ab (H:Hp):Prop:=∀ b,H b=none\/∃ o xs,H b=some (.frz o (.lst xs))
theorem vk {P:Program}{w:World}{K:PySem.W.Frag}{mg mb:Str->Option Value}{CX:lT}{k:Nat}{fa a:Addr}{fd:FuncData}{x:Str}{sp:Sp}{s₁:Shared}{vs:List Value}{ns:List Int}
  (KX:K.In s₁.heap) (hns:s₁.heap.Ns mainGlobals mg) (hb:s₁.heap.Ns builtinsNs mb) (hbb:∀ x:Str,x≠"__name__"->mb x=bootBuiltins x) (hlim:s₁.heap.NoLimit) (hg:s₁.gens=#[])
  (ha:s₁.heap.get? a=some { cls:=.type "list",data:=.seq vs.toArray }) (hi:IntsAre vs ns) (hl:ns.length<=sizeLine) (hr:cj k callerA)
  (F:∀ base:Heap,K.In base->base.Ns mainGlobals mg->aS P w K mg base CX k fa fd [x] sp) (hbind:∀ (s:Shared) (u:Value),BindsTo s fd ⟨[u],[]⟩ [(x,u)])
  (hsp:∀ H:Hp,Ab H->aO K H a (ns.map V.int)->sp [.ref a] H (fun v _=>v=.bl true) fun _ _ _=>False)
  (hCX:∀ H e s',CX [] H s₁ (fun _ _ _=>False) e s'->False) :
  codeAny (model P w) callerA (.call (.ref fa) ⟨[.ref a],[]⟩) (fun r s'=>r=.ok (.ret (.bool true))/\OldK s₁.heap s'.heap/\s'.os=s₁.os/\AllBare s'.gens) s₁:=by
 have rv:=lU hi;have lenV:=hi.length;have core:∀ H:Hp,Ab H->aO K H a (ns.map V.int)->fq P w H s₁.heap->(∀ b,H b≠none->b=a)->(H a≠none->K.lookup a=none) ->
   codeAny (model P w) callerA (.call (.ref fa) ⟨[.ref a],[]⟩) (fun r s'=>r=.ok (.ret (.bool true))/\OldK s₁.heap s'.heap/\s'.os=s₁.os/\AllBare s'.gens) s₁:=by
  intro H hO hS hok hA hK;have base_of:∀ {b:Addr}{o:Obj},s₁.heap.get? b=some o->H b=none->(mV s₁.heap H).get? b=some o:=fun e n=>vT e n;have noA:∀ {b:Addr}{o:Obj}{es:Array DictEntry}{ep:Nat},s₁.heap.get? b=some o->o.data=.dict es ep->H b=none:=fun {b o es ep} e d=>by
   cases q:H b with
   | none=>rfl
   | some u =>
    have e':b=a:=hA b (by rw[q];simp);subst e';rw[ha] at e;cases e;have d':Data.seq vs.toArray _=Data.dict es ep:=d
    cases d'
  have nsK:∀ {b:Addr}{m:Str->Option Value},s₁.heap.Ns b m->(mV s₁.heap H).Ns b m:=fun {b m} ⟨o,es,ep,e,d,r⟩=>⟨o,es,ep,base_of e (noA e d),d,r⟩;have hKb:K.In (mV s₁.heap H):=fun b o e=>base_of (KX b o e) (by
   cases q:H b with
   | none=>rfl
   | some u =>
    have e':b=a:=hA b (by rw[q];simp);subst e';rw[hK (by rw[q];simp)] at e;cases e)
  have hM:Mod K mg (mV s₁.heap H):=⟨hKb,nsK hns,⟨mb,nsK hb,hbb⟩,let ⟨mc,h1,h2⟩:=hlim;⟨mc,nsK h1,h2⟩⟩;have e0:qE P w K mg (mV s₁.heap H) callerA [] s₁ H:=⟨rfl,hM,fun b o e=>yI e,Nat.le_of_eq (sZ _ _),trivial,fun b hb=>absurd (show b∈([]:List Addr) from hb) (by simp),hok,.of_eq hg⟩;refine codeAny_mono ((F _ hKb (nsK hns)).run callerA [] s₁ H ⟨[.ref a],[]⟩ [.ref a] [.ref a] _ _ hr e0 (hbind s₁ (.ref a)) (.cons rfl .nil) (hsp H hO hS)) fun r s' h=>?_
  cases r with
  | error e=>exact (hCX H e s' h).elim
  | ok fl =>
   cases fl with
   | next=>exact False.elim h
   | brk=>exact False.elim h
   | cont=>exact False.elim h
   | ret u =>
    obtain⟨v,H',os,bare,un,hok',r',q⟩:=h;have q':v=.bl true:=q;subst q';obtain rfl:u=Value.bool true:=r';refine⟨rfl,OldK.of_keep fun b o e=>?_,os,bare⟩
    cases q:H b with
    | none=>exact un.keep b o e q (by intro z;exact absurd (show b∈([]:List Addr) from z) (by simp)) (by simp)
    | some u =>
     rcases hO b with z|⟨ob,xs,z⟩
     ·rw[q] at z;cases z
     ·have z2:=un.frzs b ob _ z
      obtain⟨e1,_⟩:=hok b _ z;obtain⟨e2,_⟩:=hok' b _ z2;rw[e] at e1;cases e1;exact e2
 cases hk:K.lookup a with
 | some o =>
  have e:=KX a o hk;rw[ha] at e
  cases e;refine core (fun _=>none) (fun _=>.inl rfl) (.inr ⟨_,vs.toArray,_,hk,rfl,rfl,rfl,by rw[List.size_toArray,lenV];exact hl,by simpa using rv⟩) (fun b u z=>by have z':(none:Option HO)=some u:=z;cases z') (fun b z=>absurd rfl z) fun z=>absurd rfl z
 | none =>
  refine core (fun b=>if b=a then some (.frz { cls:=.type "list",data:=.seq vs.toArray } (.lst (ns.map V.int))) else none) (fun b=>?_) (.inl (.inr ⟨{ cls:=.type "list",data:=.seq vs.toArray },if_pos rfl⟩)) (fun b u z=>?_) (fun b z=>?_) fun _=>hk
  ·by_cases hb:b=a
   ·exact .inr ⟨_,_,if_pos hb⟩
   ·exact .inl (if_neg hb)
  ·by_cases hb:b=a
   ·have z':=(if_pos hb).symm.trans z
    cases z';subst hb;exact⟨ha,by rw[List.length_map];exact hl,vs,_,rv,ha⟩
   ·have z':=(if_neg hb).symm.trans z
    cases z'
  ·by_cases hb:b=a
   ·exact hb
   ·exact absurd (if_neg hb) z
end L2
namespace L2
open PySem PySem.Spec PyProof.Rows
theorem xY {l:PySem.W.OpenLaw}{n k:Nat}{q:Program}{loose:List Str}{XP:(Str->Option Value)->Heap->Prop}{YP:World->Heap->Prop}{d:DefRec}{K:Params->PySem.W.Frag}{CX:World->lT}{sp:World->Sp}{x:Str}
  (hn:l.most=some n) (hn2:n<=sizeLine) (hdf:d.params.defaults=[]) (hr:cj k callerA)
  (hY:∀ (w:World) (h:Heap),YP w h->(K w.params).In h)
  (F:∀ (w:World) (mg:Str->Option Value) (fa:Addr) (h:Heap),(K w.params).In h->h.Ns mainGlobals mg->mg d.name=some (.ref fa) ->
   ∃ fd:FuncData,(∀ (s:Shared) (u:Value),BindsTo s fd ⟨[u],[]⟩ [(x,u)]) /\
    ∀ base:Heap,(K w.params).In base->base.Ns mainGlobals mg->aS l.prog w (K w.params) mg base (CX w) k fa fd [x] (sp w))
  (hsp:∀ (w:World) (H:Hp) (a:Addr) (ns:List Int),ns.length<=n->Ab H->aO (K w.params) H a (ns.map V.int)->sp w [.ref a] H (fun v _=>v=.bl true) fun _ _ _=>False)
  (hCX:∀ (w:World) (H:Hp) (s:Shared) (e:Value) (s':Shared),CX w [] H s (fun _ _ _=>False) e s'->False) :
  PySem.W.WalkO q loose XP YP l.row.toRowW d [] (fun f vs=>PySem.call f vs):=by
 refine Att.oY hn hdf fun w s₀ s₁ mg mb fa o pm cd doc a vs ns G Y ho hd hcd hmg hobj hints hlen hg=>?_;have KX:=hY w _ Y;obtain⟨fd,hb,hF⟩:=F w mg fa _ KX G.T.g hmg;exact vk KX G.T.g G.T.b G.T.builtins G.T.nolimit hg hobj hints (Nat.le_trans hlen hn2) hr hF hb (fun H hO hS=>hsp w H a ns hlen hO hS) fun H e s'=>hCX w H s₁ e s'
end L2
namespace L2
open PySem PySem.Spec PyProof.Rows
noncomputable def inClass (s:Stmt) (j:Nat):Stmt:=match s with
 | .ClassDef _ _ _ body _ _ _ _ _ _ _=>body.getD j (.Pass ⟨0,0,0,0⟩)
 | _=>.Pass ⟨0,0,0,0⟩
noncomputable def dC (s:Stmt):Arguments:=match s with
 | .FunctionDef _ a _ _ _ _ _ _ _ _=>a
 | _=>{ posonlyargs:=[],args:=[],vararg:=none,kwonlyargs:=[],kw_defaults:=[],kwarg:=none,defaults:=[] }
noncomputable def cR (s:Stmt):List Stmt:=match s with
 | .FunctionDef _ _ b _ _ _ _ _ _ _=>b
 | _=>[]
noncomputable def aq (s:Stmt):Scope:=match s with
 | .FunctionDef _ _ _ _ _ _ sc _ _ _=>sc
 | _=>{ kind:=.function,names:=[],isGenerator:=false,isCoroutine:=false }
noncomputable abbrev aQ:lT:=fun _ _ _ _ _ _=>False
noncomputable abbrev E0:XK:=fun _ _ _=>False
theorem eB {X:Cx}:Passes aQ X E0:=fun _ _ _ _ _ _ _ h=>h.elim
structure cG (K:PySem.W.Frag) (x qual:Str) (st:Stmt) (f:Addr) (fd:FuncData):Prop where
 ex:∃ (oc:Value) (od:Option Addr) (kV doc pm:Value) (an:Option Addr) (cdv ct:Value) (osl:Array (Option Value)),
  fd=PySem.W.fnOf x qual (dC st) (cR st) (aq st) .none kV doc pm an cdv ct/\K.lookup f=some ⟨oc,od,.func fd,osl⟩/\PySem.W.codeIn K cdv qual=true
 kp:PySem.W.keepIn K (.ref f)=true
section
variable {P:Program}{w:World}{K:PySem.W.Frag}{mg:Str->Option Value}{base:Heap}
theorem cG.ok {x qual:Str}{st:Stmt}{f:Addr}{fd:FuncData}{N ps:List Str}{k:Nat}{sp:Sp} (F:cG K x qual st f fd) (S:az N ps (aq st)) (len:∀ vs H Q E,sp vs H Q E->vs.length=ps.length)
  (hbody:∀ (cdv:Value) (A:Around) (outer:List Env) (s:Shared) (H:Hp) (vs:List V) (Q:VK) (E:XK),cj k (A.deeper (envOfC qual (aq st) s.heap.objs.size f cdv))->sp vs H Q E ->
   ∃ t,oC (i_ aQ P w K mg base N qual (aq st) f cdv A outer s H E).EV (cR st) t/\t { nx:=fun _ H'=>Q .non H',rt:=Q } (start N vs) H):aS P w K mg base aQ (k+1) f fd ps sp:=by
 obtain⟨oc,od,kV,doc,pm,an,cdv,ct,osl,rfl,lk,hcd⟩:=F.ex;refine zd lk hcd S len fun A outer s H vs Q E hr hsp=>?_;obtain⟨t,h,q⟩:=hbody cdv A outer s H vs Q E hr hsp;exact⟨t,h.EV,q⟩
theorem qr {x qual:Str}{st:Stmt}{f:Addr}{oc:Value}{od an:Option Addr}{osl:Array (Option Value)}{kV doc pm cdv ct:Value} (l:K.lookup f=some ⟨oc,od,.func (PySem.W.fnOf x qual (dC st) (cR st) (aq st) .none kV doc pm an cdv ct),osl⟩)
  (c:PySem.W.codeIn K cdv qual=true) (k:PySem.W.keepIn K (.ref f)=true):cG K x qual st f (PySem.W.fnOf x qual (dC st) (cR st) (aq st) .none kV doc pm an cdv ct):=⟨⟨oc,od,kV,doc,pm,an,cdv,ct,osl,rfl,l,c⟩,k⟩
end
theorem dk {A:Around}{k:Nat} (hr:cj k A):A.units+1<cLine:=Nat.lt_of_le_of_lt (Nat.add_le_add_left (by decide:1<=64) _) hr.units
section
variable {X:Cx}
theorem pv (i:Nat) {x:Str}{pos:Pos} (hN:X.N[i]?=some x:=by rfl) (hv:Dh X.env.scope x:=by first|exact Or.inl rfl|exact Or.inr (Or.inl rfl)|exact Or.inr (Or.inr rfl)) (hd:(x == ("__debug__":Str))=false:=by decide)
  (hcd:(x == ("__classdict__":Str))=false:=by decide):PE X (.Name x pos) (kH i):=Bx hN hv hd hcd
theorem tm:ck X (.builtin "len") (fun xs H Q=>∃ a kvs,xs=[V.ref a]/\H a=some (.dK kvs)/\Q (.int kvs.length) H):=by
 intro pins s σ H xs us Q I r h;obtain⟨a,kvs,rfl,ha,q⟩:=h;obtain⟨u,rfl,ru⟩:=vals1 r
 cases ru;exact Em I (.inl ha) fun t s' I'=>⟨.int kvs.length,H,I',⟨t,rfl⟩,q⟩
end
theorem Fy {A B:Prop} (h:B):if false=true then A else B:=by
 rw[if_neg Bool.false_ne_true];exact h
theorem Fn {A B:Prop} (h:A):if true=true then A else B:=by
 rw[if_pos rfl];exact h
noncomputable def aE (H H':Hp):Prop:=∀ b o,H b=some o->H' b=some o
theorem aE.refl (H:Hp):aE H H:=fun _ _ h=>h
theorem aE.trans {H H1 H2:Hp} (a:aE H H1) (b:aE H1 H2):aE H H2:=fun c o h=>b c o (a c o h)
theorem aE.free {H H':Hp} (e:aE H H') {l:Addr} (h:H' l=Option.none):H l=Option.none:=by
 cases q:H l with
 | none=>rfl
 | some o =>
  rw[e l o q] at h
  cases h
section
variable {κ:Type} [DecidableEq κ]
theorem nO:∀ {l:List κ}{k:κ},l.Nodup->¬ k∈l->(l++[k]).Nodup
 | [],k,_,_=>by simp
 | a::r,k,h,hk=>by
  obtain⟨h1,h2⟩:=List.nodup_cons.mp h;show (a::(r++[k])).Nodup;refine List.nodup_cons.mpr ⟨fun m=>?_,nO h2 fun m=>hk (List.mem_cons.mpr (Or.inr m))⟩;rcases List.mem_append.mp m with q|q
  ·exact h1 q
  ·exact hk (List.mem_cons.mpr (Or.inl (List.mem_singleton.mp q).symm))
end
end L2
end
section
namespace L2
open PySem PySem.Spec PyProof.Rows
noncomputable def pick (ix:List (Option Nat)) (σ:St):St:=ix.map fun o =>
 match o with
 | some j=>(match σ[j]? with
  | some (some v)=>some v
  | _=>none)
 | none=>none
noncomputable def Wk (σ σ':St):Prop:=σ'.length=σ.length/\∀ (i:Nat) v,σ[i]?=some (some v)->σ'[i]?=some (some v)
theorem Wk.set {σ:St}{i:Nat}{v:V} (h:σ[i]?=some none):Wk σ (σ.set i (some v)):=by
 refine⟨by simp,fun j u e=>?_⟩;have ne:i≠j:=by rintro rfl;rw[h] at e;cases e
 rw[List.getElem?_set_ne ne];exact e
theorem Wk.FJ {σ:St}{i j:Nat}{v u:V} (h:σ[i]?=some none) (h':σ[j]?=some none):Wk σ ((σ.set i (some v)).set j (some u)):=by
 refine⟨by simp,fun k w e=>?_⟩;have ne:i≠k:=by rintro rfl;rw[h] at e;cases e
 have ne':j≠k:=by rintro rfl;rw[h'] at e;cases e
 rw[List.getElem?_set_ne ne',List.getElem?_set_ne ne];exact e
noncomputable abbrev lN (X:Cx) (scope:Scope) (cl:List (Str×Addr)) (C:Addr) (N':List Str) (fp:List Addr) (s:Shared) (H:Hp):Cx :=
 { X with N:=N',s₀:=s,H₀:=H,env:=compEnvC scope cl C X.env,outer:=X.stack,stack:=X.stack,ex:=fp,fn:=fun _=>false,pn:=[],xe:=fun _ _=>False }
noncomputable def Ci (X:Cx) (ifs:List Expr) (t:TT):Prop :=
 ∀ (pins:List (Addr×Obj)) (s:Shared) (σ:St) (H:Hp) (Q:Bool->Hp->Prop),Inv X pins σ H s->t σ H Q ->
  wpAny (model X.prog X.w) X.A (forIn ifs true fun c r=>if r=true then do
   let ok <- isTrue c X.env (eval c X.env)
   pure (ForInStep.yield ok) else pure (ForInStep.yield r)) (TP X pins σ Q) X.xe s
noncomputable def zU:TT:=fun _ H Q=>Q true H
theorem di {X:Cx}:Ci X [] zU:=fun _ _ _ H _ I h=>wpAny_tests_nil ⟨H,I,h⟩
theorem dA {X:Cx}{c:Expr}{t:TT} (h:PT X c t):Ci X [c] t:=fun pins s σ H Q I hq=>wpAny_tests_one (h pins s σ H Q I hq)
theorem oe {prog:Program}{w:World}{A:Around}{R:Result->Shared->Prop}{elt target iter:Expr}{ifs:List Expr}{scope:Scope}{pos:Pos}{it acc:Value}{env:Env} (Z:Nat->Shared->Prop)
  (turn:∀ n s,Z n s->wpAny (model prog w) A (pyNext it) (fun r s1=>match r with
   | none=>R (.ok .next) s1
   | some v=>wpAny (model prog w) A (letOwnedTupleGo target it v) (fun _ s2=>wpAny (model prog w) A (assign target env v) (fun _ s3 =>
     wpAny (model prog w) A (forIn ifs true fun c r=>if r=true then do
      let ok <- isTrue c env (eval c env)
      pure (ForInStep.yield ok) else pure (ForInStep.yield r)) (fun ok s4 =>
       if ok=true then wpAny (model prog w) A (eval elt env) (fun x s5=>wpAny (model prog w) A (call (.builtin "list.append") [acc,x]) (fun _ s6=>∃ m,m<n/\Z m s6) (fun _ _=>False) s5) (fun _ _=>False) s4
       else ∃ m,m<n/\Z m s4) (fun _ _=>False) s3) (fun _ _=>False) s2) (fun _ _=>False) s1) (fun _ _=>False) s)
  (n:Nat) {s:Shared} (h:Z n s):codeAny (model prog w) A (.compLoop (.ListComp elt [⟨target,iter,ifs,0⟩] scope pos) 0 it acc env) R s:=by
 refine codeAny_loop rfl Z (fun n s hZ=>?_) n h;show wpAny _ A ((compTurn (.ListComp elt [⟨target,iter,ifs,0⟩] scope pos) 0 it acc env).onRaise (fun x=>do
  noteFrame x env
  theTreesLotGoes x)) _ _ s
 refine wpAny_noted ?_;rw[compTurn_list];have no:∀ {α:Type}{m:Sem α}{Q:α->Shared->Prop}{E':Value->Shared->Prop}{s:Shared},wpAny (model prog w) A m Q (fun _ _=>False) s->wpAny (model prog w) A m Q E' s :=
  fun h=>wpAny_mono h (fun _ _ q=>q) fun _ _ z=>False.elim z
 refine wpAny_bind (wpAny_standAt (wpAny_bind (no (bC (turn n s hZ) fun r s1 h1=>?_))))
 cases r with
 | none=>exact wpAny_pure h1
 | some v =>
  refine wpAny_bind (no (bC h1 fun _ s2 h2=>wpAny_bind (no (bC h2 fun _ s3 h3=>wpAny_bind (no (bC h3 fun ok s4 h4=>?_))))))
  cases ok with
  | false=>exact wpAny_pure ⟨rfl,h4⟩
  | true=>exact wpAny_bind (wpAny_bind (no (bC h4 fun x s5 h5=>wpAny_bind (no (bC h5 fun _ s6 h6=>wpAny_pure (wpAny_pure ⟨rfl,h6⟩))))))
theorem fq.Dz {P:Program}{w:World}{H:Hp}{h:Heap}{a:Addr}{o:HO} (x:fq P w H h) (hn:H a=none) (new:bK P w (upd H a o) h a o):fq P w (upd H a o) h:=fun b u e=>by
 by_cases hb:b=a
 ·subst hb;rw[aa] at e;cases e;exact new
 ·rw[ah hb] at e
  exact (x b u e).qg (fun c v _ q=>q) (fun c q=>by rw[ah (ai q hn)];exact q) fun c xs q=>by rw[ah (ai q hn)];exact q
structure AM (X:Cx) (scope:Scope) (cl:List (Str×Addr)):Prop where
 is:closureFor scope X.env=pure cl
 sub:∀ x c,cl.lookup x=some c->X.env.cells.lookup x=some c
 has:∀ x,scope.names.lookup x=some .free->∃ c,cl.lookup x=some c
structure fK (X:Cx) (scope:Scope) (N':List Str) (ix:List (Option Nat)):Prop where
 kind:scope.kind=.function
 nocell:∀ y∈scope.names,y.2≠.cell
 names:∀ y∈scope.names,y.2=.local->scope.names.lookup y.1=some .local
 len:ix.length=N'.length
 at_:∀ (i j:Nat),ix[i]?=some (some j)->∃ x,N'[i]?=some x/\X.N[j]?=some x/\scope.names.lookup x=some .free
 free_:∀ y∈scope.names,y.2=.free->X.env.scope.names.lookup y.1=some .cell\/X.env.scope.names.lookup y.1=some .free
theorem fK.free {X:Cx}{scope:Scope}{N':List Str}{ix:List (Option Nat)} (S:fK X scope N' ix):∀ x,scope.names.lookup x=some .free->X.env.scope.names.lookup x=some .cell\/X.env.scope.names.lookup x=some .free :=
 fun x h=>S.free_ (x,.free) (PySem.mem_of_lookup h) rfl
theorem nE {env:Env}{f:Str×NameKind->List (Str×Addr)->Sem (ForInStep (List (Str×Addr)))} (h1:∀ n c cs,env.cells.lookup n=some c->f (n,.free) cs=pure (.yield ((n,c)::cs))) (h2:∀ n k cs,k≠.free->f (n,k) cs=pure (.yield cs)) :
  ∀ (l:List (Str×NameKind)) (cs:List (Str×Addr)),(∀ y∈l,y.2=.free->∃ c,env.cells.lookup y.1=some c) ->
  ∃ cl:List (Str×Addr),forIn l cs f=pure (cl++cs)/\(∀ p∈cl,env.cells.lookup p.1=some p.2)/\(∀ y∈l,y.2=.free->∃ c,(y.1,c)∈cl)
 | [],cs,_=>⟨[],rfl,by simp,by simp⟩
 | (n,k)::r,cs,h=>by
  by_cases hk:k=.free
  ·subst hk
   obtain⟨c,hc⟩:=h (n,.free) List.mem_cons_self rfl;obtain⟨cl,e1,e2,e3⟩:=nE h1 h2 r ((n,c)::cs) fun y hy=>h y (List.mem_cons_of_mem _ hy);refine⟨cl++[(n,c)],?_,?_,?_⟩
   ·rw[List.forIn_cons,h1 n c cs hc,pure_bind]
    show forIn r ((n,c)::cs) f=_;rw[e1,List.append_assoc]
    rfl
   ·intro p hp
    rcases List.mem_append.mp hp with z|z
    ·exact e2 p z
    ·have e:p=(n,c):=by simpa using z
     subst e;exact hc
   ·intro y hy hf
    rcases List.mem_cons.mp hy with z|z
    ·subst z;exact⟨c,by simp⟩
    ·obtain⟨c',q⟩:=e3 y z hf
     exact⟨c',List.mem_append_left _ q⟩
  ·obtain⟨cl,e1,e2,e3⟩:=nE h1 h2 r cs fun y hy=>h y (List.mem_cons_of_mem _ hy)
   refine⟨cl,?_,e2,?_⟩
   ·rw[List.forIn_cons,h2 n k cs hk,pure_bind]
    exact e1
   ·intro y hy hf
    rcases List.mem_cons.mp hy with z|z
    ·subst z;exact absurd hf hk
    ·exact e3 y z hf
theorem uk {cl:List (Str×Addr)}{x:Str}{c:Addr} (h:(x,c)∈cl):∃ c',cl.lookup x=some c':=by
 induction cl with
 | nil=>cases h
 | cons p r ih =>
  obtain⟨n,c0⟩:=p
  cases hx:x == n with
  | true=>exact⟨c0,by simp only[List.lookup_cons,hx]⟩
  | false =>
   rcases List.mem_cons.mp h with z|z
   ·cases z;rw[beq_self_eq_true] at hx;cases hx
   ·obtain⟨c',q⟩:=ih z
    exact⟨c',by simp only[List.lookup_cons,hx,q]⟩
theorem sA {X:Cx}{scope:Scope}{N':List Str}{ix:List (Option Nat)} (ok:X.Ok) (S:fK X scope N' ix):∃ cl,AM X scope cl:=by
 have go:=nE (env:=X.env) (f:=fun x r=>match x with
  | (name,kind)=>if (kind == NameKind.free)=true then do
    let a <- cellOf X.env name
    pure (ForInStep.yield ((name,a)::r)) else pure (ForInStep.yield r)) (fun n c cs hc=>by
   show (cellOf X.env n >>= fun a=>pure (ForInStep.yield ((n,a)::cs)))=_;unfold cellOf;rw[hc]
   rfl) (fun n k cs hk=>by
   have:(k == NameKind.free)=false:=by simpa using hk
   simp only[this,Bool.false_eq_true,if_false]) scope.names [] fun y hy hf=>ok.has y.1 ((S.free_ y hy hf).elim .inl .inr)
 obtain⟨cl,e1,e2,e3⟩:=go;refine⟨cl,?_,fun x c h=>e2 (x,c) (PySem.mem_of_lookup h),fun x h=>?_⟩
 ·unfold closureFor
  rw[List.append_nil] at e1;show (_ >>= _)=_;refine Eq.trans (congrArg (· >>= _) e1) ?_
  rfl
 ·obtain⟨c,q⟩:=e3 (x,.free) (PySem.mem_of_lookup h) rfl
  exact uk q
theorem dP {env:Env}:∀ {names:List (Str×NameKind)}{x:Str}{k:NameKind},
  (names.map fun (n,k)=>if (k == NameKind.free && env.scope.kind == .function && env.kindOf n == some .cell) then (n,NameKind.cell) else (n,k)).lookup x=some k ->
  names.lookup x=some k\/(names.lookup x=some .free/\k=.cell)
 | [],_,_,h=>by simp at h
 | (n,k0)::r,x,k,h=>by
  have ih:=@dP env r x k;have h:List.lookup x ((if (k0 == NameKind.free && env.scope.kind == .function && env.kindOf n == some .cell)=true then (n,NameKind.cell) else (n,k0))::_)=some k:=h
  cases hx:x == n with
  | true =>
   by_cases hc:(k0 == NameKind.free && env.scope.kind == .function && env.kindOf n == some .cell)=true
   ·rw[if_pos hc] at h
    simp only[List.lookup_cons,hx] at h ⊢;have e:k0=.free:=by
     rw[Bool.and_eq_true,Bool.and_eq_true] at hc;exact eq_of_beq hc.1.1
    right
    cases h;exact⟨by rw[e],rfl⟩
   ·rw[if_neg hc] at h
    simp only[List.lookup_cons,hx] at h ⊢;exact .inl h
  | false =>
   by_cases hc:(k0 == NameKind.free && env.scope.kind == .function && env.kindOf n == some .cell)=true
   ·rw[if_pos hc] at h
    simp only[List.lookup_cons,hx] at h ⊢;exact ih h
   ·rw[if_neg hc] at h
    simp only[List.lookup_cons,hx] at h ⊢;exact ih h
theorem dz {env:Env}:∀ {names:List (Str×NameKind)}{x:Str},names.lookup x=some .free ->
  (names.map fun (n,k)=>if (k == NameKind.free && env.scope.kind == .function && env.kindOf n == some .cell) then (n,NameKind.cell) else (n,k)).lookup x=some .free \/
  (names.map fun (n,k)=>if (k == NameKind.free && env.scope.kind == .function && env.kindOf n == some .cell) then (n,NameKind.cell) else (n,k)).lookup x=some .cell
 | [],_,h=>by simp at h
 | (n,k0)::r,x,h=>by
  have ih:=@dz env r x;show List.lookup x ((if (k0 == NameKind.free && env.scope.kind == .function && env.kindOf n == some .cell)=true then (n,NameKind.cell) else (n,k0))::_)=_\/List.lookup x ((if (k0 == NameKind.free && env.scope.kind == .function && env.kindOf n == some .cell)=true then (n,NameKind.cell) else (n,k0))::_)=_
  cases hx:x == n with
  | true =>
   simp only[List.lookup_cons,hx] at h
   cases h
   by_cases hc:(NameKind.free == NameKind.free && env.scope.kind == .function && env.kindOf n == some .cell)=true
   ·rw[if_pos hc];right;simp only[List.lookup_cons,hx]
   ·rw[if_neg hc];left;simp only[List.lookup_cons,hx]
  | false =>
   simp only[List.lookup_cons,hx] at h
   by_cases hc:(k0 == NameKind.free && env.scope.kind == .function && env.kindOf n == some .cell)=true
   ·rw[if_pos hc];simp only[List.lookup_cons,hx];exact ih h
   ·rw[if_neg hc];simp only[List.lookup_cons,hx];exact ih h
theorem vC {ix:List (Option Nat)}{σ:St}{i:Nat}{v:V} (h:(pick ix σ)[i]?=some (some v)):∃ j,ix[i]?=some (some j)/\σ[j]?=some (some v):=by
 unfold pick at h;rw[List.getElem?_map] at h
 cases e:ix[i]? with
 | none=>rw[e] at h;cases h
 | some o =>
  rw[e] at h
  cases o with
  | none=>cases h
  | some j =>
   refine⟨j,rfl,?_⟩;have h':(match σ[j]? with
    | some (some v)=>some v
    | _=>none)=some v:=Option.some.inj h
   split at h'
   ·rename_i u q
    cases h';exact q
   ·cases h'
section
variable {X:Cx}{pins:List (Addr×Obj)}{σ:St}{scope:Scope}{cl:List (Str×Addr)}{N':List Str}{ix:List (Option Nat)}
theorem Inv.comp {fp:List Addr}{H:Hp}{s s4:Shared}{C:Addr}{m:Str->Option Value} (I:Inv X pins σ H s) (K:AM X scope cl) (S:fK X scope N' ix) (hc:s.heap.objs.size<=C)
  (hf:∀ b∈fp,kL X pins H b) (hfp:∀ b∈fp,b<s.heap.objs.size) (ho:s4.os=s.os) (hb:AllBare s4.gens) (k:∀ b o,s.heap.get? b=some o->s4.heap.get? b=some o) (hn:s4.heap.Ns C m) :
  Inv (lN X scope cl C N' fp s H) [] (pick ix σ) H s4:=by
 have ltc:∀ x c,X.env.cells.lookup x=some c->c<s.heap.objs.size:=fun x c e=>by
  obtain⟨v,z⟩:=I.cell x c e;exact z.lt
 refine⟨⟨I.ok.mod,S.kind,I.ok.glob,I.ok.blt,hc,fun x y c h1 h2=>I.ok.inj x y c (K.sub x c h1) (K.sub y c h2),fun x hx=>?_,(fun x c z=>nomatch z),I.ok.hd,I.ok.frames,.inl rfl,fun b hb=>?_,
   I.bs,Nat.le_trans I.ok.bsz I.sz,fun b o e hb=>?_,fun b hb hs=>?_,I.stack,I.jq⟩,
  ho,hb,Un.kept k,⟨m,hn,fun i x v e1 e2 e3=>?_⟩,fun x c e=>?_,I.hok.fresh hc,fun x c e=>I.freeC x c (K.sub x c e),fun p hp=>absurd (show p∈([]:List (Addr×Obj)) from hp) (by simp),I.hok.kept k,?_⟩
 ·refine K.has x ?_
  rcases hx with hx|hx
  ·rcases dP (env:=X.env) hx with z|z
   ·exact absurd rfl (S.nocell _ (PySem.mem_of_lookup z))
   ·exact z.1
  ·rcases dP (env:=X.env) hx with z|z
   ·exact z
   ·exact nomatch z.2
 ·refine⟨Nat.ne_of_lt (Nat.lt_of_lt_of_le (hfp b hb) hc),fun x c e=>?_⟩
  exact (hf b hb).2.2.2.2.1 x c (K.sub x c e)
 ·rcases (hf b hb).2.2.2.1 with z|z
  ·exact I.ok.noex b o e z
  ·exact absurd (Nat.lt_of_lt_of_le (Heap.lt_size (I.ok.bs b o e).1) z) (Nat.lt_irrefl _)
 ·rcases List.mem_cons.mp (I.nW b hs) with z|z
  ·exact (hf b hb).2.1 z
  ·exact (hf b hb).2.2.1 z
 ·obtain⟨j,q1,q2⟩:=vC e2
  obtain⟨y,n1,n2,n3⟩:=S.at_ i j q1;have e1:N'[i]?=some x:=e1;rw[e1] at n1
  cases n1;obtain⟨m0,_,hl⟩:=I.loc;have vis:Dh X.env.scope x:=(S.free x n3).elim (fun z=>.inr (.inl z)) fun z=>.inr (.inr z);obtain⟨u,r,l⟩:=hl j x v n2 q2 vis;refine⟨u,r,.inr ⟨?_,?_⟩⟩
  ·exact (dz (env:=X.env) n3).elim .inr .inl
  ·obtain⟨c,ec⟩:=K.has x n3
   refine⟨c,ec,?_⟩;rcases l with ⟨kl,_⟩|⟨_,c',e',z⟩
   ·have kl:X.env.scope.names.lookup x=some .local:=kl
    rcases S.free x n3 with z|z
    ·rw[kl] at z;cases z
    ·rw[kl] at z;cases z
   ·rw[K.sub x c ec] at e'
    cases e';exact z.keeps k
 ·obtain⟨v,z⟩:=I.cell x c (K.sub x c e)
  exact⟨v,z.keeps k⟩
 ·show (pick ix σ).length=N'.length
  unfold pick;rw[List.length_map];exact S.len
theorem kU {elt iter tg:Expr}{ifs:List Expr}{pos:Pos}{s:Shared}{H:Hp}{it:Addr}{fp:List Addr}{tn:Nat->Heap->Prop}{J:It}{g:TG}{tc:TT}{te:TE}{RR:Value->Addr->Result->Shared->Prop}{E:Value->Shared->Prop}
  (hc:X.calm=true) (K:AM X scope cl) (S:fK X scope N' ix)
  (hg:∀ C fp s H,PG (lN X scope cl C N' fp s H) tg g) (ht:∀ C fp s H,Ci (lN X scope cl C N' fp s H) ifs tc) (he:∀ C fp s H,PE (lN X scope cl C N' fp s H) elt te)
  (I:Inv X pins σ H s) (T:Turn X.prog X.w X.K tg J fp it tn) (st:tn 0 s.heap) (hf:∀ b∈fp,kL X pins H b)
  (W:Nat->Nat->List V->Hp->Prop) (F:List V->Hp->Prop) (m0:Nat) (w0:W 0 m0 [] H)
  (turn:∀ i m ys H2,W i m ys H2->(J.stop i H2/\F ys H2)\/(J.go i H2/\ys.length<sizeLine/\∀ x H3,J.yld i H2 x H3->g x (pick ix σ) H3 fun σ4 H4=>Wk (pick ix σ) σ4 /\
   tc σ4 H4 fun b H5=>if b=true then te σ4 H5 fun y H6=>∃ m',m'<m/\W (i+1) m' (ys++[y]) H6 else ∃ m',m'<m/\W (i+1) m' ys H5))
  (hRR:∀ ys H' D C s' mC,F ys H'->H' D=none->(ys.length<=sizeLine->Inv X pins σ (upd H' D (.lst ys)) s')->s'.heap.Ns C mC->upd H' D (.lst ys) C=none->C≠X.env.locals->X.s₀.heap.objs.size<=C ->
   (∀ x c,X.env.cells.lookup x=some c->c≠C)->(∀ p∈X.pn++pins,p.1≠C)->RR (.ref D) C (.ok .next) s') :
  wpAny (model X.prog X.w) X.A (newList []) (fun acc s3=>wpAny (model X.prog X.w) X.A (newFunctionEnv scope X.env.globals cl [] X.env.qual none .none (some X.env)) (fun cenv s4 =>
   codeAny (model X.prog X.w) X.A (.compStart (.ListComp elt [⟨tg,iter,ifs,0⟩] scope pos) 0 (.ref it) acc { cenv with scope:=relabel scope X.env }) (RR acc cenv.locals) s4) E s3) E s:=by
 refine wpAny_newObj_type (wpAny_newFunctionEnv S.nocell (by intro y hy;simp at hy) (fun h1 hn1 sb1=>?_) S.kind);dsimp only at hn1 sb1 ⊢;generalize hG:s.heap.push { cls:=.type "list",dict:=none,data:=.seq ([]:List Value).toArray }=G at hn1 sb1 ⊢;have hC:G.objs.size=s.heap.objs.size+1:=by rw[<- hG,Heap.size_push]
 have hD:s.heap.objs.size≠G.objs.size:=by omega
 have lC:∀ b:Nat,b<s.heap.objs.size->b≠G.objs.size:=fun b h=>by omega
 have lD:∀ b:Nat,b<s.heap.objs.size->b≠s.heap.objs.size:=fun b h=>by omega
 have hfp:∀ b∈fp,b<s.heap.objs.size:=fun b hb=>by
  obtain⟨o,e,_⟩:=T.obj 0 _ st b hb;exact Heap.lt_size e
 have old:∀ b o,s.heap.get? b=some o->h1.get? b=some o:=fun b o e=>sb1.extBut b o (lC b (Heap.lt_size e)) (Heap.get?_push_of_some _ (hG ▸ Heap.get?_push_of_some _ e));have acc0:h1.PlainList s.heap.objs.size ([]:List Value).toArray:=⟨_,sb1.extBut _ _ hD (Heap.get?_push_of_some _ (hG ▸ Heap.get?_push_size _ rfl))⟩;have fresh:∀ a,s.heap.objs.size<=a->H a=none:=fun a ha=>I.hok.fresh ha;have cD:∀ x c,cl.lookup x=some c->c<s.heap.objs.size:=fun x c e=>by
  obtain⟨v,z⟩:=I.cell x c (K.sub x c e);exact z.lt
 have loop:∀ s3:Shared,s3={ s with heap:=h1,toks:=s.toks+([]:List (Str×Value)).length } ->
   codeAny (model X.prog X.w) X.A (.compLoop (.ListComp elt [⟨tg,iter,ifs,0⟩] scope pos) 0 (.ref it) (.ref s.heap.objs.size) (compEnvC scope cl G.objs.size X.env)) (RR (.ref s.heap.objs.size) G.objs.size) s3:=by
  rintro s3 rfl;have I4:Inv (lN X scope cl G.objs.size N' fp s H) [] (pick ix σ) H { s with heap:=h1,toks:=s.toks+([]:List (Str×Value)).length }:=I.comp K S (by omega) hf hfp rfl I.bare old hn1;refine oe (env:=compEnvC scope cl G.objs.size X.env) (fun n s'=>∃ i ys its H',Inv (lN X scope cl G.objs.size N' fp s H) [] (pick ix σ) H' s'/\tn i s'.heap/\(∀ b∈fp,H' b=none)/\H' s.heap.objs.size=none /\
   s'.heap.PlainList s.heap.objs.size its.toArray/\Vals ys its/\W i n ys H') ?_ m0 ⟨0,[],[],H,I4,T.keep 0 _ _ st fun b hb o e=>old b o e,fun b hb=>(hf b hb).1,fresh _ (Nat.le_refl _),acc0,.nil,w0⟩
  rintro n s3 ⟨i,ys,its,H3,I3,st3,fr3,frD,ac3,rv3,w3⟩;have fD:kL (lN X scope cl G.objs.size N' fp s H) [] H3 s.heap.objs.size :=
   ⟨frD,hD,fun z=>by
    obtain⟨_,o,e,_⟩:=I.stack.mem z;exact absurd (Heap.lt_size e) (Nat.lt_irrefl _),.inr (Nat.le_refl _),fun x c e=>Nat.ne_of_lt (cD x c e),fun p hp=>absurd (show p∈([]:List (Addr×Obj)) from hp) (by simp)⟩
  have I3':=I3.pinned (fp:=[s.heap.objs.size]) (fun b hb=>by
   have e:b=s.heap.objs.size:=by simpa using hb
   subst e;exact fD) (fun b hb=>by
   have e:b=s.heap.objs.size:=by simpa using hb
   subst e;obtain⟨n',e'⟩:=ac3;exact⟨_,e',fun v z=>by cases (show Data.seq _ _=Data.cell v from z)⟩)
  have pD:∀ p∈[]++dQ [s.heap.objs.size] s3.heap,p.1=s.heap.objs.size:=fun p hp=>by
   have z:p∈dQ [s.heap.objs.size] s3.heap:=by simpa using hp
   simpa using (lK z).1
  have stat:∀ {H':Hp},(∀ b∈fp,H' b=none)->∀ b∈fp,kL (lN X scope cl G.objs.size N' fp s H) ([]++dQ [s.heap.objs.size] s3.heap) H' b:=fun hn b hb =>
   ⟨hn b hb,lC b (hfp b hb),fun z=>by
    rcases List.mem_cons.mp (I.nW b z) with q|q
    ·exact (hf b hb).2.1 q
    ·exact (hf b hb).2.2.1 q,.inl hb,fun x c e=>(hf b hb).2.2.2.2.1 x c (K.sub x c e),fun p hp=>by
     rw[pD p hp];exact Ne.symm (lD b (hfp b hb))⟩
  rcases turn i n ys H3 w3 with ⟨stop,fin⟩|⟨go,hsz,step⟩
  ·refine bC (T.done (lN X scope cl G.objs.size N' fp s H) rfl rfl rfl hc i _ s3 _ H3 (fun _ _=>False) I3' (stat fr3) st3 stop) fun r s4 ⟨hr,I5⟩=>?_
   subst hr;show RR _ _ (.ok .next) s4;have ac4:s4.heap.PlainList s.heap.objs.size its.toArray:=by
    obtain⟨n',e'⟩:=ac3;exact⟨n',(I5.pin (s.heap.objs.size,_) (List.mem_append_right _ (List.mem_append_right _ (df (by simp) e')))).1⟩
   obtain⟨mC,hnC,_⟩:=I5.loc;have xT:upd H3 s.heap.objs.size (.lst ys) G.objs.size=none:=by rw[ah (Ne.symm hD)];exact I5.free
   refine hRR ys H3 _ _ s4 mC fin frD (fun hz=>?_) hnC xT ?_ ?_ ?_ ?_
   ·refine I.zj (ch:=fp) I5.os ⟨fun b o e q hb hx=>I5.base.keep b o e q hb hx,fun b o e q hb hx=>I5.base.slot b o e q hb hx,fun b o e q hx=>?_,fun b o e hx=>I5.base.there b o e hx,fun b xs e=>?_,fun b o u e=>?_,fun b ps e=>?_⟩ ?_ I5.bare fun b hb=>?_
    ·rw[ah (Nat.ne_of_lt (Heap.lt_size e))];exact I5.base.free b o e q hx
    ·have z:=I5.base.tups b xs e
     rw[ah (ai z frD)];exact z
    ·have z:=I5.base.frzs b o u e
     rw[ah (ai z frD)];exact z
    ·obtain⟨more,z⟩:=I5.base.tbls b ps e
     exact⟨more,by rw[ah (ai z frD)];exact z⟩
    ·obtain⟨n',e'⟩:=ac4
     exact I5.hok.Dz frD ⟨hz,its,n',rv3,e'⟩
    ·exact⟨(hf b hb).2.2.2.1,(hf b hb).2.1,(hf b hb).2.2.2.2.1,(hf b hb).2.2.2.2.2⟩
   ·exact Ne.symm (lC _ I.lt)
   ·exact Nat.le_trans I.sz (by omega)
   ·intro x c e
    obtain⟨v,q⟩:=I.cell x c e;exact lC _ q.lt
   ·intro p hp
    exact lC _ (Heap.lt_size (I.pin p hp).1)
  ·refine bC (T.item (lN X scope cl G.objs.size N' fp s H) rfl rfl rfl hc i _ s3 _ H3 (fun _ _=>False) I3' (stat fr3) st3 go) fun r s4 ⟨u,hr,h4⟩=>?_
   subst hr;refine bC h4 fun _ s5 ⟨x,H5,I5,r5,y5,st5,fr5⟩=>?_;have I5':=I5.pinned (stat fr5) (T.obj _ _ st5);refine bC (hg _ _ _ _ _ s5 _ H5 x u _ I5' r5 (step x H5 y5)) fun _ s6 ⟨σ6,H6,I6,wk6,q6⟩=>?_;refine bC (ht _ _ _ _ _ s6 σ6 H6 _ I6 q6) fun ok s7 ⟨H7,I7,q7⟩=>?_;obtain⟨n',e'⟩:=ac3;have pin:∀ {σ' H' s'},Inv (lN X scope cl G.objs.size N' fp s H) (([]++dQ [s.heap.objs.size] s3.heap)++dQ fp s5.heap) σ' H' s'->s'.heap.PlainList s.heap.objs.size its.toArray/\H' s.heap.objs.size=none/\(∀ b∈fp,H' b=none)/\tn (i+1) s'.heap:=fun {σ' H' s'} I'=>by
    have z:=I'.pin (s.heap.objs.size,_) (List.mem_append_right _ (List.mem_append_left _ (List.mem_append_right _ (df (by simp) e'))));refine⟨⟨n',z.1⟩,z.2.1,fun b hb=>?_,T.keep _ _ _ st5 fun b hb o e=>(I'.pin (b,o) (List.mem_append_right _ (List.mem_append_right _ (df hb e)))).1⟩;obtain⟨o,e,_⟩:=T.obj _ _ st5 b hb;exact (I'.pin (b,o) (List.mem_append_right _ (List.mem_append_right _ (df hb e)))).2.1
   have free:∀ {σ' H' s'},Inv (lN X scope cl G.objs.size N' fp s H) (([]++dQ [s.heap.objs.size] s3.heap)++dQ fp s5.heap) σ' H' s'->Inv (lN X scope cl G.objs.size N' fp s H) [] σ' H' s':=fun I'=>I'.m_ fun p hp=>absurd hp (by simp)
   cases ok with
   | false =>
    rw[if_neg Bool.false_ne_true] at q7 ⊢;obtain⟨m',hm,w7⟩:=q7;obtain⟨a7,d7,f7,t7⟩:=pin I7;exact⟨m',hm,i+1,ys,its,H7,(free I7).weak wk6.1.symm wk6.2,t7,f7,d7,a7,rv3,w7⟩
   | true =>
    rw[if_pos rfl] at q7 ⊢;refine bC (he _ _ _ _ _ s7 σ6 H7 _ I7 q7) fun y s8 ⟨yv,H8,I8,r8,m',hm,w8⟩=>?_;obtain⟨a8,d8,f8,t8⟩:=pin I8;have hl:=rv3.length;refine wpAny_list_append_plain (hsz:=by rw[List.size_toArray];omega) a8 fun h' pl sb=>?_;have J8:Inv (lN X scope cl G.objs.size N' fp s H) [] (pick ix σ) H8 { s8 with heap:=h',toks:=s8.toks } :=
     ((free I8).weak wk6.1.symm wk6.2).turned (fun b o hb e=>(sb.2 b hb).trans e) d8 hD (.inr (Nat.le_refl _)) (fun x c e=>Nat.ne_of_lt (cD x c e)) fun p hp=>absurd (show p∈([]:List (Addr×Obj)) from hp) (by simp)
    refine⟨m',hm,i+1,ys++[yv],its++[y],H8,J8,T.keep _ _ _ t8 fun b hb o e=>(sb.2 b (lD b (hfp b hb))).trans e,f8,d8,?_,rv3.append (.cons r8 .nil),w8⟩;rw[<- List.push_toArray];exact pl
 exact codeAny_compStart_list (loop _ rfl) (T.self _ _ _ _ _ (T.keep 0 _ _ st fun b hb o e=>old b o e) (loop _ rfl))
end
end L2
end
section
namespace L2
open PySem PySem.Spec PyProof.Rows
section
variable {X:Cx}{scope:Scope}{N':List Str}{ix:List (Option Nat)}{elt iter tg:Expr}{ifs:List Expr}{pos:Pos}{wi:TI}{g:TG}{tc:TT}{te:TE}
noncomputable def wQ (ix:List (Option Nat)) (wi:TI) (g:TG) (tc:TT) (te:TE) (σ:St) (H:Hp) (F:List V->Hp->Prop):Prop:=wi σ H fun J H1=>∃ W:Nat->Nat->List V->Hp->Prop,(∃ m,W 0 m [] H1)/\∀ i m ys H2,W i m ys H2 ->
 (J.stop i H2/\ys.length<=sizeLine/\F ys H2) \/
 (J.go i H2/\ys.length<sizeLine/\∀ x H3,J.yld i H2 x H3->g x (pick ix σ) H3 fun σ4 H4=>Wk (pick ix σ) σ4 /\
   tc σ4 H4 fun b H5=>if b=true then te σ4 H5 fun y H6=>∃ m',m'<m/\W (i+1) m' (ys++[y]) H6 else ∃ m',m'<m/\W (i+1) m' ys H5)
noncomputable def rp (ix:List (Option Nat)) (wi:TI) (g:TG) (tc:TT) (te:TE):TE:=fun σ H Q=>wQ ix wi g tc te σ H fun ys H2=>∀ d,H2 d=none->Q (.ref d) (upd H2 d (.lst ys))
theorem cx (hc:X.calm=true) (S:fK X scope N' ix) (hi:PI X tg iter wi)
  (hg:∀ cl C fp s H,PG (lN X scope cl C N' fp s H) tg g) (ht:∀ cl C fp s H,Ci (lN X scope cl C N' fp s H) ifs tc) (he:∀ cl C fp s H,PE (lN X scope cl C N' fp s H) elt te)
  (hs:∀ x,foldedSetIterable iter X.env x=pure x:=by intro _;rfl):PE X (.ListComp elt [⟨tg,iter,ifs,0⟩] scope pos) (rp ix wi g tc te):=by
 intro pins s σ H Q I h;obtain⟨cl,K⟩:=sA I.ok S;rw[eval_ListComp];refine wpAny_comprehension_free (use:=none) rfl hs K.is S.kind S.names (bC (hi pins s σ H _ I h) fun v s1 h1=>bC h1 fun itv s2 h2=>?_);obtain⟨it,fp,tn,J,H2,e,I2,T,st2,f2,W,⟨m0,w0⟩,turn⟩:=h2;subst e;refine kU (RR:=fun acc C=>compPost (model X.prog X.w) X.A X.xe none (EP X pins σ Q) acc C) hc K S (hg cl) (ht cl) (he cl) I2 T st2 f2 W _ m0 w0 turn ?_;intro ys H' D C s' mC ⟨hz,q⟩ hD hI hn hCn hC1 hC2 hC3 hC4;refine⟨mC,hn,fun h' hs'=>⟨.ref D,_,?_,rfl,q D hD⟩⟩;exact (hI hz).turned (h':=h') (t':=s'.toks) (fun b o hb e=>(hs'.2 b hb).trans e) hCn hC1 (.inr hC2) hC3 hC4
noncomputable def wU (i:Nat) (ix:List (Option Nat)) (wi:TI) (g:TG) (tc:TT) (te:TE):TS:=fun D σ H=>wQ ix wi g tc te σ H fun ys H2=>∀ d,H2 d=none->D.nx (σ.set i (some (.ref d))) (upd H2 d (.lst ys))
theorem gY {i:Nat}{y:Str}{py spos:Pos} (hN:X.N.Nodup) (hi':X.N[i]?=some y) (hy:X.env.scope.names.lookup y=some .local) (hc:X.calm=true) (S:fK X scope N' ix) (hi:PI X tg iter wi)
  (hg:∀ cl C fp s H,PG (lN X scope cl C N' fp s H) tg g) (ht:∀ cl C fp s H,Ci (lN X scope cl C N' fp s H) ifs tc) (he:∀ cl C fp s H,PE (lN X scope cl C N' fp s H) elt te)
  (hsw:swapsWith (.ListComp elt [⟨tg,iter,ifs,0⟩] scope pos) (some (.Name y py)) spos.line X.env=pure true:=by rfl)
  (hs:∀ x,foldedSetIterable iter X.env x=pure x:=by intro _;rfl):PS X (.Assign [.Name y py] (.ListComp elt [⟨tg,iter,ifs,0⟩] scope pos) spos) (wU i ix wi g tc te):=by
 intro pins s σ H D I h;obtain⟨cl,K⟩:=sA I.ok S;rw[exec_Assign_Name_used _ _ _ _ hsw];refine wpAny_bind (wpAny_standAt (wpAny_bind ?_));show wpAny _ X.A (do
  let _ <- comprehension (.ListComp elt [⟨tg,iter,ifs,0⟩] scope pos) scope X.env _ (newList []) false (eval iter X.env) (some (assign (.Name y py) X.env))) _ _ s
 refine wpAny_bind (bC (wpAny_comprehension_free (use:=some (assign (.Name y py) X.env)) (Q:=fun _ s'=>SP X pins D .next s') rfl hs K.is S.kind S.names
  (bC (hi pins s σ H _ I h) fun v s1 h1=>bC h1 fun itv s2 h2=>?_)) fun _ s' hq=>wpAny_pure (wpAny_pure hq))
 obtain⟨it,fp,tn,J,H2,e,I2,T,st2,f2,W,⟨m0,w0⟩,turn⟩:=h2;subst e;refine kU (RR:=fun acc C=>compPost (model X.prog X.w) X.A X.xe (some (assign (.Name y py) X.env)) (fun _ s'=>SP X pins D .next s') acc C) hc K S (hg cl) (ht cl) (he cl) I2 T st2 f2 W _ m0 w0 turn ?_;intro ys H' D' C s' mC ⟨hz,q⟩ hD hI hn hCn hC1 hC2 hC3 hC4;show wpAny _ X.A (assign (.Name y py) X.env (.ref D')) _ _ _;refine wpAny_assign_Name (ma (hI hz) hN hi' (.inl hy) (show RelV (.ref D') (.ref D') from rfl) (fun s3 I3 ⟨a,sb,ha⟩=>?_) (.inr hy));have ne:C≠a:=by
  rcases ha with z|z
  ·rw[z];exact hC1
  ·exact fun w=>hC3 _ _ z w.symm
 refine⟨mC,hn.sameBut sb ne,fun h' hs'=>⟨_,_,?_,q D' hD⟩⟩;exact I3.turned (h':=h') (t':=s3.toks) (fun b o hb e=>(hs'.2 b hb).trans e) hCn hC1 (.inr hC2) hC3 hC4
end
end L2
end
section
namespace L2
open PySem PySem.Spec PyProof.Rows
noncomputable def sgn (c:Nat):V:=.str ⟨#[c]⟩
noncomputable def CD (x:Str):It:=⟨fun i _=>i<x.cps.size,fun i H v H'=>H'=H/\∃ c,x.cps[i]?=some c/\v=sgn c,fun i _=>x.cps.size<=i⟩
theorem oF {P:Program}{w:World}{K:PySem.W.Frag}{tg:Expr}{T:String}{it:Addr}{x:Str}{t:Tok}
  (hT:["enumerate","zip","dict_itemiterator","dict_reverseitemiterator","odict_iterator","itertools.zip_longest","itertools.pairwise"].contains T=false)
  (item:∀ {A:Around}{E:Value->Shared->Prop}{s:Shared}{i c:Nat}{Q:Option Value->Shared->Prop},s.heap.IsStrIter it T x t i->x.cps[i]?=some c ->
   (∀ h',h'.IsStrIter it T x t (i+1)->Heap.SameBut it s.heap h'->Q (some (.str ⟨#[c]⟩ s.toks)) { s with heap:=h',toks:=s.toks+1 })->wpAny (model P w) A (pyNext (.ref it)) Q E s)
  (done:∀ {A:Around}{E:Value->Shared->Prop}{s:Shared}{i:Nat}{Q:Option Value->Shared->Prop},A.handled=none->s.heap.IsStrIter it T x t i->x.cps[i]?=none ->
   (∀ h',Heap.ExtBut it s.heap h'->Q none { s with heap:=h' })->wpAny (model P w) A (pyNext (.ref it)) Q E s)
  (self:∀ {A:Around}{E:Value->Shared->Prop}{s:Shared}{i:Nat}{Q:Value->Shared->Prop},s.heap.IsStrIter it T x t i->Q (.ref it) s->wpAny (model P w) A (pyIter (.ref it)) Q E s) :
  Turn P w K tg (CD x) [it] it (fun i h=>h.IsStrIter it T x t i) where
 mem:=by simp
 obj:=fun i h st b hb=>by
  have e:b=it:=by simpa using hb
  subst e;obtain⟨o,e,c,d⟩:=st;exact⟨o,e,fun v z=>by rw[d] at z;cases z⟩
 keep:=fun i h h' st k=>by
  obtain⟨o,e,r⟩:=st;exact⟨o,k it (by simp) o e,r⟩
 item:=by
  intro X hP hw hK hc i pins s σ H E I hf st hg;subst hP hw hK;obtain⟨f0,f1,f2,f3,f4,f5⟩:=hf it (by simp);have hg:i<x.cps.size:=hg;refine item st (c:=x.cps[i]) (by simp[hg]) fun h' st' sb=>?_;have I1:Inv X pins σ H { s with heap:=h',toks:=s.toks+1 }:=I.turned (fun b o hb e=>(sb.2 b hb).trans e) f0 f1 f3 f4 f5;obtain⟨o,e,c,d⟩:=id st';exact⟨_,rfl,lH (s:={ s with heap:=h',toks:=s.toks+1 }) e c d hT ⟨sgn x.cps[i],H,I1,⟨_,rfl⟩,⟨rfl,_,by simp[hg],rfl⟩,st',fun b hb=>(hf b hb).1⟩⟩
 done:=by
  intro X hP hw hK hc i pins s σ H E I hf st hg;subst hP hw hK;obtain⟨f0,f1,f2,f3,f4,f5⟩:=hf it (by simp);have hg:x.cps.size<=i:=hg;exact done (I.ok.hd hc) st (by simp[hg]) fun h' eb=>⟨rfl,I.turned (t':=s.toks) (fun b o hb e=>eb b o hb e) f0 f1 f3 f4 f5⟩
 self:=fun _ _ _ _ _ st h=>self st h
section
variable {X:Cx}{tg:Expr}
noncomputable def Ao (tl:TE):TI:=fun σ H R=>tl σ H fun v H1=>∃ x,v=.str x/\R (CD x) H1
theorem qO {l:Expr}{tl:TE} (hl:PE X l tl):PI X tg l (Ao tl):=by
 intro pins s σ H R I h;refine bC (hl pins s σ H _ I h) fun v s1 ⟨y,H1,I1,r1,q1⟩=>?_;obtain⟨x,e,q⟩:=q1;subst e;obtain⟨t,rfl⟩:=r1;have fin:∀ (o:Obj) (T:String),(∀ it,s1.heap.objs.size=it->Turn X.prog X.w X.K tg (CD x) [it] it (fun i h=>h.IsStrIter it T x t i))->(s1.heap.push o).IsStrIter s1.heap.objs.size T x t 0->Ft X pins σ tg R (.ref s1.heap.objs.size) { s1 with heap:=s1.heap.push o }:=fun o T tu st=>by
  refine⟨s1.heap.objs.size,[s1.heap.objs.size],_,_,H1,rfl,I1.kept (t':=s1.toks) fun b o e=>Heap.get?_push_of_some _ e,tu _ rfl,st,fun b hb=>?_,q⟩;have e:b=s1.heap.objs.size:=by simpa using hb
  subst e;exact I1.qV (Nat.le_refl _) (I1.hok.fresh (Nat.le_refl _))
 cases ha:x.cps.all (·<128)
 ·exact wpAny_pyIter_wide ha (fin _ "str_iterator" (fun it _=>oF (by decide) (fun st e h=>wpAny_pyNext_wide_item st e h) (fun hh st e h=>wpAny_pyNext_wide_end hh st e h) (fun st h=>wpAny_pyIter_striter_wide st h)) ⟨_,Heap.get?_push_size _ rfl,rfl,rfl⟩)
 ·exact wpAny_pyIter_ascii ha (fin _ "str_ascii_iterator" (fun it _=>oF (by decide) (fun st e h=>wpAny_pyNext_ascii_item st e h) (fun hh st e h=>wpAny_pyNext_ascii_end hh st e h) (fun st h=>wpAny_pyIter_striter_ascii st h)) ⟨_,Heap.get?_push_size _ rfl,rfl,rfl⟩)
noncomputable def F7 (lo c:Int) (n:Nat):It:=⟨fun i _=>i<n,fun i H x H'=>H'=H/\x=.int (lo+i * c),fun i _=>n<=i⟩
theorem tJ {P:Program}{w:World}{K:PySem.W.Frag}{tg:Expr} (it:Addr) (lo c:Int) (n:Nat):Turn P w K tg (F7 lo c n) [it] it (fun i h=>IsRangeIter h it (lo+(i:Nat) * c) ((n:Int) - (i:Nat)) c) where
 mem:=by simp
 obj:=fun i h st b hb=>by
  have e:b=it:=by simpa using hb
  subst e;exact⟨_,st,fun v z=>by
   have z':Data.fields _=Data.cell v:=z
   cases z'⟩
 keep:=fun i h h' st k=>k it (by simp) _ st
 item:=by
  intro X hP hw hK hc i pins s σ H E I hf st hg;subst hP hw hK;obtain⟨f0,f1,f2,f3,f4,f5⟩:=hf it (by simp);have W:=Walks.range (prog:=X.prog) (w:=X.w) (I.ok.hd hc) it lo c n;refine W.item i s _ _ hg st fun v h' tk hv st' kk=>?_;obtain⟨t,rfl⟩:=hv;have I1:Inv X pins σ H { s with heap:=h',toks:=tk }:=I.turned (fun b o hb e=>kk b o (by simpa using hb) e) f0 f1 f3 f4 f5;exact⟨_,rfl,lH (s:={ s with heap:=h',toks:=tk }) (n:="range_iterator") st' rfl rfl (by decide) ⟨.int (lo+i * c),H,I1,⟨t,rfl⟩,⟨rfl,rfl⟩,st',fun b hb=>(hf b hb).1⟩⟩
 done:=by
  intro X hP hw hK hc i pins s σ H E I hf st hg;subst hP hw hK;obtain⟨f0,f1,f2,f3,f4,f5⟩:=hf it (by simp);exact wpAny_pyNext_range_end (I.ok.hd hc) st (by have:n<=i:=hg;omega) fun h' eb=>⟨rfl,I.turned (t':=s.toks) (fun b o hb e=>eb b o hb e) f0 f1 f3 f4 f5⟩
 self:=fun _ _ _ _ _ st h=>wpAny_pyIter_rangeiter st h
noncomputable def zl (ta:TA):TI:=fun σ H R=>ta σ H fun vs H1=>∃ i j:Int,vs=[.int i,.int j,.int (-1)]/\(-(2 ^ 60)<=i/\i<2 ^ 60/\-(2 ^ 60)<=j/\j<2 ^ 60)/\R (F7 i (-1) (i - j).toNat) H1
theorem tY {a b c:Expr}{ta:TA}{p pos:Pos} (hg:Gl X "range") (hm:X.mg "range"=none) (ha:PA X [a,b,c] ta)
  (hs:starEach [a,b,c] X.env=(false,eval a X.env)::starEach [b,c] X.env:=by rfl) (hs2:(backTo pos (starEach [b,c] X.env)).any (·.1)=false:=by rfl) :
  PI X tg (.Call (.Name "range" p) [a,b,c] [] pos) (zl ta):=by
 intro pins s σ H R I h;refine Call_ (gz I hg hm boot_range (PyProof.Rows.callWith_type1 (bC (ha pos pins s σ H _ I h) fun us s1 ⟨vs,H1,I1,r1,q1⟩=>?_) hs hs2));obtain⟨i,j,e,⟨q1,q2,q3,q4⟩,q⟩:=q1;subst e
 cases r1 with
 | cons r rr =>
  cases rr with
  | cons r' rr =>
   cases rr with
   | cons r'' rr =>
    cases rr;obtain⟨t,rfl⟩:=r;obtain⟨t',rfl⟩:=r';obtain⟨t'',rfl⟩:=r'';refine call_range_3 (by decide) ?_ (Or.inl (PyProof.noPylong_small (by omega)));refine wpAny_pyIter_range (IsRange.new ..) (PySem.W.small_down (by omega) (by omega) (by omega) (by omega)) ?_;have I2:Inv X pins σ H1 { s1 with heap:=s1.heap.push { cls:=.type "range",data:=.fields #[.int i t,.int j t',.int (-1) t''] },toks:=s1.toks }:=I1.kept fun b o e=>Heap.get?_push_of_some _ e;refine⟨_,[_],_,_,H1,rfl,I2.kept (t':=s1.toks) fun b o e=>Heap.get?_push_of_some _ e,tJ _ i (-1) (i - j).toNat,?_,fun b hb=>?_,q⟩
    ·have e2:(((i - j).toNat:Nat):Int) - ((0:Nat):Int)=Builtin.Range.rangeSize i j (-1):=by rw[PySem.W.rangeSize_downNat];omega
     show IsRangeIter _ _ (i+((0:Nat):Int) * (-1)) ((((i - j).toNat:Nat):Int) - ((0:Nat):Int)) (-1);rw[e2];have e1:i+((0:Nat):Int) * (-1)=i:=by omega
     rw[e1];exact Heap.get?_push_size _ rfl
    ·have e:b=(s1.heap.push { cls:=.type "range",data:=.fields #[.int i t,.int j t',.int (-1) t''] }).objs.size:=by simpa using hb
     subst e;exact I2.qV (Nat.le_refl _) (I2.hok.fresh (Nat.le_refl _))
end
end L2
end
section
namespace L2
open PySem PySem.Spec PyProof.Rows
theorem fZ {P:Program}{w:World}:∀ {kvs:List (Key×V)}{vs:List (Key×Value)}{us:List Value},KV kvs vs->us.length=vs.length->(∀ (j:Nat) v,us[j]?=some v->∃ k x,vs[j]?=some (k,x)/\(bj P w).is k v=true) ->
  Vals (kvs.map fun kv=>kV kv.1) us
 | [],_,us,.nil,hl,_=>by
  cases us with
  | nil=>exact .nil
  | cons _ _=>simp at hl
 | p::kvs,_,us,.cons (b:=b) h t,hl,hv=>by
  cases us with
  | nil=>simp at hl
  | cons u us =>
   obtain⟨k,x,e1,e2⟩:=hv 0 u rfl;have e1:b=(k,x):=by simpa using e1
   refine .cons ?_ (fZ (P:=P) (w:=w) t (by simpa using hl) fun j v e=>by
    obtain⟨k,x,e1,e2⟩:=hv (j+1) v (by simpa using e);exact⟨k,x,by simpa using e1,e2⟩)
   have ek:p.1=k:=by rw[h.1,e1]
   show RelV (kV p.1) u;rw[ek];rcases bN (show jT k u=true from e2) with ⟨i,t,rfl,rfl⟩|⟨y,t,rfl,rfl⟩
   ·exact⟨t,rfl⟩
   ·exact⟨t,rfl⟩
theorem fN:∀ {ss:List Str}{us:List Value},Vals (ss.map V.str) us->StrsAre us ss
 | [],_,r=>by rw[List.map_nil] at r;cases r;exact .nil
 | y::ss,_,r=>by
  rw[List.map_cons] at r
  cases r with
  | cons h t =>
   obtain⟨tk,rfl⟩:=h;exact .cons y tk (fN t)
theorem dH:∀ {ss:List Str}{us:List Value},StrsAre us ss->Vals (ss.map V.str) us
 | _,_,.nil=>.nil
 | _,_,.cons y t h=>.cons ⟨t,rfl⟩ (dH h)
theorem lX:∀ {ss:List Str}{p:Str},risingS p ss=true->(p::ss).Pairwise fun a b=>¬ b.cps.toList<a.cps.toList
 | [],p,_=>by simp
 | x::r,p,h=>by
  have h:(!ltCps x.cps.toList p.cps.toList && risingS x r)=true:=h;rw[Bool.and_eq_true,ltCps_eq] at h;obtain⟨h1,h2⟩:=h;have ih:=lX h2;have hp:¬ x.cps.toList<p.cps.toList:=by simpa using h1
  refine List.Pairwise.cons (fun y hy=>?_) ih;rcases List.mem_cons.mp hy with e|e
  ·subst e;exact hp
  ·have hx:=List.rel_of_pairwise_cons ih e
   intro z;rw[List.not_lt] at hp hx;exact List.not_lt.mpr (List.le_trans hp hx) z
theorem cO {ss:List Str} (h:sortedS ss=true):ss.Pairwise fun a b=>¬ b.cps.toList<a.cps.toList:=by
 cases ss with
 | nil=>exact .nil
 | cons x r=>exact lX h
section
variable {X:Cx}
theorem mh:gu X (compareOp .LtE) (fun x y H Q=>∃ i j,x=.str i/\y=.str j/\Q (.bl (!decide (j.cps.toList<i.cps.toList))) H):=by
 intro pins s σ H x y v u Q I rx ry h;obtain⟨i,j,rfl,rfl,q⟩:=h;obtain⟨t,rfl⟩:=rx;obtain⟨t',rfl⟩:=ry;exact PySem.P.le_str (aW I q rfl)
noncomputable def nQ:V->List V->Hp->VK->Prop:=fun x vs H Q=>∃ i j,x=.str i/\vs=[.str j]/\Q (.bl (Txt.startswith i j)) H
theorem kO:EO X "str.startswith" nQ:=by
 intro pins s σ H x vs v us Q I rx rv h;obtain⟨i,j,rfl,rfl,q⟩:=h;obtain⟨t,rfl⟩:=rx;obtain⟨u,rfl,t',rfl⟩:=rv.one;exact SC.startswith (aW I q rfl)
noncomputable def Bv:V->Option Int->Option Int->Hp->VK->Prop:=fun x lo hi H Q=>∃ z,x=.str z/\(StrLaws.sliceText z lo hi).length<=sizeLine/\Q (.str (StrLaws.sliceText z lo hi)) H
theorem qB:Cg X Bv:=by
 intro pins s σ H x v vl vu lo hi sl Q I rx hs pl pu h;obtain⟨z,rfl,hz,q⟩:=h;obtain⟨t,rfl⟩:=rx;refine⟨"str",_,slot_str_getitem.lookup,typeIs_str s z t,?_⟩;obtain⟨l,el,e1⟩:∃ l:Option (Int×Tok),vl=partValue l/\l.map (·.1)=lo:=by
  cases pl with
  | none=>exact⟨none,rfl,rfl⟩
  | int i t=>exact⟨some (i,t),rfl,rfl⟩
 obtain⟨r,er,e2⟩:∃ r:Option (Int×Tok),vu=partValue r/\r.map (·.1)=hi:=by
  cases pu with
  | none=>exact⟨none,rfl,rfl⟩
  | int i t=>exact⟨some (i,t),rfl,rfl⟩
 subst el er e1 e2;refine wpAny_getItem_str_slice (l:=l) (u:=r) (st:=none) hs rfl ?_;show Made.post (if ((1:Int) == 1 && (Builtin.Str.strSliceIndices (l.map (·.1)) (r.map (·.1)) 1 z.length).length == z.length)=true then Made.val (.str z t) else Made.str ⟨((Builtin.Str.strSliceIndices (l.map (·.1)) (r.map (·.1)) 1 z.length).filterMap (z.cps[·]?)).toArray⟩) _ _;unfold StrLaws.sliceText at q hz
 by_cases hb:((1:Int) == 1 && (Builtin.Str.strSliceIndices (l.map (·.1)) (r.map (·.1)) 1 z.length).length == z.length)=true
 ·rw[if_pos hb] at q ⊢
  exact⟨.str z,H,I,⟨t,rfl⟩,q⟩
 ·rw[if_neg hb] at q hz ⊢
  exact⟨hz,.str _,H,I.tok _,⟨_,rfl⟩,q⟩
noncomputable def uj (K:PySem.W.Frag) (neg:Bool):R2:=fun x y H Q=>∃ p p' xs,x=.ref p/\y=.ref p'/\aO K H p xs/\aO K H p' []/\Q (.bl (if neg then !decide (xs=[]) else decide (xs=[]))) H
theorem wV (hu:X.A.units<cLine):gu X (compareOp .Eq) (uj X.K false):=by
 intro pins s σ H x y v u Q I rx ry h;obtain⟨p,p',xs,rfl,rfl,h1,h2,q⟩:=h
 cases rx
 cases ry;obtain⟨its,r,pl,hz⟩:=I.list h1;obtain⟨its',r',pl',hz'⟩:=I.list h2
 cases r';have hl:=r.length
 by_cases e:xs=[]
 ·subst e
  cases r;refine SeqAt.eq_listAt (e:=fun _=>true) pl.isList pl'.isList rfl hu (fun j h1=>by simp at h1) ?_;exact⟨.bl true,H,I,rfl,by simpa using q⟩
 ·refine SeqAt.eq_list_lengthsAt pl.isList pl'.isList ?_ hu ⟨.bl false,H,I,rfl,by simpa [e] using q⟩
  cases r with
  | nil=>exact absurd rfl e
  | cons _ _=>simp
theorem cY (hc:X.calm=true):ck X (.type "list") (fun xs H Q=>∃ a kvs,xs=[.ref a]/\Rd H a (.dK kvs)/\∀ p,H p=none->Q (.ref p) (upd H p (.lst (kvs.map fun kv=>kV kv.1)))):=by
 intro pins s σ H xs us Q I r h;obtain⟨a,kvs,rfl,ha,q⟩:=h;obtain⟨u,rfl,ru⟩:=vals1 r
 cases ru;obtain⟨z,hd,vs,rel,dd⟩:=fH I.hok ha;obtain⟨ep,hat⟩:=dd.dictAt;refine PySem.W.kdl_call (PySem.W.kdl_dict (knd:=bj X.prog X.w) (kvs:=vs) (ep:=ep) hd) (I.ok.hd hc) hat (by rw[<- rel.length];exact z) fun h' tk acc c hk hD hacc=>?_;refine⟨.ref s.heap.objs.size,_,I.laid (o:=.lst (kvs.map fun kv=>kV kv.1)) hk (Nat.le_refl _) ⟨by rw[List.length_map];exact z,acc.toList,c,?_,by rw[hD]⟩,rfl,q _ (I.hok.fresh (Nat.le_refl _))⟩;obtain⟨n1,n2⟩:=hacc;refine fZ (P:=X.prog) (w:=X.w) rel (by rw[Array.length_toList];exact n1) fun j v e=>?_;obtain⟨k,x,e1,e2⟩:=n2 j v (by rw[<- Array.getElem?_toList];exact e);exact⟨k,x,e1,e2⟩
theorem iB:ck X (.builtin "sorted") (fun xs H Q=>∃ (a:Addr) (ss:List Str),xs=[.ref a]/\aO X.K H a (ss.map V.str)/\ss.length<64/\∀ (p:Addr) (ss':List Str),H p=none->ss'.Perm ss->ss'.Pairwise (fun a b=>¬ b.cps.toList<a.cps.toList)->Q (.ref p) (upd H p (.lst (ss'.map V.str)))):=by
 intro pins s σ H xs us Q I r h;obtain⟨a,ss,rfl,ha,h64,q⟩:=h;obtain⟨u,rfl,ru⟩:=vals1 r
 cases ru;obtain⟨its,rv,pl,hz⟩:=I.list ha;have sa:=fN rv;have hl:=rv.length;rw[List.length_map] at hl;refine sorted_strs pl.isList sa (by omega) fun out ss' a1 a2 a3=>?_;obtain⟨e,he⟩:=sortedAll_at s.heap its out;have hf:H (s.heap.objs.size+1)=none:=I.hok.fresh (Nat.le_succ _);have v1:=dH a1;refine⟨.ref (s.heap.objs.size+1),_,I.laid (o:=.lst (ss'.map V.str)) (t':=s.toks) (fun b o q=>sortedAll_old q) (Nat.le_succ _) ⟨?_,out.toList,e,v1,?_⟩,rfl,q _ ss' hf a2 (cO a3)⟩
 ·rw[List.length_map,a2.length_eq]
  rw[List.length_map] at hz;exact hz
 ·rw[he]
end
end L2
end
section
namespace L2
open PySem PySem.Spec PyProof.Rows
noncomputable def kG (sc:Scope) (N':List Str) (ix:List (Option Nat)) (N:List Str) (osc:Scope):Bool :=
 decide (sc.kind=.function) && (sc.names.all fun y=>decide (y.2≠.cell)) && (sc.names.all fun y=>decide (y.2=.local->sc.names.lookup y.1=some .local)) && decide (ix.length=N'.length) &&
 ((List.range ix.length).all fun i=>match ix[i]? with
  | some (some j)=>(match N'[i]? with
   | some x=>decide (N[j]?=some x) && decide (sc.names.lookup x=some .free)
   | none=>false)
  | _=>true) &&
 (sc.names.all fun y=>decide (y.2=.free->osc.names.lookup y.1=some .cell\/osc.names.lookup y.1=some .free))
theorem kG.is {X:Cx}{sc:Scope}{N':List Str}{ix:List (Option Nat)}{N:List Str}{osc:Scope} (h:kG sc N' ix N osc=true) (hN:X.N=N:=by rfl) (ho:X.env.scope=osc:=by rfl):fK X sc N' ix:=by
 unfold kG at h;simp only[Bool.and_eq_true,decide_eq_true_eq,List.all_eq_true,List.mem_range] at h;obtain⟨⟨⟨⟨⟨h1,h2⟩,h3⟩,h4⟩,h5⟩,h6⟩:=h;refine⟨h1,h2,h3,h4,fun i j e=>?_,fun y hy e=>?_⟩
 ·have hi:i<ix.length:=(List.getElem?_eq_some_iff.mp e).1
  have q:=h5 i hi;rw[e] at q
  cases en:N'[i]? with
  | none=>rw[en] at q;simp at q
  | some x =>
   rw[en] at q;simp only[Bool.and_eq_true,decide_eq_true_eq] at q;exact⟨x,rfl,by rw[hN];exact q.1,q.2⟩
 ·rw[ho]
  exact h6 y hy e
noncomputable def gr (J:It) (σ':St) (g:TG) (tc:TT) (te:TE) (H1:Hp) (F:List V->Hp->Prop):Prop:=∃ W:Nat->Nat->List V->Hp->Prop,(∃ m,W 0 m [] H1)/\∀ i m ys H2,W i m ys H2 ->
 (J.stop i H2/\ys.length<=sizeLine/\F ys H2) \/
 (J.go i H2/\ys.length<sizeLine/\∀ x H3,J.yld i H2 x H3->g x σ' H3 fun σ4 H4=>Wk σ' σ4 /\
   tc σ4 H4 fun b H5=>if b=true then te σ4 H5 fun y H6=>∃ m',m'<m/\W (i+1) m' (ys++[y]) H6 else ∃ m',m'<m/\W (i+1) m' ys H5)
theorem jZ {ix:List (Option Nat)}{wi:TI}{g:TG}{tc:TT}{te:TE}{σ:St}{H:Hp}{F:List V->Hp->Prop}:wQ ix wi g tc te σ H F=wi σ H fun J H1=>gr J (pick ix σ) g tc te H1 F:=rfl
theorem fW {J:It}{σ':St}{g:TG}{tc:TT}{te:TE}{H:Hp}{F:List V->Hp->Prop} (n:Nat) (r:Nat->Option V) (hn:n<=sizeLine) (go:∀ i,i<n->J.go i H) (stop:J.stop n H) (yl:∀ i x H',i<n->J.yld i H x H'->H'=H)
  (step:∀ i x,i<n->J.yld i H x H->∀ (R:VK) (R':Hp->Prop),(∀ y,r i=some y->R y H)->(r i=none->R' H)->g x σ' H fun σ4 H4=>Wk σ' σ4/\tc σ4 H4 fun b H5=>if b=true then te σ4 H5 R else R' H5)
  (fin:F ((List.range n).filterMap r) H):gr J σ' g tc te H F:=by
 have hlen:∀ i,((List.range i).filterMap r).length<=i:=fun i=>by
  have:=List.length_filterMap_le r (List.range i);rw[List.length_range] at this;exact this
 refine⟨fun i m ys H'=>i<=n/\m=n - i/\H'=H/\ys=(List.range i).filterMap r,⟨n,Nat.zero_le _,by simp,rfl,rfl⟩,?_⟩;rintro i m ys H' ⟨hi,rfl,rfl,rfl⟩;have hl:=hlen i
 by_cases hlt:i<n
 ·refine .inr ⟨go i hlt,by omega,fun x H3 hy=>?_⟩
  have e:=yl i x H3 hlt hy;subst e;refine step i x hlt hy _ _ (fun y e=>⟨n - (i+1),by omega,hlt,rfl,rfl,?_⟩) fun e=>⟨n - (i+1),by omega,hlt,rfl,rfl,?_⟩
  ·rw[List.range_succ,List.filterMap_append];simp[e]
  ·rw[List.range_succ,List.filterMap_append];simp[e]
 ·have e:i=n:=by omega
  subst e;exact .inl ⟨stop,by omega,fin⟩
end L2
end
section
namespace L2
open PySem PySem.Spec PyProof.Rows
noncomputable abbrev tx (l:List Nat):Str:=⟨l.toArray⟩
theorem ng {a b:List Nat}:(tx a=tx b)↔a=b:=by
 constructor
 ·intro h
  have:=congrArg (fun x:Str=>x.cps.toList) h
  simpa using this
 ·rintro rfl;rfl
theorem fz (l:List Nat):(tx l).length=l.length:=by simp[Str.length]
theorem dM (l:List Nat):(tx l).cps.toList=l:=by simp
theorem gx (x:Str):x=tx x.cps.toList:=by
 cases x;simp[tx]
theorem jB {l:List Nat}{i:Nat} (h:i<=l.length):StrLaws.sliceText (tx l) none (some (i:Int))=tx (l.take i):=by
 rw[StrLaws.sliceText_to ⟨by omega,by simp;omega⟩];simp
theorem ke {l:List Nat}{i:Nat} (h:i<=l.length):StrLaws.sliceText (tx l) (some (i:Int)) none=tx (l.drop i):=by
 have e:StrLaws.sliceText (tx l) (some (i:Int)) none=StrLaws.sliceText (tx l) (some (i:Int)) (some ((tx l).length:Int)):=by
  unfold StrLaws.sliceText;rw[StrLaws.sliceIdx_none_hi]
 rw[e,StrLaws.sliceText_nat (a:=i) (b:=(tx l).length) _ (by rw[fz];exact h) (Nat.le_refl _)];rw[fz];congr 1;rw[List.take_of_length_le (by simp)]
theorem jC (a b:List Nat):Txt.startswith (tx a) (tx b)=b.isPrefixOf a:=by
 unfold Txt.startswith Builtin.Str.subAt;rw[fz,fz];rw[Bool.eq_iff_iff];simp only[Bool.and_eq_true,decide_eq_true_eq,List.isPrefixOf_iff_prefix,beq_iff_eq];rw[List.prefix_iff_eq_take];constructor
 ·rintro ⟨h1,h2⟩
  have:=congrArg Array.toList h2;simp at this;exact this.symm
 ·intro h
  have hl:b.length<=a.length:=by
   have:=congrArg List.length h;rw[List.length_take] at this;omega
  refine⟨by omega,?_⟩;apply Array.toList_inj.mp;simp;exact h.symm
structure Bl (mg:Str->Option Value):Prop where
 len:mg "len"=none
 rng:mg "range"=none
 srt:mg "sorted"=none
 lst:mg "list"=none
 dct:mg "dict"=none
 isi:mg "isinstance"=none
 str:mg "str"=none
 int:mg "int"=none
 bool:mg "bool"=none
 tup:mg "tuple"=none
 mx:mg "max"=none
 all:mg "all"=none
structure bM (P:Program) (w:World) (K:PySem.W.Frag) (mg:Str->Option Value) (base:Heap) (CX:lT) (k:Nat) (x:Str) (ps:List Str) (sp:Sp):Prop where
 ex:∃ f fd,aS P w K mg base CX k f fd ps sp/\mg x=some (.ref f)/\PySem.W.keepIn K (.ref f)=true/\Binds K fd ps []
section
variable {X:Cx}{x:Str}{ps:List Str}{sp:Sp}{k:Nat}{e:Expr}{es:List Expr}{t:TA}{p pos:Pos}
theorem DE (c:bM X.prog X.w X.K X.mg X.base aQ k x ps sp) (hr:cj k X.A) (ha:PA X (e::es) t) (hg:Gl X x:=by rfl) (hdb:(x == ("__debug__":Str))=false:=by decide)
  (he:starEach (e::es) X.env=(false,eval e X.env)::starEach es X.env:=by rfl) (hpl:(backTo pos (starEach es X.env)).any (·.1)=false:=by rfl):PE X (.Call (.Name x p) (e::es) [] pos) (iZ sp [] E0 t):=by
 obtain⟨f,fd,F,hm,hk,hb⟩:=c.ex;exact r_ F hr hg hm hk hb .nil eB ha hdb he hpl
theorem Bd (c:bM X.prog X.w X.K X.mg X.base aQ k x ps sp) (hr:cj k X.A) (hg:Gl X x:=by rfl) (hdb:(x == ("__debug__":Str))=false:=by decide):PE X (.Call (.Name x p) [] [] pos) (iZ sp [] E0 nS):=by
 obtain⟨f,fd,F,hm,hk,hb⟩:=c.ex;exact vW F hr hg hm hk hb .nil eB hdb
end
noncomputable def Kp (H H':Hp) (l:List Addr):Prop:=∀ b o,H b=some o->b∉l->H' b=some o
theorem Kp.refl (H:Hp) (l:List Addr):Kp H H l:=fun _ _ h _=>h
theorem Kp.trans {H H1 H2:Hp}{l:List Addr} (a:Kp H H1 l) (b:Kp H1 H2 l):Kp H H2 l:=fun c o h n=>b c o (a c o h n) n
theorem Kp.new {H H1:Hp}{l:List Addr}{p:Addr}{o:HO} (a:Kp H H1 l) (hp:H p=none):Kp H (upd H1 p o) l:=fun c u e n=>by
 rw[ah (ai e hp)];exact a c u e n
theorem Kp.set {H H1:Hp}{l:List Addr}{p:Addr}{o:HO} (a:Kp H H1 l) (hp:p∈l):Kp H (upd H1 p o) l:=fun c u e n=>by
 rw[ah fun z=>n (by rw[z];exact hp)];exact a c u e n
theorem Kp.free {H H1:Hp}{l:List Addr}{p:Addr} (a:Kp H H1 l) (hp:H1 p=none) (hl:p∉l):H p=none:=by
 cases e:H p with
 | none=>rfl
 | some o=>rw[a p o e hl] at hp;cases hp
end L2
end
section
namespace L2
open PySem PySem.Spec PyProof.Rows
section
variable {X:Cx}
theorem eW:ck X (.type "dict") (fun xs H Q=>∃ a kvs,xs=[.ref a]/\Rd H a (.dK kvs)/\∀ p,H p=none->Q (.ref p) (upd H p (.dK kvs))):=by
 intro pins s σ H xs us Q I r h;obtain⟨a,kvs,rfl,ha,q⟩:=h;obtain⟨u,rfl,ru⟩:=vals1 r
 cases ru;exact vJ I ha fun p s' hp I'=>⟨.ref p,_,I',rfl,q p hp⟩
theorem Ai (hu:X.A.units<cLine):gu X (compareOp .NotEq) (uj X.K true):=by
 intro pins s σ H x y v u Q I rx ry h;obtain⟨p,p',xs,rfl,rfl,h1,h2,q⟩:=h
 cases rx
 cases ry;obtain⟨its,r,pl,hz⟩:=I.list h1;obtain⟨its',r',pl',hz'⟩:=I.list h2
 cases r'
 by_cases e:xs=[]
 ·subst e
  cases r;exact SeqAt.RcNeAt.lists (e:=fun _=>true) pl.isList pl'.isList rfl hu (fun j h1=>by simp at h1) _ _ _ _ ⟨.bl false,H,I,rfl,by simpa using q⟩
 ·refine SeqAt.RcNeAt.lists_lengths pl.isList pl'.isList ?_ hu _ _ _ _ ⟨.bl true,H,I,rfl,by simpa [e] using q⟩
  cases r with
  | nil=>exact absurd rfl e
  | cons _ _=>simp
theorem um:ck X (.builtin "isinstance") (fun xs H Q=>∃ x T b t,xs=[x,.ty T]/\cJ X.K H x t/\PySem.W.kitOne X.K t (.type T)=some b/\Q (.bl b) H):=by
 intro pins s σ H xs us Q I r h;obtain⟨x,T,b,t,rfl,ty,e,q⟩:=h;obtain⟨u,w',rfl,ru,rw'⟩:=vals2 r;obtain rfl:w'=Value.type T:=rw';exact tL I ru ty e fun tk=>⟨.bl b,H,I.tok _,rfl,q⟩
theorem t_:ck X (.builtin "isinstance") (fun xs H Q=>∃ x tp T U b t,xs=[x,.ref tp]/\H tp=some (.tup [.ty T,.ty U])/\cJ X.K H x t/\PySem.W.kitAny X.K t [.type T,.type U]=some b/\Q (.bl b) H):=by
 intro pins s σ H xs us Q I r h;obtain⟨x,tp,T,U,b,t,rfl,htp,ty,e,q⟩:=h;obtain⟨u,w',rfl,rx,rw'⟩:=vals2 r;obtain rfl:w'=Value.ref tp:=rw';obtain⟨_,its,ri,o,ho,hc,n,hd⟩:=(show bK X.prog X.w H s.heap tp (.tup [.ty T,.ty U]) from I.hok tp _ htp);obtain⟨u1,u2,rfl,r1,r2⟩:=vals2 ri;obtain rfl:u1=Value.type T:=r1;obtain rfl:u2=Value.type U:=r2;obtain⟨cls,dd,data,sl⟩:=o;simp only at hc hd;subst hc hd;have fin:∀ tk,EP X pins σ Q (.bool b) { s with toks:=tk }:=fun tk=>⟨.bl b,H,I.tok _,rfl,q⟩
 cases ty with
 | non=>cases (show u=Value.none from rx);exact PySem.W.kia_tup PySem.W.kitx_none I.eO True.intro ho e (fun z=>nomatch z) fin
 | bl y=>cases (show u=Value.bool y from rx);exact PySem.W.kia_tup PySem.W.kitx_bool I.eO True.intro ho e (fun z=>nomatch z) fin
 | int i=>obtain⟨t,q⟩:=(show ∃ t,u=Value.int i t from rx);cases q;exact PySem.W.kia_tup PySem.W.kitx_int I.eO True.intro ho e (fun z=>nomatch z) fin
 | str y=>obtain⟨t,q⟩:=(show ∃ t,u=Value.str y t from rx);cases q;exact PySem.W.kia_tup PySem.W.kitx_str I.eO True.intro ho e (fun z=>nomatch z) fin
 | flt y=>obtain⟨t,q⟩:=(show ∃ t,u=Value.float y t from rx);cases q;exact PySem.W.kia_tup PySem.W.kitx_float I.eO True.intro ho e (fun z=>nomatch z) fin
 | @lst a xs ea =>
  cases (show u=Value.ref a from rx);obtain⟨_,_,n,_,h1⟩:=(show bK X.prog X.w H s.heap a (.lst xs) from I.hok a _ ea);exact PySem.W.kia_tup PySem.W.kitx_list I.eO ⟨_,h1,rfl⟩ ho e (fun z=>nomatch z) fin
 | @frz a ob xs ea =>
  cases (show u=Value.ref a from rx);obtain⟨_,_,_,n,_,h1⟩:=(show bK X.prog X.w H s.heap a (.frz ob (.lst xs)) from I.hok a _ ea);exact PySem.W.kia_tup PySem.W.kitx_list I.eO ⟨_,h1,rfl⟩ ho e (fun z=>nomatch z) fin
 | @tup a xs ea =>
  cases (show u=Value.ref a from rx);obtain⟨_,_,_,p⟩:=(show bK X.prog X.w H s.heap a (.tup xs) from I.hok a _ ea);obtain⟨o,h1,h2,_⟩:=p;exact PySem.W.kia_tup PySem.W.kitx_tuple I.eO ⟨o,h1,h2⟩ ho e (fun z=>nomatch z) fin
 | @dK a kvs ea =>
  cases (show u=Value.ref a from rx);obtain⟨_,_,vs,_,p⟩:=(show bK X.prog X.w H s.heap a (.dK kvs) from I.hok a _ ea);obtain⟨o,es,ep,h1,h2,_⟩:=p;exact PySem.W.kia_tup PySem.W.kitx_dict I.eO ⟨o,h1,h2.1⟩ ho e (fun z=>nomatch z) fin
 | @dT a kvs ea =>
  cases (show u=Value.ref a from rx);obtain⟨_,_,xs,_,o,es,ep,h1,h2,_⟩:=(show bK X.prog X.w H s.heap a (.dT kvs) from I.hok a _ ea);exact PySem.W.kia_tup PySem.W.kitx_dict I.eO ⟨o,h1,h2.1⟩ ho e (fun z=>nomatch z) fin
 | @ins a C dx fs ea cl ha hn htk hm =>
  cases (show u=Value.ref a from rx);obtain⟨mA,O,_⟩:=ij I.hok ea;obtain⟨od,J,_⟩:=O.look;exact PySem.W.kia_tup (PySem.W.kitx_own (cl.get _) cl.hd ha hn htk hm) I.eO J ho e (fun z=>nomatch z) fin
theorem uT (hc:X.calm=true):ck X (.builtin "all") (fun xs H Q=>∃ (a:Addr) (bs:List Bool),xs=[.ref a]/\aO X.K H a (bs.map V.bl)/\Q (.bl (bs.all id)) H):=by
 intro pins s σ H xs us Q I r h;obtain⟨a,bs,rfl,ha,q⟩:=h;obtain⟨u,rfl,ru⟩:=vals1 r
 cases ru;obtain⟨its,rv,pl,hz⟩:=I.list ha;have hne:a≠s.heap.objs.size:=Nat.ne_of_lt (by obtain⟨o,n,e,_⟩:=pl;exact Heap.lt_size e);have hl:=rv.length;rw[List.length_map] at hl;refine call_all_walk (wpAny_pyIter_list pl.isList ?_);refine⟨s.heap.objs.size,_,_,_,_,_,fun i=>bs.getD i true,rfl,Walks.list (show X.A.in1.handled=none from I.ok.hd hc) _ a hne its.toArray,⟨⟨_,Heap.get?_push_size _ rfl,rfl,rfl⟩,?_⟩,fun i v s' Q' E' hv hq=>?_,fun h' tk hk=>?_⟩
 ·exact (pl.keeps fun b o e=>Heap.get?_push_of_some _ e).isList
 ·have hv:its[i]?=some v:=by simpa using hv
  obtain⟨hi,e⟩:=List.getElem?_eq_some_iff.mp hv;have hb:(bs.map V.bl)[i]?=some (V.bl (bs.getD i true)):=by
   rw[List.getElem?_map];have:i<bs.length:=by omega
   simp[List.getD,this]
  obtain⟨u,e1,ru⟩:=rv.get hb;rw[hv] at e1
  cases e1
  cases (show v=Value.bool _ from ru);exact wpAny_truthy_bool hq
 ·have e:((List.range its.toArray.size).all fun i=>bs.getD i true)=bs.all id:=by
   rw[List.size_toArray,<- hl,Bool.eq_iff_iff,List.all_eq_true,List.all_eq_true];constructor
   ·intro h b hb
    obtain⟨i,hi,rfl⟩:=List.getElem_of_mem hb;have:=h i (List.mem_range.mpr hi)
    simpa [List.getD,hi] using this
   ·intro h i hi
    have hi:=List.mem_range.mp hi;have:=h _ (List.getElem_mem hi)
    simpa [List.getD,hi] using this
  rw[e];refine⟨.bl (bs.all id),H,?_,rfl,q⟩;have I1:Inv X pins σ H { s with heap:=s.heap.push { cls:=.type "list_iterator",data:=.fields #[.ref a,.int 0 0] } }:=I.kept (t':=s.toks) fun b o e=>Heap.get?_push_of_some _ e;have hf:=I.hok.fresh (Nat.le_refl s.heap.objs.size);have F:=I.qV (Nat.le_refl s.heap.objs.size) hf;exact I1.turned (it:=s.heap.objs.size) (fun b o hb e=>hk b o (by simpa using hb) e) F.1 F.2.1 F.2.2.2.1 F.2.2.2.2.1 F.2.2.2.2.2
end
end L2
end
section
namespace L2
open PySem PySem.Spec PyProof.Rows
section
variable {prog:Program}{w:World}{A:Around}{E:Value->Shared->Prop}
theorem jQ {it l:Addr}{items:Array Value} (hne:l≠it):∀ (n i:Nat) (s:Shared) (Q:List Value->Shared->Prop),s.heap.IsListIter it l i->s.heap.IsList l items->i+n<=items.size ->
  (∀ h',h'.IsListIter it l (i+n)->Heap.SameBut it s.heap h'->Q ((items.toList.drop i).take n) { s with heap:=h' })->wpAny (model prog w) A (draw (.ref it) n) Q E s
 | 0,i,s,Q,hit,_,_,hQ=>by
  have q:=hQ s.heap hit (Heap.SameBut.refl ..);rw[List.take_zero] at q;exact wpAny_pure q
 | n+1,i,s,Q,hit,hl,hle,hQ=>by
  have hlt:i<items.size:=by omega
  unfold draw;refine wpAny_bind (wpAny_pyNext_list_item hit hl (x:=items[i]) (by simp[hlt]) fun h1 it1 s1=>?_);refine wpAny_bind (wpAny_holding (jQ hne n (i+1) _ _ it1 (hl.extBut s1.extBut hne) (by omega) fun h2 it2 s2=>wpAny_pure ?_));have q:=hQ h2 (by rw[show i+(n+1)=i+1+n by omega];exact it2) (s1.trans s2);have e:items.toList.drop i=items[i]::items.toList.drop (i+1):=by simp[List.drop_eq_getElem_cons,hlt]
  rw[e,List.take_succ_cons] at q;exact q
theorem nC {s:Shared}{l:Addr}{items:Array Value}{Q:List Value->Shared->Prop} (hh:A.handled=none) (hl:s.heap.IsList l items)
  (hQ:∀ h',Heap.ExtBut s.heap.objs.size s.heap h'->Q items.toList { s with heap:=h' }):wpAny (model prog w) A (unpackItems (.ref l) items.size none) Q E s:=by
 have hlt:l≠s.heap.objs.size:=by
  obtain⟨o,ho,_⟩:=hl;exact Nat.ne_of_lt (Heap.lt_size ho)
 unfold unpackItems;refine wpAny_bind ?_;unfold notIterableAtAll;refine wpAny_bind (wpAny_specialOf hl.typeIs PySem.F.slot_list_iter.lookup (wpAny_pure ?_));rw[if_neg Bool.false_ne_true];refine wpAny_bind (wpAny_holding (wpAny_pyIter_list hl ?_));have hl0:(s.heap.push { cls:=.type "list_iterator",data:=.fields #[.ref l,.int 0 0] }).IsList l items:=hl.at fun o e=>Heap.get?_push_of_some _ e;refine wpAny_bind (wpAny_holding (jQ hlt items.size 0 _ _ ⟨_,Heap.get?_push_size _ rfl,rfl,rfl⟩ hl0 (by omega) fun h1 it1 s1=>?_));have e:List.take items.size (List.drop 0 items.toList)=items.toList:=by
  rw[List.drop_zero,List.take_of_length_le (by simp)]
 rw[e,if_neg (by simp)];refine wpAny_bind (wpAny_holding (wpAny_pyNext_list_end hh it1 (hl0.extBut s1.extBut hlt) (by simp) fun h2 e2=>?_));rw[Option.isSome_none,if_neg Bool.false_ne_true];exact wpAny_pure (hQ h2 fun b o hb q=>e2 b o hb (s1.extBut b o hb (Heap.get?_push_of_some _ q)))
end
section
variable {X:Cx}{pos:Pos}
noncomputable def AH (K:PySem.W.Frag) (n:Nat) (t:uw):TG:=fun v σ H Q=>∃ a xs,v=.ref a/\aO K H a xs/\xs.length=n/\t xs σ H Q
theorem Bg {es:List Expr}{k:Nat}{t:uw}{n:Nat} (hc:X.calm=true) (h:zc X es t)
  (hn:(assignEach es X.env).length=n:=by rfl) (hst:(assignEach es X.env).findIdx? (·.1)=none:=by rfl):PG X (.Tuple es k pos) (AH X.K n t):=by
 intro pins s σ H v u Q I r hw;obtain⟨a,xs,e1,hq,hl,hw⟩:=hw;subst e1
 cases r;obtain⟨its,rv,pl,hz⟩:=I.list hq;have e:(assignEach es X.env).length=its.toArray.size:=by rw[hn,<- hl,rv.length,List.size_toArray]
 rw[assign_Tuple];refine wpAny_bind (wpAny_standAt ?_);unfold unpack;rw[e,hst];refine wpAny_bind (wpAny_holding (nC (I.ok.hd hc) pl.isList fun h' hx=>?_));have I1:Inv X pins σ H { s with heap:=h' }:=I.kept (t':=s.toks) fun b o e=>hx b o (Nat.ne_of_lt (Heap.lt_size e)) e;exact h pins _ σ H xs _ Q I1 (by simpa using rv) hw
end
end L2
end
section
namespace L2
open PySem PySem.Spec PyProof.Rows
theorem dv {α β:Type} (l:List α) (r:α->Option β):((List.range l.length).filterMap fun i=>(l[i]?).bind r)=l.filterMap r:=by
 have e:(List.range l.length).map (fun i=>l[i]?)=l.map some:=by
  apply List.ext_getElem?;intro i;rw[List.getElem?_map,List.getElem?_map]
  by_cases hi:i<l.length
  ·simp[hi]
  ·simp[hi]
 have e2:(List.range l.length).filterMap (fun i=>(l[i]?).bind r)=((List.range l.length).map (fun i=>l[i]?)).filterMap (fun o=>o.bind r):=by
  rw[List.filterMap_map]
  rfl
 rw[e2,e,List.filterMap_map]
 rfl
section
variable {σ':St}{g:TG}{tc:TT}{te:TE}{H:Hp}{F:List V->Hp->Prop}
theorem lM {l:List Nat} (r:Nat->Option V) (hn:l.length<=sizeLine)
  (step:∀ c,c∈l->∀ (R:VK) (R':Hp->Prop),(∀ y,r c=some y->R y H)->(r c=none->R' H)->g (sgn c) σ' H fun σ4 H4=>Wk σ' σ4/\tc σ4 H4 fun b H5=>if b=true then te σ4 H5 R else R' H5)
  (fin:F (l.filterMap r) H):gr (CD (tx l)) σ' g tc te H F:=by
 refine fW l.length (fun i=>(l[i]?).bind r) hn (fun i hi=>by show i<(tx l).cps.size;simpa using hi) (by show (tx l).cps.size<=l.length;simp) (fun i x H' _ h=>h.1) (fun i v hi hy R R' h1 h2=>?_) (by rw[dv];exact fin);obtain⟨_,c,hc,rfl⟩:=hy;have hc:l[i]?=some c:=by simpa using hc
 refine step c (List.mem_of_getElem? hc) R R' (fun y e=>h1 y (by simp[hc,e])) fun e=>h2 (by simp[hc,e])
theorem dJ {K:PySem.W.Frag}{a:Addr}{xs:List V} (r:V->Option V) (hq:aO K H a xs) (hn:xs.length<=sizeLine)
  (step:∀ x,x∈xs->∀ (R:VK) (R':Hp->Prop),(∀ y,r x=some y->R y H)->(r x=none->R' H)->g x σ' H fun σ4 H4=>Wk σ' σ4/\tc σ4 H4 fun b H5=>if b=true then te σ4 H5 R else R' H5)
  (fin:F (xs.filterMap r) H):gr (Dl K a) σ' g tc te H F:=by
 refine fW xs.length (fun i=>(xs[i]?).bind r) hn (fun i hi=>⟨xs,xs[i],hq,by simp[hi]⟩) ⟨xs,hq,Nat.le_refl _⟩ (fun i x H' _ h=>h.1) (fun i v hi hy R R' h1 h2=>?_) (by rw[dv];exact fin);have hc:xs[i]?=some v:=hy.2 xs hq;refine step v (List.mem_of_getElem? hc) R R' (fun y e=>h1 y (by simp[hc,e])) fun e=>h2 (by simp[hc,e])
theorem pM {K:PySem.W.Frag}{a:Addr}{xs:List V} (r:V->Option V) (hq:cI K H a xs) (hn:xs.length<=sizeLine)
  (step:∀ x,x∈xs->∀ (R:VK) (R':Hp->Prop),(∀ y,r x=some y->R y H)->(r x=none->R' H)->g x σ' H fun σ4 H4=>Wk σ' σ4/\tc σ4 H4 fun b H5=>if b=true then te σ4 H5 R else R' H5)
  (fin:F (xs.filterMap r) H):gr (EM K a) σ' g tc te H F:=by
 refine fW xs.length (fun i=>(xs[i]?).bind r) hn (fun i hi=>⟨xs,xs[i],hq,by simp[hi]⟩) ⟨xs,hq,Nat.le_refl _⟩ (fun i x H' _ h=>h.1) (fun i v hi hy R R' h1 h2=>?_) (by rw[dv];exact fin);have hc:xs[i]?=some v:=hy.2 xs hq;refine step v (List.mem_of_getElem? hc) R R' (fun y e=>h1 y (by simp[hc,e])) fun e=>h2 (by simp[hc,e])
theorem pe {n:Nat} (r:Nat->Option V) (hn:n<=sizeLine)
  (step:∀ i,i<n->∀ (R:VK) (R':Hp->Prop),(∀ y,r i=some y->R y H)->(r i=none->R' H)->g (.int (i:Int)) σ' H fun σ4 H4=>Wk σ' σ4/\tc σ4 H4 fun b H5=>if b=true then te σ4 H5 R else R' H5)
  (fin:F ((List.range n).filterMap r) H):gr (DP 0 n) σ' g tc te H F:=by
 refine fW n r hn (fun i hi=>hi) (Nat.le_refl _) (fun i x H' _ h=>h.1) (fun i v hi hy R R' h1 h2=>?_) fin;obtain⟨_,rfl⟩:=hy;have e:(0:Int)+(i:Int)=(i:Int):=by omega
 rw[e];exact step i hi R R' h1 h2
end
end L2
end
section
namespace L2
open PySem PySem.Spec PyProof.Rows
section
variable {X:Cx} (K:PySem.W.Frag)
theorem aI (hK:X.K=K:=by rfl):Cn X (Bh K):=hK ▸ xG
theorem aH (hK:X.K=K:=by rfl):Cn X (Al K):=hK ▸ zN
theorem pO (hK:X.K=K:=by rfl):Cg X (BK K):=hK ▸ xm
theorem bP (hK:X.K=K:=by rfl):ck X (.type "list") (fun xs H Q=>∃ p ys,xs=[.ref p]/\(aO K H p ys\/cI K H p ys)/\∀ l,H l=none->Q (.ref l) (upd H l (.lst ys))):=hK ▸ mF
theorem ny (hK:X.K=K:=by rfl):Cg X (BG K):=hK ▸ zP
theorem qS (hK:X.K=K:=by rfl):gu X (compareOp .In) (D2 K false):=hK ▸ sY
theorem kI (hK:X.K=K:=by rfl):gu X (compareOp .NotIn) (D2 K true):=hK ▸ mK
theorem yC (hu:X.A.units<cLine) (hK:X.K=K:=by rfl):gu X (compareOp .Eq) (uj K false):=hK ▸ wV hu
theorem nD (hu:X.A.units<cLine) (hK:X.K=K:=by rfl):gu X (compareOp .NotEq) (uj K true):=hK ▸ Ai hu
theorem bc (hK:X.K=K:=by rfl):ck X (.builtin "len") (fun xs H Q=>∃ x n,xs=[x]/\xt K x H n/\Q (.int n) H):=hK ▸ oZ
theorem iq (hK:X.K=K:=by rfl):ck X (.builtin "sorted") (fun xs H Q=>∃ (a:Addr) (ss:List Str),xs=[.ref a]/\aO K H a (ss.map V.str)/\ss.length<64/\∀ (p:Addr) (ss':List Str),H p=none->ss'.Perm ss->ss'.Pairwise (fun a b=>¬ b.cps.toList<a.cps.toList)->Q (.ref p) (upd H p (.lst (ss'.map V.str)))):=hK ▸ iB
theorem tF (hc:X.calm=true) (hK:X.K=K:=by rfl):ck X (.builtin "all") (fun xs H Q=>∃ (a:Addr) (bs:List Bool),xs=[.ref a]/\aO K H a (bs.map V.bl)/\Q (.bl (bs.all id)) H):=hK ▸ uT hc
theorem bL (hK:X.K=K:=by rfl):ck X (.builtin "isinstance") (fun xs H Q=>∃ x T b t,xs=[x,.ty T]/\cJ K H x t/\PySem.W.kitOne K t (.type T)=some b/\Q (.bl b) H):=hK ▸ um
theorem rm (hK:X.K=K:=by rfl):ck X (.builtin "isinstance") (fun xs H Q=>∃ x tp T U b t,xs=[x,.ref tp]/\H tp=some (.tup [.ty T,.ty U])/\cJ K H x t/\PySem.W.kitAny K t [.type T,.type U]=some b/\Q (.bl b) H):=hK ▸ t_
variable {tg l:Expr}{tl:TE}
theorem bq (hl:PE X l tl) (hK:X.K=K:=by rfl):PI X tg l (sk K tl):=hK ▸ xp hl
theorem nY (hl:PE X l tl) (hK:X.K=K:=by rfl):PI X tg l (AX K tl):=hK ▸ zJ hl
theorem mB {pos:Pos}{es:List Expr}{k:Nat}{t:uw}{n:Nat} (hc:X.calm=true) (h:zc X es t)
  (hn:(assignEach es X.env).length=n:=by rfl) (hst:(assignEach es X.env).findIdx? (·.1)=none:=by rfl) (hK:X.K=K:=by rfl):PG X (.Tuple es k pos) (Ax K n t):=hK ▸ A7 hc h hn hst
theorem xH {pos:Pos}{es:List Expr}{k:Nat}{t:uw}{n:Nat} (hc:X.calm=true) (h:zc X es t)
  (hn:(assignEach es X.env).length=n:=by rfl) (hst:(assignEach es X.env).findIdx? (·.1)=none:=by rfl) (hK:X.K=K:=by rfl):PG X (.Tuple es k pos) (AH K n t):=hK ▸ Bg hc h hn hst
variable {o e:Expr}{es:List Expr}{to:TE}{t:TA}{name:Str}{apos cpos:Pos}{T id:String}{r:V->List V->Hp->VK->Prop}
theorem js (pa:PlainAttrs T) (slot:Slot T name id) (hty:typeOf (.builtin id)=pure (.type "method_descriptor")) (hm:AO X id r) (ho:PE X o to)
  (hbase:attributeBase o name X.env (eval o X.env)=eval o X.env:=by rfl) (hline:(apos.endLine == cpos.line)=true:=by rfl) (hK:X.K=K:=by rfl):PE X (.Call (.Attribute o name apos) [] [] cpos) (AW K T r to):=hK ▸ Bj pa slot hty hm ho hbase hline
theorem AA (pa:PlainAttrs T) (slot:Slot T name id) (hty:typeOf (.builtin id)=pure (.type "method_descriptor")) (hm:AO X id r) (ho:PE X o to) (ha:PA X (e::es) t)
  (hbase:attributeBase o name X.env (eval o X.env)=eval o X.env:=by rfl)
  (hfew:((backTo cpos (starEach (e::es) X.env)).all (fun x=>!x.1) && (backToKw cpos (keywordEach [] X.env)).all (fun x=>x.1.isSome)
   && decide ((e::es).length+([]:List Keyword).length+(if ([]:List Keyword).isEmpty then 0 else 1)<30))=true:=by rfl)
  (hline:(apos.endLine == cpos.line)=true:=by rfl) (hs:starEach (e::es) X.env=(false,eval e X.env)::starEach es X.env:=by rfl) (hplain:(backTo cpos (starEach es X.env)).any (·.1)=false:=by rfl) (hK:X.K=K:=by rfl) :
  PE X (.Call (.Attribute o name apos) (e::es) [] cpos) (Dj K T r to t):=hK ▸ DX pa slot hty hm ho ha hbase hfew hline hs hplain
variable {f:Str}{pos:Pos}{ta:TE}
theorem aX (he:PE X e ta) (hb:attributeBase e f X.env (eval e X.env)=eval e X.env) (hK:X.K=K:=by rfl):PE X (.Attribute e f pos) (BW K ta f):=hK ▸ zV he hb
end
noncomputable def uu (J:It) (g:TG) (tb:TS) (D:Ends) (σ:St) (H1:Hp):Prop:=∃ W:Nat->Nat->St->Hp->Prop,(∃ m,W 0 m σ H1)/\∀ i m σ H,W i m σ H ->
 (J.stop i H/\D.nx σ H)\/(J.go i H/\∃ N:St->Hp->Prop,(∀ σ' H',N σ' H'->∃ m',m'<m/\W (i+1) m' σ' H')/\∀ x H',J.yld i H x H'->g x σ H' fun σ2 H2=>tb { D with nx:=N,ct:=N,bk:=D.nx } σ2 H2)
theorem nN {wi:TI}{g:TG}{tb:TS}{D:Ends}{σ:St}{H:Hp}:DY wi g tb D σ H=wi σ H fun J H1=>uu J g tb D σ H1:=rfl
section
variable {g:TG}{tb:TS}{D:Ends}{σ:St}{H:Hp}
theorem jo {J:It} (n:Nat) (Pv:Nat->St->Hp->Prop) (h0:Pv 0 σ H) (go:∀ i σ H,i<n->Pv i σ H->J.go i H/\∀ x H',J.yld i H x H'->g x σ H' fun σ2 H2=>tb { D with nx:=Pv (i+1),ct:=Pv (i+1),bk:=D.nx } σ2 H2)
  (fin:∀ σ H,Pv n σ H->J.stop n H/\D.nx σ H):uu J g tb D σ H:=by
 refine⟨fun i m σ H=>m=n - i/\i<=n/\Pv i σ H,⟨n,by simp,Nat.zero_le _,h0⟩,?_⟩;rintro i m σ H ⟨rfl,hi,p⟩
 by_cases hlt:i<n
 ·obtain⟨h1,h2⟩:=go i σ H hlt p
  exact .inr ⟨h1,Pv (i+1),fun σ' H' p'=>⟨n - (i+1),by omega,rfl,hlt,p'⟩,h2⟩
 ·have e:i=n:=by omega
  subst e;exact .inl (fin σ H p)
theorem cq {K:PySem.W.Frag}{a:Addr}{xs:List V} (Pv:Nat->St->Hp->Prop) (h0:Pv 0 σ H) (hl:∀ i σ H,Pv i σ H->aO K H a xs)
  (hs:∀ i x σ H,xs[i]?=some x->Pv i σ H->g x σ H fun σ2 H2=>tb { D with nx:=Pv (i+1),ct:=Pv (i+1),bk:=D.nx } σ2 H2) (hd:∀ σ H,Pv xs.length σ H->D.nx σ H):uu (Dl K a) g tb D σ H :=
 jo xs.length Pv h0 (fun i σ H hi p=>⟨⟨xs,xs[i],hl i σ H p,by simp[hi]⟩,fun x H' y=>by
  obtain⟨e,y⟩:=y;subst e;exact hs i x σ _ (y xs (hl i σ _ p)) p⟩) fun σ H p=>⟨⟨xs,hl _ σ H p,Nat.le_refl _⟩,hd σ H p⟩
theorem xa {l:List Nat} (Pv:Nat->St->Hp->Prop) (h0:Pv 0 σ H)
  (hs:∀ i c σ H,l[i]?=some c->Pv i σ H->g (sgn c) σ H fun σ2 H2=>tb { D with nx:=Pv (i+1),ct:=Pv (i+1),bk:=D.nx } σ2 H2) (hd:∀ σ H,Pv l.length σ H->D.nx σ H):uu (CD (tx l)) g tb D σ H :=
 jo l.length Pv h0 (fun i σ H hi p=>⟨by show i<(tx l).cps.size;simpa using hi,fun x H' y=>by
  obtain⟨e,c,hc,ex⟩:=y;subst e ex;exact hs i c σ _ (by simpa using hc) p⟩) fun σ H p=>⟨by show (tx l).cps.size<=l.length;simp,hd σ H p⟩
theorem wy {n:Nat} (Pv:Nat->St->Hp->Prop) (h0:Pv 0 σ H)
  (hs:∀ i σ H,i<n->Pv i σ H->g (.int (i:Int)) σ H fun σ2 H2=>tb { D with nx:=Pv (i+1),ct:=Pv (i+1),bk:=D.nx } σ2 H2) (hd:∀ σ H,Pv n σ H->D.nx σ H):uu (DP 0 n) g tb D σ H :=
 jo n Pv h0 (fun i σ H hi p=>⟨hi,fun x H' y=>by
  obtain⟨e,ex⟩:=y;subst e ex;have e:(0:Int)+(i:Int)=(i:Int):=by omega
  rw[e];exact hs i σ _ hi p⟩) fun σ H p=>⟨Nat.le_refl _,hd σ H p⟩
theorem ui {lo:Int}{n:Nat} (Pv:Nat->St->Hp->Prop) (h0:Pv 0 σ H)
  (hs:∀ i σ H,i<n->Pv i σ H->g (.int (lo - i)) σ H fun σ2 H2=>tb { D with nx:=Pv (i+1),ct:=Pv (i+1),bk:=D.nx } σ2 H2) (hd:∀ σ H,Pv n σ H->D.nx σ H):uu (F7 lo (-1) n) g tb D σ H :=
 jo n Pv h0 (fun i σ H hi p=>⟨hi,fun x H' y=>by
  obtain⟨e,ex⟩:=y;subst e ex;have e:lo+(i:Int) * (-1)=lo - (i:Int):=by omega
  rw[e];exact hs i σ _ hi p⟩) fun σ H p=>⟨Nat.le_refl _,hd σ H p⟩
theorem mw {c:TT} (Pv:Nat->St->Hp->Prop) (m0:Nat) (h0:Pv m0 σ H)
  (hs:∀ m σ H,Pv m σ H->c σ H fun b H1=>if b=true then tb { D with nx:=fun σ' H'=>∃ m',m'<m/\Pv m' σ' H',ct:=fun σ' H'=>∃ m',m'<m/\Pv m' σ' H',bk:=D.nx } σ H1 else D.nx σ H1)
  (mono:∀ σ H Q Q',(∀ b H1,Q b H1->Q' b H1)->c σ H Q->c σ H Q'):qL c tb D σ H:=by
 refine⟨Pv,⟨m0,h0⟩,fun m σ H p=>mono _ _ _ _ (fun b H1 q=>?_) (hs m σ H p)⟩
 cases b with
 | true=>exact⟨_,fun σ' H' z=>z,q⟩
 | false=>exact q
end
theorem aE.new {H H1:Hp}{p:Addr}{o:HO} (e:aE H H1) (hp:H1 p=none):aE H (upd H1 p o):=fun c u h=>by
 have h1:=e c u h;rw[ah (ai h1 hp)];exact h1
theorem aE.kp {H H1:Hp}{l:List Addr} (e:aE H H1):Kp H H1 l:=fun c o h _=>e c o h
noncomputable def iR (f:List Nat->Bool):V->Option V
 | .str y=>if f y.cps.toList=true then some (.str y) else none
 | _=>none
theorem gc (f:List Nat->Bool) (y:List Nat):iR f (.str (tx y))=if f y=true then some (.str (tx y)) else none:=by
 show (if f (tx y).cps.toList=true then _ else _)=_;rw[dM]
theorem lG (f:List Nat->Bool) (l:List (List Nat)):(l.map fun y=>V.str (tx y)).filterMap (iR f)=(l.filter f).map fun y=>V.str (tx y):=by
 induction l with
 | nil=>rfl
 | cons a r ih =>
  rw[List.map_cons,List.filterMap_cons,gc]
  cases e:f a with
  | true=>simp only[if_true,List.filter_cons,e,List.map_cons,ih]
  | false=>simp only[Bool.false_eq_true,if_false,List.filter_cons,e,ih]
theorem bM.mono {P:Program}{w:World}{K:PySem.W.Frag}{mg:Str->Option Value}{base:Heap}{CX:lT}{k j:Nat}{x:Str}{ps:List Str}{sp:Sp} (c:bM P w K mg base CX k x ps sp) (h:k<=j):bM P w K mg base CX j x ps sp:=by
 obtain⟨f,fd,F,r⟩:=c.ex;exact⟨f,fd,F.mono h,r⟩
end L2
end
section
namespace L2
open PySem PySem.Spec PyProof.Rows
noncomputable def notStar:Expr->Bool
 | .Starred _ _=>false
 | _=>true
theorem cw {e:Expr}{es:List Expr}{env:Env} (h:notStar e=true):starEach (e::es) env=(false,eval e env)::starEach es env:=by
 cases e <;> first|rfl|cases h
theorem back_eq {e:Expr}{es:List Expr}{env:Env}{pos:Pos} (h:notStar e=true):(backTo pos (starEach (e::es) env)).any (·.1)=(backTo pos (starEach es env)).any (·.1):=by
 rw[cw h];rfl
noncomputable def bG:List Expr->Bool
 | []=>true
 | e::es=>notStar e && bG es
theorem cU {env:Env}{pos:Pos}:∀ {es:List Expr},bG es=true->(backTo pos (starEach es env)).any (·.1)=false
 | [],_=>rfl
 | e::es,h=>by
  have h:(notStar e && bG es)=true:=h;rw[Bool.and_eq_true] at h;rw[back_eq h.1];exact cU h.2
section
variable {X:Cx}{e:Expr}{es:List Expr}{te:TE}{t:TA}{pos p:Pos}{x:Str}{ps:List Str}{sp:Sp}{k:Nat}{id T:String}{r:List V->Hp->VK->Prop}
theorem ag (ha:PE X e te) (hr:PA X es t) (hs:notStar e=true:=by rfl):PA X (e::es) (sR te t):=jw ha hr (cw hs)
theorem bh (c:bM X.prog X.w X.K X.mg X.base aQ k x ps sp) (hr:cj k X.A) (ha:PA X (e::es) t) (hg:Gl X x:=by rfl) (hdb:(x == ("__debug__":Str))=false:=by decide)
  (hs:bG (e::es)=true:=by rfl):PE X (.Call (.Name x p) (e::es) [] pos) (iZ sp [] E0 t):=by
 have h:(notStar e && bG es)=true:=hs;rw[Bool.and_eq_true] at h;exact DE c hr ha hg hdb (cw h.1) (cU h.2)
theorem br (hc:ck X (.builtin id) r) (hg:Gl X x) (hm:X.mg x=none) (hv:bootBuiltins x=some (.builtin id)) (ha:PA X (e::es) t) (hn:x≠"__name__":=by decide) (hdb:(x == ("__debug__":Str))=false:=by decide)
  (hs:bG (e::es)=true:=by rfl):PE X (.Call (.Name x p) (e::es) [] pos) (Cs r t):=by
 have h:(notStar e && bG es)=true:=hs;rw[Bool.and_eq_true] at h;exact pf hc hg hm hv ha hn hdb (cw h.1) (cU h.2)
theorem cS (hc:ck X (.type T) r) (hg:Gl X x) (hm:X.mg x=none) (hv:bootBuiltins x=some (.type T)) (ha:PA X (e::es) t) (hn:x≠"__name__":=by decide) (hdb:(x == ("__debug__":Str))=false:=by decide)
  (hs:bG (e::es)=true:=by rfl):PE X (.Call (.Name x p) (e::es) [] pos) (Cs r t):=by
 have h:(notStar e && bG es)=true:=hs;rw[Bool.and_eq_true] at h;exact sT hc hg hm hv ha hn hdb (cw h.1) (cU h.2)
variable (K:PySem.W.Frag) {o:Expr}{to:TE}{name:Str}{apos cpos:Pos}{r':V->List V->Hp->VK->Prop}
theorem kR {env:Env}{pos:Pos}:∀ {es:List Expr},bG es=true->(backTo pos (starEach es env)).all (fun x=>!x.1)=true
 | [],_=>rfl
 | e::es,h=>by
  have h:(notStar e && bG es)=true:=h;rw[Bool.and_eq_true] at h;rw[cw h.1];exact kR h.2
theorem dF (pa:PlainAttrs T) (slot:Slot T name id) (hty:typeOf (.builtin id)=pure (.type "method_descriptor")) (hm:AO X id r') (ho:PE X o to) (ha:PA X (e::es) t)
  (hbase:attributeBase o name X.env (eval o X.env)=eval o X.env:=by rfl) (hlen:decide ((e::es).length+0+0<30)=true:=by rfl)
  (hline:(apos.endLine == cpos.line)=true:=by rfl) (hs:bG (e::es)=true:=by rfl) (hK:X.K=K:=by rfl) :
  PE X (.Call (.Attribute o name apos) (e::es) [] cpos) (Dj K T r' to t):=by
 have h:(notStar e && bG es)=true:=hs;rw[Bool.and_eq_true] at h;refine AA K pa slot hty hm ho ha hbase ?_ hline (cw h.1) (cU h.2) hK;rw[kR hs,Bool.true_and,Bool.and_eq_true];exact⟨rfl,hlen⟩
end
end L2
end
section
namespace L2
open PySem PySem.Spec PyProof.Rows
noncomputable def DN (t:TS):TS:=fun D σ H=>∃ I:St->Hp->Prop,t { D with nx:=I } σ H/\∀ σ' H',I σ' H'->D.nx σ' H'
theorem eE {X:Cx}{st:Stmt}{t:TS} (h:PS X st t):PS X st (DN t):=by
 intro pins s σ H D I0 ⟨I,q,r⟩;refine bC (h pins s σ H { D with nx:=I } I0 q) fun f s1 z=>?_
 cases f with
 | next =>
  obtain⟨σ',H',I',z⟩:=z;exact⟨σ',H',I',r σ' H' z⟩
 | ret v=>exact z
 | brk=>exact z
 | cont=>exact z
end L2
end
section
namespace L2
open PySem PySem.Spec PyProof.Rows
theorem jO {J:It}{σ':St}{g:TG}{tc:TT}{te:TE}{H1:Hp}{F:List V->Hp->Prop} (n:Nat) (Iv:Nat->List V->Hp->Prop) (h0:Iv 0 [] H1) (hn:n<=sizeLine)
  (len:∀ i ys H,i<=n->Iv i ys H->ys.length<=i)
  (go:∀ i ys H,i<n->Iv i ys H->J.go i H/\∀ x H3,J.yld i H x H3->∀ (R:VK) (R':Hp->Prop),(∀ y H',Iv (i+1) (ys++[y]) H'->R y H')->(∀ H',Iv (i+1) ys H'->R' H') ->
   g x σ' H3 fun σ4 H4=>Wk σ' σ4/\tc σ4 H4 fun b H5=>if b=true then te σ4 H5 R else R' H5)
  (fin:∀ ys H,Iv n ys H->J.stop n H/\F ys H):gr J σ' g tc te H1 F:=by
 refine⟨fun i m ys H=>i<=n/\m=n - i/\Iv i ys H,⟨n,Nat.zero_le _,by simp,h0⟩,?_⟩;rintro i m ys H ⟨hi,rfl,iv⟩;have hl:=len i ys H hi iv
 by_cases hlt:i<n
 ·obtain⟨h1,h2⟩:=go i ys H hlt iv
  exact .inr ⟨h1,by omega,fun x H3 hy=>h2 x H3 hy _ _ (fun y H' q=>⟨n - (i+1),by omega,hlt,rfl,q⟩) fun H' q=>⟨n - (i+1),by omega,hlt,rfl,q⟩⟩
 ·have e:i=n:=by omega
  subst e;obtain⟨h1,h2⟩:=fin ys H iv;exact .inl ⟨h1,by omega,h2⟩
theorem de {K:PySem.W.Frag}{a:Addr}{xs:List V}{σ':St}{g:TG}{tc:TT}{te:TE}{H1:Hp}{F:List V->Hp->Prop} (Iv:Nat->List V->Hp->Prop) (h0:Iv 0 [] H1) (hn:xs.length<=sizeLine)
  (len:∀ i ys H,Iv i ys H->ys.length<=i) (hl:∀ i ys H,Iv i ys H->aO K H a xs)
  (step:∀ i ys H x,xs[i]?=some x->Iv i ys H->∀ (R:VK) (R':Hp->Prop),(∀ y H',Iv (i+1) (ys++[y]) H'->R y H')->(∀ H',Iv (i+1) ys H'->R' H') ->
   g x σ' H fun σ4 H4=>Wk σ' σ4/\tc σ4 H4 fun b H5=>if b=true then te σ4 H5 R else R' H5)
  (fin:∀ ys H,Iv xs.length ys H->F ys H):gr (Dl K a) σ' g tc te H1 F:=by
 refine jO xs.length Iv h0 hn (fun i ys H _ q=>len i ys H q) (fun i ys H hi q=>⟨⟨xs,xs[i],hl i ys H q,by simp[hi]⟩,fun x H3 hy R R' r r'=>?_⟩) fun ys H q=>⟨⟨xs,hl _ ys H q,Nat.le_refl _⟩,fin ys H q⟩;obtain⟨e,hy⟩:=hy;subst e;exact step i ys _ x (hy xs (hl i ys _ q)) q R R' r r'
end L2
end
section
namespace L2
open PySem PySem.Spec PyProof.Rows
theorem xX (t:SetTable) (n:Nat):(t.orStandIn n).led=t.led/\(t.plain=false->(t.orStandIn n).plain=false):=by
 unfold SetTable.orStandIn
 split
 ·exact⟨rfl,id⟩
 ·exact⟨rfl,fun _=>rfl⟩
theorem xN (t:SetTable) (es:Array (Int×Value)) (h:Int) (x:Value):(layNew t es h x).2.1.led=t.led/\(t.plain=false->(layNew t es h x).2.1.plain=false):=by
 unfold layNew
 split
 ·exact xX _ _
 ·exact⟨rfl,fun _=>rfl⟩
theorem xc {m f v:Nat}{a b:Bool}{hs:Array Int}{r:SetTable×Array Nat} (h:SetTable.laid m f v a b hs=some r):r.1.led=a/\r.1.plain=b:=by
 unfold SetTable.laid at h
 cases e:SetTable.layClean m hs with
 | none=>rw[e] at h;cases h
 | some o =>
  rw[e] at h;have h:=Option.some.inj h;subst h;exact⟨rfl,rfl⟩
theorem tq (t:SetTable) (es:Array (Int×Value)) (n:Nat):(relayAll t es n).2.1.led=t.led/\(t.plain=false->(relayAll t es n).2.1.plain=false):=by
 unfold relayAll
 split
 ·rename_i t' order h
  have:=xc (r:=(t',order)) h;dsimp only
  split
  ·exact⟨this.1,fun hp=>this.2.trans hp⟩
  ·exact⟨rfl,fun _=>rfl⟩
 ·exact⟨rfl,fun _=>rfl⟩
noncomputable def eJ (w:World):Bool:=w.params.followText "set-order"
structure kM (P:Program) (w:World) (h:Heap) (a:Addr) (es:Array (Int×Value)):Prop where
 ex:∃ o ep t,h.get? a=some o/\o.ExactSet/\o.data=.set es ep t/\t.fits es.size=true/\t.led=!eJ w/\(es=#[]\/t.plain=false)
 el:ElemsOf (PySem.strKind P w) es.toList
 sz:es.size<scanBound
theorem kQ (x:Str) (t:Tok):hashByValue 8 (.str x t)=pure false:=hashByValue_scannable 8 (x:=.str x t) rfl
section
variable {P:Program}{w:World}{A:Around}{E:Value->Shared->Prop}{s:Shared}
theorem sO {g:Bool->Sem Unit} (hg:∀ (b:Bool) (s₁:Shared) (Q':Unit->Shared->Prop),Q' () s₁->wpAny (model P w) A (g b) Q' E s₁) {a:Addr}{o:Obj}{es:Array (Int×Value)}{ep:Nat}{t:SetTable}
  (ho:s.heap.get? a=some o) (hex:o.ExactSet) (hd:o.data=.set es ep t) {es1:Array (Int×Value)}{t2:SetTable} (el:ElemsOf (PySem.strKind P w) es1.toList) (sz:es1.size<scanBound) (hf:t2.fits es1.size=true) (hl:t2.led=!eJ w) (hp:t2.plain=false)
  {dummy:Bool}{R:Option Bool->Shared->Prop} (h:∀ h' es2,Heap.SameBut a s.heap h'->kM P w h' a es2->es2.toList.Perm es1.toList->R (some true) { s with heap:=h' }) :
  wpAny (model P w) A (do
    storeSet a es1 t2
    if (!dummy && t2.tooFull)=true then do
      g (relayAll t2 es1 (SetTable.grown es1.size)).2.2
      storeSet a (relayAll t2 es1 (SetTable.grown es1.size)).1 (relayAll t2 es1 (SetTable.grown es1.size)).2.1
      pure (some true)
     else pure (some true)) R E s:=by
 refine wpAny_bind (wpAny_storeSet_of ho hd ?_ (fits_of_scanBound sz));have hn:∀ (h:Heap) (o:Obj) (es:Array (Int×Value)) (ep:Nat) (t:SetTable) (es':Array (Int×Value)) (t':SetTable),h.get? a=some o->o.data=.set es ep t->(h.update a (Obj.putSet es' t')).get? a=some { o with data:=.set es' (ep+1) t' }:=by
  intro h o es ep t es' t' e d;have z:=Heap.get?_update_self (Obj.putSet es' t') e (by rw[putSet_of es' t' d];rfl);rw[putSet_of es' t' d] at z;exact z
 have h1:=hn s.heap o es ep t es1 t2 ho hd;have b1:=Heap.SameBut.update s.heap a (Obj.putSet es1 t2)
 split
 ·have hpm:=relayAll_perm t2 es1 (SetTable.grown es1.size)
  have hft:=relayAll_fits t2 es1 (SetTable.grown es1.size);have hll:=tq t2 es1 (SetTable.grown es1.size);have el2:=el.perm hpm;have e2:(relayAll t2 es1 (SetTable.grown es1.size)).1.size=es1.size:=by rw[<- Array.length_toList,hpm.length_eq,Array.length_toList]
  refine wpAny_bind (hg _ _ _ ?_);refine wpAny_bind (wpAny_storeSet_of h1 rfl ?_ (by rw[e2];exact fits_of_scanBound sz));refine wpAny_pure (h _ _ (b1.trans (Heap.SameBut.update _ a _)) ⟨⟨_,_,_,hn _ _ _ _ _ _ _ h1 rfl,hex,rfl,hft,hll.1.trans hl,.inr (hll.2 hp)⟩,el2,by rw[e2];exact sz⟩ hpm)
 ·exact wpAny_pure (h _ _ b1 ⟨⟨_,_,_,h1,hex,rfl,hf,hl,.inr hp⟩,el,sz⟩ (List.Perm.refl _))
theorem Bi {a:Addr}{es:Array (Int×Value)}{x:Str}{t:Tok}{Q:Bool->Shared->Prop} (hS:kM P w s.heap a es) (room:es.size+1<scanBound)
  (h:∀ h' es2,Heap.SameBut a s.heap h'->kM P w h' a es2->((∃ e∈es.toList,e.2.isStrOf x=true)/\es2=es\/(¬ (∃ e∈es.toList,Value.isStrOf x e.2=true))/\es2.toList.Perm (es.toList++[(hashStr w x,.str x t)]))->∀ b,Q b { s with heap:=h' }) :
  wpAny (model P w) A (setAddHashed a (.str x t) (hashStr w x)) Q E s:=by
 obtain⟨⟨o,ep,tb,ho,hex,hd,hf,hl,hp⟩,el,sz⟩:=hS;have hkey:(PySem.strKind P w).is x (.str x t)=true:=by show Value.isStrOf x (.str x t)=true;simp[Value.isStrOf]
 have hsc:(Value.str x t).scannable=true:=rfl;unfold setAddHashed setAddHashedIn;refine wpAny_holding (wpAny_bind (wpAny_setState_of ho hd hf ?_));dsimp only;rw[byScan_of (knd:=PySem.strKind P w) hsc sz el];simp only[↓reduceIte];unfold setAddByScan;refine wpAny_bind ?_;refine wpAny_bind (wpAny_rule ?_);refine wpAny_bind (wpAny_setScan_of (knd:=PySem.strKind P w) hkey ho hd hf el ?_)
 cases hr:List.findIdx? (fun e=>(PySem.strKind P w).is x e.2) es.toList with
 | some j =>
  dsimp only;obtain⟨hj,hpj,_⟩:=List.findIdx?_eq_some_iff_getElem.mp hr;refine wpAny_pure (wpAny_pure ?_);have e:s={ s with heap:=s.heap }:=by cases s;rfl
  rw[e];exact h s.heap es (Heap.SameBut.refl a s.heap) ⟨⟨o,ep,tb,ho,hex,hd,hf,hl,hp⟩,el,sz⟩ (.inl ⟨⟨es.toList[j],List.getElem_mem hj,hpj⟩,rfl⟩) _
 | none =>
  dsimp only;have hno:¬ (∃ e∈es.toList,Value.isStrOf x e.2=true):=by
   rintro ⟨e,he,q⟩;have z:=List.findIdx?_eq_none_iff.mp hr e he;have q:(PySem.strKind P w).is x e.2=true:=q;rw[q] at z
   cases z
  have hgw:∀ (b:Bool) (s₁:Shared) (Q':Unit->Shared->Prop),Q' () s₁->wpAny (model P w) A (match b with|true=>rule "set.scan.the-table-gave-way" | false=>pure ()) Q' E s₁ :=
   fun b s₁ Q' hq=>by cases b <;> first|exact wpAny_pure hq|exact wpAny_rule hq
  have hpm:=layNew_perm tb es (hashStr w x) (.str x t);have hft:=layNew_fits tb es (hashStr w x) (.str x t);have hll:=xN tb es (hashStr w x) (.str x t);rw[Array.toList_push] at hpm;generalize hL:layNew tb es (hashStr w x) (.str x t)=L at hpm hft hll;obtain⟨es1,t1,dm,gave⟩:=L;dsimp only at hpm hft hll;have el1:ElemsOf (PySem.strKind P w) es1.toList:=(el.push hkey hsc).perm hpm;have sz1:es1.size<scanBound:=by
   rw[<- Array.length_toList,hpm.length_eq,List.length_append,Array.length_toList];exact room
  have hL':layNew tb es ((PySem.strKind P w).hash x) (.str x t)=(es1,t1,dm,gave):=hL;simp only[hL'];refine wpAny_bind (hgw gave _ _ ?_);have fin:∀ h' es2,Heap.SameBut a s.heap h'->kM P w h' a es2->es2.toList.Perm es1.toList->Q true { s with heap:=h' }:=fun h' es2 b1 b2 b3=>h h' es2 b1 b2 (.inr ⟨hno,b3.trans hpm⟩) true
  split
  ·refine wpAny_bind ?_
   rw[kQ];refine wpAny_pure ?_;simp only[Bool.false_eq_true,↓reduceIte];refine sO hgw ho hex hd el1 sz1 (SetTable.fits_plain_off hft) ?_ rfl fun h' es2 b1 b2 b3=>?_
   ·exact hll.1.trans hl
   ·exact wpAny_pure (fin h' es2 b1 b2 b3)
  ·rename_i np
   refine wpAny_bind (wpAny_pure ?_);simp only[↓reduceIte];refine sO hgw ho hex hd el1 sz1 hft (hll.1.trans hl) (by simpa using np) fun h' es2 b1 b2 b3=>?_;exact wpAny_pure (fin h' es2 b1 b2 b3)
structure Holds (P:Program) (w:World) (h:Heap) (a:Addr) (cs:List Nat) (es:Array (Int×Value)):Prop where
 ss:kM P w h a es
 is:∃ ds:List Nat,ds.Nodup/\(∀ c,c∈ds↔c∈cs)/\Paired (fun (e:Int×Value) (d:Nat)=>∃ t,e.2=.str ⟨#[d]⟩ t) es.toList ds
theorem oW {α β:Type}{R:α->β->Prop}{l l':List α} (p:l.Perm l'):∀ {r:List β},Paired R l' r->∃ r',r'.Perm r/\Paired R l r':=by
 induction p with
 | nil=>intro r h;cases h;exact⟨[],.refl _,.nil⟩
 | cons x _ ih =>
  intro r h
  cases h with
  | cons a b =>
   obtain⟨r',p',q⟩:=ih b;exact⟨_::r',p'.cons _,.cons a q⟩
 | swap x y l =>
  intro r h
  cases h with
  | cons a b =>
   cases b with
   | cons c d=>exact⟨_,List.Perm.swap _ _ _,.cons c (.cons a d)⟩
 | trans _ _ i1 i2 =>
  intro r h;obtain⟨r1,p1,q1⟩:=i2 h;obtain⟨r2,p2,q2⟩:=i1 q1;exact⟨r2,p2.trans p1,q2⟩
theorem aZ {α β:Type}{R:α->β->Prop}:∀ {l:List α}{r:List β},Paired R l r->∀ {a:α}{b:β},R a b->Paired R (l++[a]) (r++[b])
 | _,_,.nil,_,_,h=>.cons h .nil
 | _,_,.cons a b,_,_,h=>.cons a (aZ b h)
theorem j_ {α β:Type}{R:α->β->Prop}:∀ {l:List α}{r:List β},Paired R l r->∀ b∈r,∃ a∈l,R a b
 | _,_,.nil,b,h=>nomatch h
 | _,_,.cons a q,b,h=>by
  rcases List.mem_cons.mp h with e|e
  ·subst e;exact⟨_,List.mem_cons_self,a⟩
  ·obtain⟨x,hx,r⟩:=j_ q b e
   exact⟨x,List.mem_cons_of_mem _ hx,r⟩
theorem fI {α β:Type}{R:α->β->Prop}:∀ {l:List α}{r:List β},Paired R l r->∀ a∈l,∃ b∈r,R a b
 | _,_,.nil,b,h=>nomatch h
 | _,_,.cons a q,b,h=>by
  rcases List.mem_cons.mp h with e|e
  ·subst e;exact⟨_,List.mem_cons_self,a⟩
  ·obtain⟨x,hx,r⟩:=fI q b e
   exact⟨x,List.mem_cons_of_mem _ hx,r⟩
theorem Holds.step {h:Heap}{a:Addr}{cs:List Nat}{es es2:Array (Int×Value)}{c:Nat}{t:Tok} (H:Holds P w s.heap a cs es) (S:kM P w h a es2)
  (q:(∃ e∈es.toList,Value.isStrOf ⟨#[c]⟩ e.2=true)/\es2=es\/(¬ (∃ e∈es.toList,Value.isStrOf ⟨#[c]⟩ e.2=true))/\es2.toList.Perm (es.toList++[(hashStr w ⟨#[c]⟩,.str ⟨#[c]⟩ t)])):Holds P w h a (cs++[c]) es2:=by
 refine⟨S,?_⟩;obtain⟨ds,nd,hm,hp⟩:=H.is;rcases q with ⟨⟨e,he,hs⟩,rfl⟩|⟨no,p⟩
 ·obtain⟨d,hd,t',e2⟩:=fI hp e he
  rw[e2] at hs;have:d=c:=by
   have hs:(Str.mk #[d] == Str.mk #[c])=true\/(Str.mk #[c] == Str.mk #[d])=true:=by first|exact .inl hs|exact .inr hs
   rcases hs with hs|hs
   ·have:=beq_iff_eq.mp hs;simpa using this
   ·have:=beq_iff_eq.mp hs;simpa using this.symm
  subst this;refine⟨ds,nd,fun x=>?_,hp⟩;rw[hm,List.mem_append,List.mem_singleton];exact⟨.inl,fun z=>z.elim id fun z=>z ▸ (hm d).mp hd⟩
 ·have nc:c∉ds:=fun hc=>by
   obtain⟨e,he,t',e2⟩:=j_ hp c hc;exact no ⟨e,he,by rw[e2];simp[Value.isStrOf]⟩
  obtain⟨r',p',q'⟩:=oW p (aZ hp (a:=(hashStr w ⟨#[c]⟩,Value.str ⟨#[c]⟩ t)) (b:=c) ⟨t,rfl⟩);refine⟨r',p'.symm.nodup ?_,fun x=>?_,q'⟩
  ·rw[List.nodup_append]
   exact⟨nd,List.nodup_cons.mpr ⟨by simp,List.nodup_nil⟩,fun x hx y hy=>by rw[List.mem_singleton.mp hy];intro z;exact nc (z ▸ hx)⟩
  ·rw[p'.mem_iff,List.mem_append,List.mem_append,hm]
end
end L2
end
section
namespace L2
open PySem PySem.Spec PyProof.Rows
section
variable {P:Program}{w:World}{A:Around}{E:Value->Shared->Prop}{s:Shared}
theorem kM.at {h h':Heap}{a:Addr}{es:Array (Int×Value)} (x:kM P w h a es) (k:∀ o,h.get? a=some o->h'.get? a=some o):kM P w h' a es:=by
 obtain⟨⟨o,ep,t,ho,r⟩,el,sz⟩:=x;exact⟨⟨o,ep,t,k _ ho,r⟩,el,sz⟩
theorem Holds.at {h h':Heap}{a:Addr}{cs:List Nat}{es:Array (Int×Value)} (x:Holds P w h a cs es) (k:∀ o,h.get? a=some o->h'.get? a=some o):Holds P w h' a cs es:=⟨x.ss.at k,x.is⟩
theorem aN {α β:Type}{R:α->β->Prop}:∀ {l:List α}{r:List β},Paired R l r->l.length=r.length
 | _,_,.nil=>rfl
 | _,_,.cons _ q=>congrArg (·+1) (aN q)
theorem fV:∀ {l u:List Nat},l.Nodup->(∀ x∈l,x∈u)->l.length<=u.length
 | [],_,_,_=>Nat.zero_le _
 | a::l,u,nd,h=>by
  obtain⟨n1,n2⟩:=List.nodup_cons.mp nd;have ha:=h a List.mem_cons_self;have:=fV (u:=u.erase a) n2 fun x hx=>(List.mem_erase_of_ne (fun e:x=a=>n1 (e ▸ hx))).mpr (h x (List.mem_cons_of_mem _ hx));rw[List.length_erase_of_mem ha] at this;have hp:0<u.length:=List.length_pos_of_mem ha;rw[List.length_cons];omega
theorem Holds.small {h:Heap}{a:Addr}{cs:List Nat}{es:Array (Int×Value)} (x:Holds P w h a cs es):es.size<=cs.length:=by
 obtain⟨ds,nd,hm,hp⟩:=x.is;have:=aN hp;rw[<- Array.length_toList,this];exact fV nd fun y hy=>(hm y).mp hy
theorem yp {I S:Addr}{x:Str}{fp wr:List Addr}{St:Nat->Heap->Prop}{R:Result->Shared->Prop} (W:Walks P w A.in1 I fp wr x.cps.size (SignAt x) St) (hSf:S∉fp) (room:x.cps.size+1<scanBound) :
  ∀ (k i:Nat) (s:Shared) (es:Array (Int×Value)),x.cps.size - i=k->i<=x.cps.size->St i s.heap->Holds P w s.heap S (x.cps.toList.take i) es ->
   (∀ (h':Heap) (tk:Nat) es',(∀ b o,b≠S->b∉wr->s.heap.get? b=some o->h'.get? b=some o)->Holds P w h' S x.cps.toList es'->R (.ok (.ret .none)) { s with heap:=h',toks:=tk }) ->
   codeAny (model P w) A (.builtin "set.update.loop" ⟨[.ref S,.ref I],[]⟩) R s:=by
 have hSw:S∉wr:=fun z=>hSf (W.sub _ z);intro k
 induction k with
 | zero =>
  intro i s es hk hi st hh hR;have e:i=x.cps.size:=by omega
  subst e;refine codeAny_builtin F.entry_set_update_loop ?_;rw[Around.under_plainId F.plain_set_update_loop _];show wpAny _ A.in1 (pyNext (.ref I) >>= _) _ _ s;refine wpAny_bind (W.done s _ _ st fun h' tk kp=>?_);show wpAny _ A.in1 (ret Value.none) _ _ { s with heap:=h',toks:=tk };refine wpAny_pure (hR h' tk es (fun b o _ hb e=>kp b o hb e) ?_);have hh':=hh.at (h':=h') fun o e=>kp S o hSw e
  rwa [List.take_of_length_le (by rw[Array.length_toList];exact Nat.le_refl _)] at hh'
 | succ k ih =>
  intro i s es hk hi st hh hR;have lt:i<x.cps.size:=by omega
  refine codeAny_builtin F.entry_set_update_loop ?_;rw[Around.under_plainId F.plain_set_update_loop _];show wpAny _ A.in1 (pyNext (.ref I) >>= _) _ _ s;refine wpAny_bind (W.item i s _ _ lt st fun v h1 tk1 hv st1 kp=>?_);obtain⟨c,u,hc,rfl⟩:=hv;have hh1:Holds P w h1 S (x.cps.toList.take i) es:=hh.at fun o e=>kp S o hSw e;have sm:=hh1.small;rw[List.length_take,Array.length_toList] at sm;show wpAny _ A.in1 (holding [Value.str ⟨#[c]⟩ u] (setAdd S (.str ⟨#[c]⟩ u)) >>= _) _ _ { s with heap:=h1,toks:=tk1 };refine wpAny_bind (wpAny_holding ?_);unfold setAdd;refine wpAny_holding ?_;refine wpAny_bind (wpAny_pyHash_str ?_);refine Bi (s:={ s with heap:=h1,toks:=tk1+1 }) hh1.ss (by omega) fun h2 es2 sb S2 q b=>?_;have hn:Holds P w h2 S (x.cps.toList.take (i+1)) es2:=by
   have e:x.cps.toList.take (i+1)=x.cps.toList.take i++[c]:=by
    rw[List.take_add_one];have:x.cps.toList[i]?=some c:=by rw[Array.getElem?_toList];exact hc
    rw[this]
    rfl
   rw[e];exact Holds.step (s:={ s with heap:=h1,toks:=tk1 }) hh1 S2 q
  refine wpAny_pure ⟨plainId_quiet F.plain_set_update_loop _,ih (i+1) { s with heap:=h2,toks:=tk1+1 } es2 (by omega) lt (W.frame _ h1 _ st1 fun b hb o e=>?_) hn fun h3 tk3 es3 kp3 hh3=>?_⟩
  ·exact (sb.2 b fun z=>hSf (z ▸ hb)).trans e
  ·exact hR h3 tk3 es3 (fun b o hb hw e=>kp3 b o hb hw ((sb.2 b hb).trans (kp b o hw e))) hh3
end
end L2
end
section
namespace L2
open PySem PySem.Spec PyProof.Rows
theorem sub_str_set:isSubtype (.type "str") (.type "set")=pure false:=by rw[isSubtype_type];kernel_rfl
theorem kF:isSubtype (.type "str") (.type "frozenset")=pure false:=by rw[isSubtype_type];kernel_rfl
section
variable {P:Program}{w:World}{A:Around}{E:Value->Shared->Prop}{s:Shared}
noncomputable abbrev rj (w:World):Obj:={ cls:=.type "set",dict:=none,data:=.set #[] 0 (.fresh 0 0 (!eJ w)) }
theorem mY (a:Value) {Q1:Value->Shared->Prop} (h:Q1 (.ref s.heap.objs.size) { s with heap:=s.heap.push (rj w) }) :
  codeAny (model P w) A (.call (.builtin "set.__new__") ⟨[.type "set",a],[]⟩) (wants Q1 E) s:=by
 refine codeAny_of_tree ?_;show wpAny _ A.in1 (do checkBuiltinCall "set.__new__" ⟨[.type "set",a],[]⟩;again (.builtin "set.__new__" ⟨[.type "set",a],[]⟩)) _ _ s;refine wpAny_bind (wpAny_of_eq (F.newCall_set_1 a) (wpAny_pure ⟨plainId_quiet F.plain_set_new _,codeAny_builtin F.entry_set_new ?_⟩));rw[Around.under_plainId F.plain_set_new _];unfold Builtin.«set.__new__» Builtin.Frozenset.newClass;have hsub:=sub_set_self;obtain⟨hp,g,d,tk,os⟩:=s;dsimp only
 wp_walk
 refine wpAny_askSetting (wpAny_pure ?_);dsimp only;simp only[newObj];refine wpAny_bind (wpAny_alloc (wpAny_pure ?_));exact wpAny_pure h
set_option maxHeartbeats 3200000 in
theorem A0 {x:Str}{t:Tok}{Q:Value->Shared->Prop} (hh:A.handled=none) (room:x.cps.size+1<scanBound)
  (h:∀ (h':Heap) (tk:Nat) es,Holds P w h' s.heap.objs.size x.cps.toList es->(∀ b o,s.heap.get? b=some o->h'.get? b=some o)->Q (.ref s.heap.objs.size) { s with heap:=h',toks:=tk }) :
  wpAny (model P w) A (call (.type "set") [.str x t]) Q E s:=by
 obtain⟨c,tl,hmro⟩:=F.called_set.mro;have hmade:=F.called_set.made;have hsub:=F.called_set.sub;refine wpAny_call (codeAny_of_tree ?_);show wpAny _ _ (callAny (.type "set") _) _ _ _;refine wpAny_pure ⟨Code.quiet_builtin _ (by decide +kernel),codeAny_builtin F.entry_type_call ?_⟩;rw[Around.under_plain (weight_type_call_type "set" [.str x t] []) rfl];have h1:=F.called_set.notType;have h2:=F.called_set.canCreate;have hct:=F.typeCall_set_1 (.str x t)
 repeat (any_goals (first|assumption|wp_step))
 refine codeAny_mono (mY (.str x t) (E:=E) (Q1:=fun obj s1=>obj=.ref s.heap.objs.size/\s1={ s with heap:=s.heap.push (rj w) }) ⟨rfl,rfl⟩) fun r s1 hr=>?_
 cases r with
 | error e=>exact hr
 | ok fl =>
  cases fl with
  | ret obj =>
   obtain⟨rfl,rfl⟩:=hr;have hS:(s.heap.push (rj w)).get? s.heap.objs.size=some (rj w):=Heap.get?_push_size _ rfl;have hT:Shared.TypeIs { s with heap:=s.heap.push (rj w) } (.ref s.heap.objs.size) "set":=⟨_,hS,rfl⟩;have hli:=F.called_set.init.lookup;have hbi:=F.called_set.init.bind (.ref s.heap.objs.size)
   repeat (any_goals (first|assumption|wp_step))
   refine codeAny_mono (codeAny_call_builtin (R:=wants (fun r s2=>r=.none/\∃ h' tk es,s2={ s with heap:=h',toks:=tk }/\Holds P w h' s.heap.objs.size x.cps.toList es /\
     (∀ b o,s.heap.get? b=some o->h'.get? b=some o)) E) F.called_set.init.plain F.entry_set_init (check_set_init_1 hT ?_)) fun r2 s2 hr2=>?_
   ·have q1:=sub_str_set
    have q2:=kF;have q3:(Value.type "str" == Value.type "dict")=false:=by decide
    unfold Builtin.«set.__init__» noKeywords Builtin.Frozenset.updateFrom;generalize hPI:pyIter=PI
    wp_walk
    subst hPI;refine wpAny_pyIter_str fun o St W st0=>?_;refine wpAny_bind (wpAny_runValue ?_);have hh3:A.in1.in1.in1.handled=none:=by simp[hh]
    have ne:s.heap.objs.size∉[(s.heap.push (rj w)).objs.size]:=by
     rw[Heap.size_push];simp
    refine yp (W _ hh3) ne room (x.cps.size - 0) 0 _ #[] (by omega) (Nat.zero_le _) st0 ?_ fun h' tk es kp hh'=>?_
    ·refine⟨⟨⟨rj w,0,_,Heap.get?_push_of_some _ hS,⟨rfl,rfl,rfl⟩,rfl,rfl,rfl,.inl rfl⟩,(fun e he=>absurd he (by simp)),by decide⟩,[],List.nodup_nil,fun c=>by simp,.nil⟩
    ·show wpAny _ _ _ _ _ _
     refine wpAny_pure ?_;show wpAny _ _ (ret Value.none) _ _ _;refine wpAny_pure ⟨rfl,h',tk,es,rfl,hh',fun b o e=>?_⟩;have hb:=Heap.lt_size e;refine kp b o (Nat.ne_of_lt hb) ?_ (Heap.get?_push_of_some _ (Heap.get?_push_of_some _ e));rw[Heap.size_push];simp only[List.mem_singleton];exact Nat.ne_of_lt (Nat.lt_succ_of_lt hb)
   ·cases r2 with
    | error e=>exact hr2
    | ok fl2 =>
     cases fl2 with
     | ret r =>
      obtain⟨rfl,h',tk,es,rfl,q1,q2⟩:=hr2
      repeat (any_goals (first|assumption|wp_step))
      exact h _ _ _ q1 q2
     | _=>exact hr2.elim
  | _=>exact hr.elim
end
end L2
end
section
namespace L2
open PySem PySem.Spec PyProof.Rows
theorem bx:Slot "set_iterator" "__next__" "set_iterator.__next__" :=
 .of (owner:="set_iterator") (n:="__next__") (by rw[typeLookup_type,builtinLookup_eq_fast];kernel_rfl) (by decide +kernel) (by decide +kernel) (by decide +kernel)
  (by first|exact .inl (by decide +kernel)|exact .inr (by decide +kernel)) (by rw[isSubtype_type];kernel_rfl)
theorem dh:entryFor table "set_iterator.__next__"=some Builtin.«set_iterator.__next__»:=entryFor_of_tree (by kernel_rfl)
theorem dE (a:Value):argsOk "set_iterator.__next__" ⟨[a],[]⟩:=by unfold argsOk;kernel_rfl
theorem gW:Slot "set_iterator" "__iter__" "set_iterator.__iter__" :=
 .of (owner:="set_iterator") (n:="__iter__") (by rw[typeLookup_type,builtinLookup_eq_fast];kernel_rfl) (by decide +kernel) (by decide +kernel) (by decide +kernel)
  (by first|exact .inl (by decide +kernel)|exact .inr (by decide +kernel)) (by rw[isSubtype_type];kernel_rfl)
theorem kJ:entryFor table "set_iterator.__iter__"=some Builtin.«dict_keyiterator.__iter__» :=
 entryFor_alias (id':="dict_keyiterator.__iter__") (by kernel_rfl) rfl (by decide +kernel) (by kernel_rfl)
theorem mJ (a:Value):argsOk "set_iterator.__iter__" ⟨[a],[]⟩:=by unfold argsOk;kernel_rfl
theorem mX:entryFor table "set.__iter__"=some Builtin.«frozenset.__iter__» :=
 entryFor_alias (id':="frozenset.__iter__") (by kernel_rfl) rfl (by decide +kernel) (by kernel_rfl)
theorem gI {α:Type}:∀ {l:List α}{i:Nat} (h:i<l.length),(l[i]::l.eraseIdx i).Perm l
 | a::l,0,_=>.refl _
 | a::l,i+1,h=>by
  show (l[i]'(by simpa using h)::a::l.eraseIdx i).Perm (a::l);exact (List.Perm.swap _ _ _).trans ((gI (l:=l) (i:=i) (by simpa using h)).cons a)
section
variable {P:Program}{w:World}{A:Around}{E:Value->Shared->Prop}{s:Shared}
theorem rD {n:Nat}{Q:Nat->Shared->Prop} (hn:n≠0) (h:∀ i d,i<n->Q i { s with drawn:=d }):wpAny (model P w) A (choose .order n) Q E s:=by
 intro Γ p hΓ;show Sem.wp _ _ (.choose .order n .pure) _ _ p s;rw[Sem.wp_choose];refine⟨hn,?_⟩;rw[Sem.wp_pure];exact h _ _ (Nat.mod_lt _ (Nat.pos_of_ne_zero hn))
theorem ko {α:Type}:∀ (n:Nat) (xs:List α) (s:Shared) {Q:List α->Shared->Prop},n=xs.length->(∀ ys d,ys.Perm xs->Q ys { s with drawn:=d })->wpAny (model P w) A (drawOrder n xs) Q E s
 | 0,xs,s,Q,hn,h=>by
  have e:xs=[]:=List.length_eq_zero_iff.mp hn.symm;subst e;unfold drawOrder;exact wpAny_pure (h [] s.drawn (.refl _))
 | n+1,[],s,Q,hn,h=>by simp at hn
 | n+1,x::xs,s,Q,hn,h=>by
  unfold drawOrder;refine wpAny_bind (rD (by simp) fun i d hi=>?_);rw[List.getElem?_eq_getElem hi];dsimp only;refine wpAny_bind (ko n ((x::xs).eraseIdx i) _ (by rw[List.length_eraseIdx,if_pos hi];omega) fun ys d' hp=>?_);refine wpAny_pure (h _ d' ?_);refine (hp.cons _).trans ?_;exact gI hi
theorem iE {α:Type} (f:Nat->Nat) (xs:Array α):(pickOrder f xs).toList.Perm xs.toList:=by
 have go:∀ (fuel k:Nat) (left:List α) (out:Array α),left.length=fuel->(pickOrder.go f fuel k left out).toList.Perm (out.toList++left):=by
  intro fuel
  induction fuel with
  | zero =>
   intro k left out h;have e:left=[]:=List.length_eq_zero_iff.mp h;subst e;unfold pickOrder.go;rw[List.append_nil]
  | succ n ih =>
   intro k left out h;unfold pickOrder.go;have lt:f k % left.length<left.length:=Nat.mod_lt _ (by omega);rw[List.getElem?_eq_getElem lt];dsimp only;refine (ih (k+1) _ _ (by rw[List.length_eraseIdx,if_pos lt];omega)).trans ?_;rw[Array.toList_push,List.append_assoc];exact List.Perm.append_left _ (gI lt)
 have:=go xs.size 0 xs.toList #[] (Array.length_toList)
 simpa [pickOrder] using this
noncomputable def pY (h:Heap) (it a:Addr) (first:Value) (i n ep:Nat):Prop:=∃ o,h.get? it=some o/\o.cls=.type "set_iterator"/\o.data=.fields #[first,rawInt i,.ref a,rawInt n,rawInt ep]
theorem pY.typeIs {it a:Addr}{first:Value}{i n ep:Nat} (x:pY s.heap it a first i n ep):s.TypeIs (.ref it) "set_iterator":=let ⟨o,ho,hc,_⟩:=x;⟨o,ho,hc⟩
theorem mO {it a:Addr}{first:Value}{i n ep:Nat}{Q:Value->Shared->Prop} (x:pY s.heap it a first i n ep) (h:Q (.ref it) s):wpAny (model P w) A (pyIter (.ref it)) Q E s:=by
 refine wpAny_pyIter_slot x.typeIs gW (wpAny_call_entry gW x.typeIs kJ ?_ (mJ _));show wpAny _ _ (ret (.ref it)) _ _ s;exact wpAny_pure ⟨_,rfl,"set_iterator",_,x.typeIs,bx.lookup,h⟩
noncomputable def pZ (w:World) (h:Heap) (a:Addr) (es:Array (Int×Value)) (ep:Nat) (t:SetTable):Prop:=∃ o,h.get? a=some o/\o.data=.set es ep t/\t.fits es.size=true/\t.led=!eJ w/\(es=#[]\/t.plain=false)
theorem cQ {a:Addr}{es:Array (Int×Value)}{ep:Nat}{t:SetTable}{Q:(Array (Int×Value)×Nat×SetTable)->Shared->Prop} (x:pZ w s.heap a es ep t) (h:Q (es,ep,t) s):wpAny (model P w) A (setState a) Q E s:=by
 obtain⟨o,ho,hd,hf,_⟩:=x;exact wpAny_setState_of ho hd hf h
theorem dG {Q:Bool->Shared->Prop} (h:Q (eJ w) s):wpAny (model P w) A setsByText Q E s:=by
 unfold setsByText;exact wpAny_bind (wpAny_askSetting (wpAny_pure h))
end
end L2
end
section
namespace L2
open PySem PySem.Spec PyProof.Rows
section
variable {P:Program}{w:World}{A:Around}{E:Value->Shared->Prop}{s:Shared}
theorem eu {it:Addr}{o:Obj}{vs:Array Value}{Q:Array Value->Shared->Prop} (ho:s.heap.get? it=some o) (hd:o.data=.fields vs) (h:Q vs s):wpAny (model P w) A (fieldsOf (.ref it)) Q E s:=by
 unfold fieldsOf;refine wpAny_bind (wpAny_load ho ?_);rw[hd];exact wpAny_pure h
theorem dR {a:Addr}{es:Array (Int×Value)}{ep:Nat}{t:SetTable}{Q:Array (Int×Value)->Shared->Prop} (x:pZ w s.heap a es ep t) (h:Q es s):wpAny (model P w) A (setEntries a) Q E s:=by
 unfold setEntries;exact wpAny_bind (cQ x (wpAny_pure h))
theorem sD {it a:Addr}{first:Int}{i:Nat}{es:Array (Int×Value)}{ep:Nat}{t:SetTable}{v:Value}{nx:Nat}{tk:Tok}{Q:Option Value->Shared->Prop} (x:pY s.heap it a (.int first tk) i es.size ep) (y:pZ w s.heap a es ep t)
  (hn:∀ (A:Around) (E:Value->Shared->Prop) (R:Option (Value×Nat)->Shared->Prop),R (some (v,nx)) s->wpAny (model P w) A (setNext a first.toNat i ep) R E s)
  (hQ:∀ h',pY h' it a (rawInt nx) (i+1) es.size ep->Heap.SameBut it s.heap h'->Q (some v) { s with heap:=h' }):wpAny (model P w) A (pyNext (.ref it)) Q E s:=by
 obtain⟨o,ho,hc,hd⟩:=id x;unfold pyNext;refine wpAny_bind (wpAny_attempt (wpAny_callSpecial?_slot (name:=Str.ofString "__next__") x.typeIs bx (wpAny_call_entry bx x.typeIs dh ?_ (dE _))));unfold Builtin.«set_iterator.__next__»;refine wpAny_bind (wpAny_of_eq (a:=(Value.ref it,[])) rfl ?_);dsimp only;refine wpAny_bind (eu ho hd ?_);show wpAny _ _ (setEntries a >>= _) _ _ s;refine wpAny_bind (dR y ?_);rw[if_neg (by simp)];show wpAny _ _ (setNext a first.toNat ((i:Nat):Int).toNat ((ep:Nat):Int).toNat >>= _) _ _ s;rw[Int.toNat_natCast,Int.toNat_natCast];refine wpAny_bind (hn _ _ _ ?_);dsimp only;refine wpAny_bind (wpAny_setField ho hd (by simp) ?_);have h2:=Heap.get?_update_self (Obj.mapFields (·.setIfInBounds 0 (rawInt nx))) ho (Obj.isFreed_of_fields (Obj.data_mapFields hd _));have d2:=Obj.data_mapFields hd (·.setIfInBounds 0 (rawInt nx));refine wpAny_bind (wpAny_setField h2 d2 (by simp) (wpAny_pure ⟨v,rfl,wpAny_pure (hQ _ ?_ ((Heap.SameBut.update ..).trans (Heap.SameBut.update ..)))⟩));exact⟨_,Heap.get?_update_self _ h2 (Obj.isFreed_of_fields (Obj.data_mapFields d2 _)),(Obj.cls_mapFields ..).trans ((Obj.cls_mapFields ..).trans hc),by
  rw[Obj.data_mapFields d2];simp[rawInt]⟩
theorem vi {it a:Addr}{first:Int}{i:Nat}{es:Array (Int×Value)}{ep:Nat}{t:SetTable}{tk:Tok}{Q:Option Value->Shared->Prop} (hh:A.handled=none) (x:pY s.heap it a (.int first tk) i es.size ep) (y:pZ w s.heap a es ep t)
  (hn:∀ (A:Around) (E:Value->Shared->Prop) (R:Option (Value×Nat)->Shared->Prop),R none s->wpAny (model P w) A (setNext a first.toNat i ep) R E s)
  (hQ:∀ h',Heap.ExtBut it s.heap h'->Q none { s with heap:=h' }):wpAny (model P w) A (pyNext (.ref it)) Q E s:=by
 obtain⟨o,ho,hc,hd⟩:=id x;unfold pyNext;refine wpAny_bind (wpAny_attempt (wpAny_callSpecial?_slot (name:=Str.ofString "__next__") x.typeIs bx (wpAny_call_entry bx x.typeIs dh ?_ (dE _))));unfold Builtin.«set_iterator.__next__»;refine wpAny_bind (wpAny_of_eq (a:=(Value.ref it,[])) rfl ?_);dsimp only;refine wpAny_bind (eu ho hd ?_);show wpAny _ _ (setEntries a >>= _) _ _ s;refine wpAny_bind (dR y ?_);rw[if_neg (by simp)];show wpAny _ _ (setNext a first.toNat ((i:Nat):Int).toNat ((ep:Nat):Int).toNat >>= _) _ _ s;rw[Int.toNat_natCast,Int.toNat_natCast];refine wpAny_bind (hn _ _ _ ?_);dsimp only;refine wpAny_bind (wpAny_setField ho hd (by simp) ?_);show wpAny _ _ (newExc (.type "StopIteration") [] >>= fun e=>raiseNew e) _ _ _;refine wpAny_bind ?_;simp only[newExc,newTuple];refine wpAny_bind (wpAny_newObj_type ?_ (by size_fits));refine wpAny_bind (m:=firstArgMember _ _) (wpAny_of_eq (a:=Value.none) (by first|rfl|(simp only[firstArgMember];rfl)) ?_);refine wpAny_newObj_type ?_ (by size_fits);simp only[raiseNew];refine wpAny_bind (wpAny_handled ?_)
 first|rw[show A.in1.handled=none from hh]|rw[hh]
 refine wpAny_bind (wpAny_pure (wpAny_throw ?_));refine wpAny_bind (wpAny_isInstance (T:="StopIteration") (b:=true) ⟨_,Heap.get?_push_size _ rfl,rfl⟩ isSubtype_stop ?_);exact wpAny_pure (hQ _ (((Heap.SameBut.update ..).extBut.push _).push _))
theorem yh {it a T:Addr}{i:Nat}{es:Array (Int×Value)}{ep:Nat}{t:SetTable}{pl:Array Value}{j:Nat}{tk:Tok}{hv:Int}{v:Value}{Q:Option Value->Shared->Prop} (x:pY s.heap it a (.ref T) i es.size ep) (y:pZ w s.heap a es ep t)
  (hT:IsTup s.heap T pl) (hj:pl[i]?=some (.int (j:Int) tk)) (he:es[j]?=some (hv,v))
  (hQ:∀ h',pY h' it a (.ref T) (i+1) es.size ep->Heap.SameBut it s.heap h'->Q (some v) { s with heap:=h' }):wpAny (model P w) A (pyNext (.ref it)) Q E s:=by
 obtain⟨o,ho,hc,hd⟩:=id x;obtain⟨oT,hoT,_,nT,hdT⟩:=hT;unfold pyNext;refine wpAny_bind (wpAny_attempt (wpAny_callSpecial?_slot (name:=Str.ofString "__next__") x.typeIs bx (wpAny_call_entry bx x.typeIs dh ?_ (dE _))));unfold Builtin.«set_iterator.__next__»;refine wpAny_bind (wpAny_of_eq (a:=(Value.ref it,[])) rfl ?_);dsimp only;refine wpAny_bind (eu ho hd ?_);show wpAny _ _ (setEntries a >>= _) _ _ s;refine wpAny_bind (dR y ?_);rw[if_neg (by simp)];show wpAny _ _ (seqItems? (.ref T) >>= _) _ _ s;refine wpAny_bind (wpAny_seqItems hoT hdT ?_);dsimp only;simp only[Int.toNat_natCast,hj];refine wpAny_bind ?_;unfold setNextDrawn;refine wpAny_bind (cQ y ?_);dsimp only;rw[if_neg (by simp)];rw[he];dsimp only;refine wpAny_pure ?_;refine wpAny_bind (wpAny_setField ho hd (by simp) (wpAny_pure ⟨v,rfl,wpAny_pure (hQ _ ?_ (Heap.SameBut.update ..))⟩));exact⟨_,Heap.get?_update_self _ ho (Obj.isFreed_of_fields (Obj.data_mapFields hd _)),(Obj.cls_mapFields ..).trans hc,by
  rw[Obj.data_mapFields hd];simp[rawInt]⟩
theorem BY {it a T:Addr}{i:Nat}{es:Array (Int×Value)}{ep:Nat}{t:SetTable}{pl:Array Value}{Q:Option Value->Shared->Prop} (hh:A.handled=none) (x:pY s.heap it a (.ref T) i es.size ep) (y:pZ w s.heap a es ep t)
  (hT:IsTup s.heap T pl) (hj:pl[i]?=none) (hQ:∀ h',Heap.ExtBut it s.heap h'->Q none { s with heap:=h' }):wpAny (model P w) A (pyNext (.ref it)) Q E s:=by
 obtain⟨o,ho,hc,hd⟩:=id x;obtain⟨oT,hoT,_,nT,hdT⟩:=hT;unfold pyNext;refine wpAny_bind (wpAny_attempt (wpAny_callSpecial?_slot (name:=Str.ofString "__next__") x.typeIs bx (wpAny_call_entry bx x.typeIs dh ?_ (dE _))));unfold Builtin.«set_iterator.__next__»;refine wpAny_bind (wpAny_of_eq (a:=(Value.ref it,[])) rfl ?_);dsimp only;refine wpAny_bind (eu ho hd ?_);show wpAny _ _ (setEntries a >>= _) _ _ s;refine wpAny_bind (dR y ?_);rw[if_neg (by simp)];show wpAny _ _ (seqItems? (.ref T) >>= _) _ _ s;refine wpAny_bind (wpAny_seqItems hoT hdT ?_);dsimp only;simp only[Int.toNat_natCast,hj];refine wpAny_bind (wpAny_setField ho hd (by simp) ?_);have h2:=Heap.get?_update_self (Obj.mapFields (·.setIfInBounds 0 (rawInt 0))) ho (Obj.isFreed_of_fields (Obj.data_mapFields hd _));have d2:=Obj.data_mapFields hd (·.setIfInBounds 0 (rawInt 0));refine wpAny_bind (wpAny_setField h2 d2 (by simp) ?_);show wpAny _ _ (newExc (.type "StopIteration") [] >>= fun e=>raiseNew e) _ _ _;refine wpAny_bind ?_;simp only[newExc,newTuple];refine wpAny_bind (wpAny_newObj_type ?_ (by size_fits));refine wpAny_bind (m:=firstArgMember _ _) (wpAny_of_eq (a:=Value.none) (by first|rfl|(simp only[firstArgMember];rfl)) ?_);refine wpAny_newObj_type ?_ (by size_fits);simp only[raiseNew];refine wpAny_bind (wpAny_handled ?_)
 first|rw[show A.in1.handled=none from hh]|rw[hh]
 refine wpAny_bind (wpAny_pure (wpAny_throw ?_));refine wpAny_bind (wpAny_isInstance (T:="StopIteration") (b:=true) ⟨_,Heap.get?_push_size _ rfl,rfl⟩ isSubtype_stop ?_);exact wpAny_pure (hQ _ ((((Heap.SameBut.update ..).trans (Heap.SameBut.update ..)).extBut.push _).push _))
end
end L2
end
section
namespace L2
open PySem PySem.Spec PyProof.Rows
section
variable {P:Program}{w:World}{A:Around}{E:Value->Shared->Prop}{s:Shared}
theorem pZ.at {h h':Heap}{a:Addr}{es:Array (Int×Value)}{ep:Nat}{t:SetTable} (x:pZ w h a es ep t) (k:∀ o,h.get? a=some o->h'.get? a=some o):pZ w h' a es ep t:=let ⟨o,ho,r⟩:=x;⟨o,k _ ho,r⟩
theorem pY.at {h h':Heap}{it a:Addr}{first:Value}{i n ep:Nat} (x:pY h it a first i n ep) (k:∀ o,h.get? it=some o->h'.get? it=some o):pY h' it a first i n ep:=let ⟨o,ho,r⟩:=x;⟨o,k _ ho,r⟩
theorem tD (hb:eJ w=true) (hh:A.handled=none) (it a:Addr) (ne:a≠it) (es:Array (Int×Value)) (ep:Nat) (t:SetTable) :
  Walks P w A it [it,a] [it] es.size (fun i v=>(((pickOrder (w.params.setOrder a ep) es).toList.map (·.2))[i]?=some v)) (fun i h=>pY h it a (rawInt 0) i es.size ep/\pZ w h a es ep t) where
 sub:=fun b hb=>by simp at hb;simp[hb]
 frame:=fun _ _ _ x k=>⟨x.1.at fun o e=>k it (by simp) o e,x.2.at fun o e=>k a (by simp) o e⟩
 item:=fun i s Q E hi x hQ=>by
  have hl:(pickOrder (w.params.setOrder a ep) es).size=es.size:=by rw[<- Array.length_toList,(iE _ es).length_eq,Array.length_toList]
  have hi':i<(pickOrder (w.params.setOrder a ep) es).size:=by rw[hl];exact hi
  refine sD (v:=(pickOrder (w.params.setOrder a ep) es)[i].2) (nx:=0) x.1 x.2 (fun A E R r=>?_) fun h' x' sb=>?_
  ·unfold setNext
   refine wpAny_bind (cQ x.2 ?_);dsimp only;refine wpAny_bind (dG ?_);rw[hb];simp only[if_true];rw[if_neg (by simp)];unfold setWalk;refine wpAny_bind (wpAny_bind (cQ x.2 ?_));dsimp only;refine wpAny_bind (dG ?_);rw[hb];simp only[if_true];refine wpAny_bind (wpAny_askSetting (wpAny_pure (wpAny_pure ?_)));show R (((pickOrder (w.params.setOrder a ep) es)[i]?).map fun e=>(e.2,(0:Int).toNat)) s;rw[Array.getElem?_eq_getElem hi'];exact r
  ·refine hQ _ h' s.toks ?_ ⟨x',x.2.at fun o e=>(sb.2 a ne).trans e⟩ fun b o hb e=>(sb.2 b fun z=>hb (by simp[z])).trans e
   rw[List.getElem?_map,Array.getElem?_toList,Array.getElem?_eq_getElem hi']
   rfl
 done:=fun s Q E x hQ=>by
  have hl:(pickOrder (w.params.setOrder a ep) es).size=es.size:=by rw[<- Array.length_toList,(iE _ es).length_eq,Array.length_toList]
  refine vi hh x.1 x.2 (fun A E R r=>?_) fun h' sb=>hQ h' s.toks fun b o hb e=>sb b o (fun z=>hb (by simp[z])) e;unfold setNext;refine wpAny_bind (cQ x.2 ?_);dsimp only;refine wpAny_bind (dG ?_);rw[hb];simp only[if_true];rw[if_neg (by simp)];unfold setWalk;refine wpAny_bind (wpAny_bind (cQ x.2 ?_));dsimp only;refine wpAny_bind (dG ?_);rw[hb];simp only[if_true];refine wpAny_bind (wpAny_askSetting (wpAny_pure (wpAny_pure ?_)));show R (((pickOrder (w.params.setOrder a ep) es)[es.size]?).map fun e=>(e.2,(0:Int).toNat)) s;rw[Array.getElem?_eq_none (by omega)];exact r
 self:=fun _ _ _ _ x hQ=>mO x.1 hQ
theorem qC (hh:A.handled=none) (it a T:Addr) (ne:a≠it) (nT:T≠it) (es:Array (Int×Value)) (ep:Nat) (t:SetTable) (ns:List Nat) (hp:ns.Perm (List.range es.size)) :
  Walks P w A it [it,a,T] [it] es.size (fun i v=>((ns.filterMap fun j=>es[j]?.map (·.2))[i]?=some v)) (fun i h=>pY h it a (.ref T) i es.size ep/\pZ w h a es ep t/\IsTup h T (ns.map fun (j:Nat)=>rawInt j).toArray):=by
 have lt:∀ j∈ns,j<es.size:=fun j hj=>List.mem_range.mp (hp.mem_iff.mp hj);have len:ns.length=es.size:=by rw[hp.length_eq,List.length_range]
 have get:∀ i (hi:i<ns.length),∃ hv v,es[ns[i]]?=some (hv,v)/\(ns.filterMap fun j=>es[j]?.map (·.2))[i]?=some v:=by
  intro i hi;have e:(ns.filterMap fun j=>es[j]?.map (·.2))=ns.map fun j=>(es[j]?.map (·.2)).getD .none:=by
   clear hp len hi
   induction ns with
   | nil=>rfl
   | cons c r ih =>
    rw[List.filterMap_cons,List.map_cons,ih fun j hj=>lt j (List.mem_cons_of_mem _ hj),Array.getElem?_eq_getElem (lt c List.mem_cons_self)]
    rfl
  have h:=lt _ (List.getElem_mem hi);refine⟨es[ns[i]].1,es[ns[i]].2,by rw[Array.getElem?_eq_getElem h],?_⟩;rw[e,List.getElem?_map,List.getElem?_eq_getElem hi];simp only[Option.map_some,Array.getElem?_eq_getElem h,Option.getD_some]
 refine⟨fun b hb=>by simp at hb;simp[hb],fun _ _ _ x k=>⟨x.1.at fun o e=>k it (by simp) o e,x.2.1.at fun o e=>k a (by simp) o e,?_⟩,fun i s Q E hi x hQ=>?_,fun s Q E x hQ=>?_,fun _ _ _ _ x hQ=>mO x.1 hQ⟩
 ·obtain⟨o,ho,r⟩:=x.2.2
  exact⟨o,k T (by simp) o ho,r⟩
 ·obtain⟨hv,v,e1,e2⟩:=get i (by omega)
  refine yh (j:=ns[i]) (hv:=hv) (v:=v) (tk:=0) x.1 x.2.1 x.2.2 (by simp[rawInt,show i<ns.length by omega]) e1 fun h' x' sb=>?_;refine hQ _ h' s.toks e2 ⟨x',x.2.1.at fun o e=>(sb.2 a ne).trans e,?_⟩ fun b o hb e=>(sb.2 b fun z=>hb (by simp[z])).trans e;obtain⟨o,ho,r⟩:=x.2.2;exact⟨o,(sb.2 T nT).trans ho,r⟩
 ·refine BY hh x.1 x.2.1 x.2.2 (by simp[len]) fun h' sb=>hQ h' s.toks fun b o hb e=>sb b o (fun z=>hb (by simp[z])) e
end
end L2
end
section
namespace L2
open PySem PySem.Spec PyProof.Rows
noncomputable def mI (t:SetTable):Nat->Nat
 | 0=>0
 | _+1=>t.place.getD 0 0+1
section
variable {P:Program}{w:World}{A:Around}{E:Value->Shared->Prop}{s:Shared}
theorem oq {a:Addr}{es:Array (Int×Value)}{ep:Nat}{t:SetTable}{slot i:Nat}{R:Option (Value×Nat)->Shared->Prop} (hb:eJ w=false) (y:pZ w s.heap a es ep t) (h1:es.size<=1)
  (r:R (match es[SetTable.below t.place slot]?,t.place[SetTable.below t.place slot]? with|some (_,x),some j=>some (x,j+1)|_,_=>none) s):wpAny (model P w) A (setNext a slot i ep) R E s:=by
 obtain⟨o,ho,hd,hf,hl,hp⟩:=id y;rw[hb] at hl;unfold setNext;refine wpAny_bind (cQ y ?_);dsimp only;refine wpAny_bind (dG ?_);rw[hb];simp only[Bool.false_eq_true,if_false];have nd:¬ ((!t.plain && decide (es.size > 1))=true):=by
  have:decide (es.size > 1)=false:=decide_eq_false (by omega);rw[this,Bool.and_false];exact Bool.false_ne_true
 refine wpAny_ite_split (fun z=>absurd z nd) fun _=>?_;refine wpAny_bind ?_;show wpAny _ _ (if (!t.led && !es.isEmpty)=true then unsupported "set:maker-not-led" else pure ()) _ _ s;rw[hl];simp only[Bool.not_false,Bool.not_true,Bool.false_and,Bool.false_eq_true,if_false];exact wpAny_pure (wpAny_pure r)
theorem Cc (xs:Array Nat) (h:xs.size<=1):SetTable.below xs 0=0:=by
 obtain⟨l⟩:=xs
 match l,h with
 | [],_=>rfl
 | [c],_=>simp[SetTable.below,SetTable.below.go]
theorem Aq (c:Nat):SetTable.below #[c] (c+1)=1:=by simp[SetTable.below,SetTable.below.go]
theorem yg (xs:Array Nat) (h:xs.size=1):∃ c,xs=#[c]:=by
 obtain⟨l⟩:=xs
 match l,h with
 | [c],_=>exact⟨c,rfl⟩
theorem wW (hb:eJ w=false) (hh:A.handled=none) (it a:Addr) (ne:a≠it) (es:Array (Int×Value)) (h1:es.size<=1) (ep:Nat) (t:SetTable) :
  Walks P w A it [it,a] [it] es.size (fun i v=>((es.toList.map (·.2))[i]?=some v)) (fun i h=>pY h it a (rawInt (mI t i)) i es.size ep/\pZ w h a es ep t) where
 sub:=fun b hb=>by simp at hb;simp[hb]
 frame:=fun _ _ _ x k=>⟨x.1.at fun o e=>k it (by simp) o e,x.2.at fun o e=>k a (by simp) o e⟩
 item:=fun i s Q E hi x hQ=>by
  obtain⟨o,ho,hd,hf,hl,hp⟩:=id x.2;have e0:i=0:=by omega
  subst e0;have hps:t.place.size=es.size:=by
   simp only[SetTable.fits,Bool.and_eq_true,beq_iff_eq] at hf;exact hf.1
  refine sD (v:=es[0].2) (nx:=t.place.getD 0 0+1) x.1 x.2 (fun A E R r=>?_) fun h' x' sb=>?_
  ·refine oq hb x.2 h1 ?_
   show R (match es[SetTable.below t.place 0]?,t.place[SetTable.below t.place 0]? with|some (_,x),some j=>some (x,j+1)|_,_=>none) s;rw[Cc _ (by omega),Array.getElem?_eq_getElem hi,Array.getElem?_eq_getElem (show 0<t.place.size by omega)];have:t.place.getD 0 0=t.place[0]'(by omega):=by simp[show 0<t.place.size by omega]
   rw[this] at r;exact r
  ·refine hQ _ h' s.toks ?_ ⟨x',x.2.at fun o e=>(sb.2 a ne).trans e⟩ fun b o hb e=>(sb.2 b fun z=>hb (by simp[z])).trans e
   rw[List.getElem?_map,Array.getElem?_toList,Array.getElem?_eq_getElem hi]
   rfl
 done:=fun s Q E x hQ=>by
  obtain⟨o,ho,hd,hf,hl,hp⟩:=id x.2;have hps:t.place.size=es.size:=by
   simp only[SetTable.fits,Bool.and_eq_true,beq_iff_eq] at hf;exact hf.1
  refine vi hh x.1 x.2 (fun A E R r=>oq hb x.2 h1 ?_) fun h' sb=>hQ h' s.toks fun b o hb e=>sb b o (fun z=>hb (by simp[z])) e;show R (match es[SetTable.below t.place (mI t es.size)]?,t.place[SetTable.below t.place (mI t es.size)]? with|some (_,x),some j=>some (x,j+1)|_,_=>none) s;have e:es[SetTable.below t.place (mI t es.size)]?=none:=by
   refine Array.getElem?_eq_none ?_;rcases Nat.lt_or_ge 0 es.size with q|q
   ·have e1:es.size=1:=by omega
    obtain⟨l,hl'⟩:∃ c,t.place=#[c]:=by
     exact yg t.place (by omega)
    rw[e1];show 1<=SetTable.below t.place (t.place.getD 0 0+1);rw[hl'];show 1<=SetTable.below #[l] (l+1);rw[Aq];exact Nat.le_refl _
   ·omega
  rw[e];exact r
 self:=fun _ _ _ _ x hQ=>mO x.1 hQ
structure Iter (P:Program) (w:World) (h h1:Heap) (a it:Addr) (es:Array (Int×Value)) (ord:List Value) (fp:List Addr) (St:Nat->Heap->Prop):Prop where
 kp:∀ b o,h.get? b=some o->h1.get? b=some o
 up:∀ b∈fp,b=a\/h.objs.size<=b
 new:h.objs.size<=it
 pm:ord.Perm (es.toList.map (·.2))
 wk:∀ A:Around,A.handled=none->Walks P w A it fp [it] es.size (fun i v=>ord[i]?=some v) St
 st:St 0 h1
theorem wM {a:Addr}{es:Array (Int×Value)}{Q:Value->Shared->Prop} (S:kM P w s.heap a es) (h:∀ h1 d1 it ord fp St,Iter P w s.heap h1 a it es ord fp St->Q (.ref it) { s with heap:=h1,drawn:=d1 }):wpAny (model P w) A (pyIter (.ref a)) Q E s:=by
 obtain⟨⟨o,ep,t,ho,hex,hd,hf,hl,hp⟩,el,sz⟩:=id S;have y:pZ w s.heap a es ep t:=⟨o,ho,hd,hf,hl,hp⟩;have lt:a<s.heap.objs.size:=Heap.lt_size ho;have hT:s.TypeIs (.ref a) "set":=⟨o,ho,hex.1⟩;refine wpAny_pyIter_slot hT PySem.F.slot_set_iter (wpAny_call_entry PySem.F.slot_set_iter hT mX ?_ (PySem.F.args_set_iter_1 _));unfold Builtin.«frozenset.__iter__»;refine wpAny_bind ?_;show wpAny _ _ (pure a) _ _ s;refine wpAny_pure ?_;refine wpAny_bind ?_;unfold Builtin.Frozenset.sizeOf;refine wpAny_bind (dR y (wpAny_pure ?_));have ep_of:∀ {A:Around}{E:Value->Shared->Prop}{s':Shared}{Q:Nat->Shared->Prop},pZ w s'.heap a es ep t->Q ep s'->wpAny (model P w) A (setEpoch a) Q E s':=fun y' q=>by
  unfold setEpoch;exact wpAny_bind (cQ y' (wpAny_pure q))
 have low:∀ b o,s.heap.get? b=some o->b<s.heap.objs.size:=fun b o e=>Heap.lt_size e;unfold setDrawn;refine wpAny_bind (wpAny_bind (cQ y ?_));dsimp only;refine wpAny_bind (dG (wpAny_pure ?_));have plain:(¬ ((!eJ w && (!t.plain && decide (es.size > 1)))=true))->wpAny (model P w) A.in1 (do let first <- pure (rawInt 0);let e <- setEpoch a;let r <- newFields "set_iterator" [first,rawInt 0,.ref a,rawInt es.size,rawInt e];ret r)
   (fun fin s'=>∃ v,fin=Fin.done (Flow.ret v)/\∃ T' r,s'.TypeIs v T'/\typeLookup (Value.type T') (Str.ofString "__next__")=pure (some r)/\Q v s') E s:=by
  intro nd;refine wpAny_bind (wpAny_pure (wpAny_bind (ep_of y (wpAny_bind (wpAny_newObj_type (wpAny_pure ⟨_,rfl,"set_iterator",_,⟨_,Heap.get?_push_size _ rfl,rfl⟩,bx.lookup,?_⟩))))));have ne:a≠s.heap.objs.size:=Nat.ne_of_lt lt;have y1:pZ w (s.heap.push { cls:=.type "set_iterator",data:=.fields #[rawInt 0,rawInt 0,.ref a,rawInt es.size,rawInt ep] }) a es ep t:=y.at fun o e=>Heap.get?_push_of_some _ e;have it0:pY (s.heap.push { cls:=.type "set_iterator",data:=.fields #[rawInt 0,rawInt 0,.ref a,rawInt es.size,rawInt ep] }) s.heap.objs.size a (rawInt 0) 0 es.size ep:=⟨_,Heap.get?_push_size _ rfl,rfl,rfl⟩;have es_:s={ s with drawn:=s.drawn }:=by cases s;rfl
  cases hb:eJ w with
  | true =>
   exact h _ s.drawn _ _ [s.heap.objs.size,a] _ ⟨fun b o e=>Heap.get?_push_of_some _ e,fun b hb=>by simp at hb;rcases hb with z|z;exact .inr (Nat.le_of_eq z.symm);exact .inl z,Nat.le_refl _,(iE _ es).map _,fun A' hA=>tD hb hA _ a ne es ep t,it0,y1⟩
  | false =>
   have h1:es.size<=1:=by
    rw[hb] at nd;rcases hp with e|e
    ·rw[e];exact Nat.zero_le _
    ·rw[e] at nd
     by_cases q:es.size > 1
     ·exact absurd (by simp[q]) nd
     ·omega
   exact h _ s.drawn _ _ [s.heap.objs.size,a] _ ⟨fun b o e=>Heap.get?_push_of_some _ e,fun b hb=>by simp at hb;rcases hb with z|z;exact .inr (Nat.le_of_eq z.symm);exact .inl z,Nat.le_refl _,.refl _,fun A' hA=>wW hb hA _ a ne es h1 ep t,it0,y1⟩
 refine wpAny_ite_split (fun yes=>?_) fun no=>?_
 ·refine wpAny_bind (ko es.size _ s (by rw[List.length_range]) fun ns d hpm=>?_)
  have len:ns.length=es.size:=by rw[hpm.length_eq,List.length_range]
  unfold newTuple;refine wpAny_bind (wpAny_newObj_type ?_ (by show (ns.map fun (i:Nat)=>rawInt i).toArray.size<=sizeLine;rw[List.size_toArray,List.length_map,len];exact fits_of_scanBound sz));have tk:∀ b o',s.heap.get? b=some o'->∀ o2,((s.heap.push { cls:=.type "tuple",data:=.seq (ns.map fun (i:Nat)=>rawInt i).toArray }).push o2).get? b=some o':=fun b o' e o2=>Heap.get?_push_of_some _ (Heap.get?_push_of_some _ e);refine wpAny_bind (ep_of (y.at fun o e=>Heap.get?_push_of_some _ e) (wpAny_bind (wpAny_newObj_type (wpAny_pure ⟨_,rfl,"set_iterator",_,⟨_,Heap.get?_push_size _ rfl,rfl⟩,bx.lookup,?_⟩))));have sz1:(s.heap.push { cls:=.type "tuple",data:=.seq (ns.map fun (i:Nat)=>rawInt i).toArray }).objs.size=s.heap.objs.size+1:=Heap.size_push ..;have nT:s.heap.objs.size≠(s.heap.push { cls:=.type "tuple",data:=.seq (ns.map fun (i:Nat)=>rawInt i).toArray }).objs.size:=by rw[sz1];exact Nat.ne_of_lt (Nat.lt_succ_self _)
  have ne:a≠(s.heap.push { cls:=.type "tuple",data:=.seq (ns.map fun (i:Nat)=>rawInt i).toArray }).objs.size:=by rw[sz1];exact Nat.ne_of_lt (Nat.lt_succ_of_lt lt)
  refine h _ d _ _ [_,a,s.heap.objs.size] _ ⟨fun b o e=>tk b o e _,fun b hb=>?_,by rw[sz1];exact Nat.le_succ _,?_,fun A' hA=>qC hA _ a s.heap.objs.size ne nT es ep t ns hpm,⟨_,Heap.get?_push_size _ rfl,rfl,rfl⟩,y.at fun o e=>tk a o e _,⟨_,Heap.get?_push_of_some _ (Heap.get?_push_size _ rfl),rfl,0,rfl⟩⟩
  ·simp only[List.mem_cons,List.not_mem_nil,or_false] at hb
   rcases hb with z|z|z
   ·rw[z,sz1];exact .inr (Nat.le_succ _)
   ·exact .inl z
   ·exact .inr (Nat.le_of_eq z.symm)
  ·have e:es.toList.map (·.2)=(List.range es.size).filterMap fun j=>es[j]?.map (·.2):=by
    have:=filterMap_getElem?_range es;rw[<- this,List.map_filterMap]
   rw[e];exact hpm.filterMap _
 ·exact plain no
end
end L2
end
section
namespace L2
open PySem PySem.Spec PyProof.Rows
theorem yD:typeLookup (.type "set") "__len__"=pure (some (.builtin "set.__len__")):=by rw[typeLookup_type,builtinLookup_eq_fast];kernel_rfl
section
variable {P:Program}{w:World}{A:Around}{E:Value->Shared->Prop}{s:Shared}
theorem wa {r:Addr}{Q:Bool->Shared->Prop} (hT:s.TypeIs (.ref r) "set") (h:Q false s):wpAny (model P w) A (Builtin.List.listLengthHint (.ref r)) Q E s:=by
 unfold Builtin.List.listLengthHint;refine wpAny_bind (wpAny_specialOf hT yD ?_);generalize hid:("set.__len__":String)=id0
 wp_delta
 rw[show splitId id0=some ("set","__len__") from by subst hid;decide +kernel];subst hid;refine wpAny_bind (wpAny_isInstance (T:="set") (b:=true) hT (by rw[isSubtype_type];kernel_rfl) ?_);refine wpAny_ite_split (fun z=>absurd z (by decide)) (fun _=>?_);refine wpAny_ite_split (fun _=>?_) (fun z=>absurd (by decide +kernel) z);refine wpAny_bind (wpAny_typeOf hT ?_);exact wpAny_pure h
theorem gP {r:Addr}{T:String}{n:Nat}{Ok:(Nat->Value->Prop)->Prop}{Q:List Value->Shared->Prop} (hT:s.TypeIs (.ref r) T) (nl:(Value.type T == Value.type "list")=false) (nt:(Value.type T == Value.type "tuple")=false) (hn:n<=sizeLine) (hh:A.handled=none)
  (hint:∀ (A:Around) (E:Value->Shared->Prop) (s':Shared) (Q:Bool->Shared->Prop),s'.TypeIs (.ref r) T->Q false s'->wpAny (model P w) A (Builtin.List.listLengthHint (.ref r)) Q E s')
  (iter:∀ (A:Around) (E:Value->Shared->Prop) (s':Shared) (R:Value->Shared->Prop),(∀ b o,s.heap.get? b=some o->s'.heap.get? b=some o)->(∀ h1 d1 it fp St Pv,Ok Pv->(∀ b o,s'.heap.get? b=some o->h1.get? b=some o)->(∀ b∈fp,b=r\/s'.heap.objs.size<=b)->s'.heap.objs.size<=it->(∀ A:Around,A.handled=none->Walks P w A it fp [it] n Pv St)->St 0 h1->R (.ref it) { s' with heap:=h1,drawn:=d1 })->wpAny (model P w) A (pyIter (.ref r)) R E s')
  (h:∀ (h':Heap) (d':Drawn) (tk:Nat) (vs:List Value) Pv,Ok Pv->(∀ b o,s.heap.get? b=some o->h'.get? b=some o)->s.heap.objs.size<h'.objs.size->vs.length=n->(∀ j v,vs[j]?=some v->Pv j v)->Q vs { s with heap:=h',drawn:=d',toks:=tk }) :
  wpAny (model P w) A (collect (.ref r)) Q E s:=by
 obtain⟨ro,hro,hrc⟩:=id hT;have rlt:=Heap.lt_size hro;unfold collect;refine wpAny_bind (wpAny_runValue (codeAny_builtin entry_proto_collect' ?_));show wpAny _ _ (do again (.builtin "list.__iadd__" ⟨[<- newList [],.ref r],[]⟩)) _ _ s;refine wpAny_bind (wpAny_newList (wpAny_pure ⟨Code.quiet_builtin _ (by decide +kernel),codeAny_builtin entry_list_iadd' ?_⟩));show wpAny _ _ (Builtin.List.listExtendWith (.ref s.heap.objs.size) (.ref r) (.ref s.heap.objs.size)) _ _ { s with heap:=s.heap.push (seqObj "list" #[] 0) };have hS:(s.heap.push (seqObj "list" #[] 0)).get? s.heap.objs.size=some (seqObj "list" #[] 0):=Heap.get?_push_size _ rfl;have ne:s.heap.objs.size≠r:=Nat.ne_of_gt rlt;have old:∀ b o,s.heap.get? b=some o->(s.heap.push (seqObj "list" #[] 0)).get? b=some o:=fun b o e=>Heap.get?_push_of_some _ e;have last:∀ (h1:Heap) (d1:Drawn) (tk:Nat) (it:Addr) (fp:List Addr) (St:Nat->Heap->Prop) (Pv:Nat->Value->Prop) (c1:Nat),Ok Pv->(∀ b o,s.heap.get? b=some o->h1.get? b=some o)->s.heap.objs.size∉fp->s.heap.objs.size<it->(∀ A:Around,A.handled=none->Walks P w A it fp [it] n Pv St)->St 0 h1->h1.get? s.heap.objs.size=some (seqObj "list" #[] c1) ->
   codeAny (model P w) A (.builtin "list.extend.loop" ⟨[.ref s.heap.objs.size,.ref it,.ref s.heap.objs.size],[]⟩) (fun r s'=>match r with
    | .ok (.ret v)=>wpAny (model P w) A (match v with
      | .ref a=>do
       let o <- load a
       match o.data with
       | .seq xs _=>pure xs.toList
       | _=>unsupported "internal:collect"
      | _=>unsupported "internal:collect") Q E s'
    | .ok _=>False
    | .error e=>E e s') { s with heap:=h1,drawn:=d1,toks:=tk }:=by
  intro h1 d1 tk it fp St Pv c1 hok kp nf lt wk st hL;refine codeAny_extend_loopS (wk A.in1 hh).toS hn s.heap.objs.size nf (.ref s.heap.objs.size) n 0 _ #[] c1 rfl (Nat.zero_le _) st hL (ItemsOf.nil _) fun s' acc' c' hm hS' hacc=>?_;rw[Moved.eq_with hm];have hS2:({ s with heap:=s'.heap,drawn:=d1,toks:=s'.toks }:Shared).heap.get? s.heap.objs.size=some { cls:=.type "list",dict:=none,data:=.seq acc' c',slots:=#[] }:=hS';show wpAny (model P w) A (load s.heap.objs.size >>= _) Q E { s with heap:=s'.heap,drawn:=d1,toks:=s'.toks };refine wpAny_bind (wpAny_load hS2 ?_);refine wpAny_pure (h s'.heap d1 s'.toks acc'.toList Pv hok (fun b o e=>hm.heap b o (fun z=>?_) (kp b o e)) (Heap.lt_size hS') (by rw[Array.length_toList];exact hacc.1) fun j v hv=>hacc.2 j v (by rw[Array.getElem?_toList] at hv;exact hv));have hb:=Heap.lt_size e;rcases List.mem_cons.mp z with z|z
  ·exact absurd z (Nat.ne_of_lt hb)
  ·exact absurd (List.mem_singleton.mp z) (Nat.ne_of_lt (Nat.lt_trans hb lt))
 unfold Builtin.List.listExtendWith;refine wpAny_bind (wpAny_typeOf (T:=T) ⟨ro,old r ro hro,hrc⟩ ?_);have h1:Builtin.List.listSameRef (.ref s.heap.objs.size) (.ref r)=false:=by simp[Builtin.List.listSameRef,ne]
 simp only[h1,nl,nt,Bool.or_false,Bool.false_eq_true,if_false];refine wpAny_bind (iter _ _ { s with heap:=s.heap.push (seqObj "list" #[] 0) } _ old fun h1 d1 it fp St Pv hok kp up new wk st=>?_);have new:(s.heap.push (seqObj "list" #[] 0)).objs.size<=it:=new;rw[size_push'] at new;have up':s.heap.objs.size∉fp:=fun z=>by
  rcases up _ z with q|q
  ·exact ne q
  ·have q:(s.heap.push (seqObj "list" #[] 0)).objs.size<=s.heap.objs.size:=q
   rw[size_push'] at q;omega
 have hL:=kp _ _ hS;refine wpAny_bind (wpAny_holding (hint _ _ _ _ ⟨ro,kp _ _ (old r ro hro),hrc⟩ ?_));refine wpAny_ite_split (fun _=>?_) fun _=>wpAny_pure ⟨plainId_quiet PySem.F.plain_extend_loop _,last _ _ _ it fp St Pv 0 hok (fun b o e=>kp b o (old b o e)) up' new wk st hL⟩;refine wpAny_bind (wpAny_rule ?_);refine wpAny_bind ?_;show wpAny _ _ (updateSeq s.heap.objs.size (·.push .none) >>= fun _=>updateSeq s.heap.objs.size (·.pop)) _ _ _;refine wpAny_bind (wpAny_updateSeq hL rfl ?_);have hL2:=Heap.get?_update_self (Obj.mapSeq (·.push Value.none)) hL rfl;refine wpAny_updateSeq (hz:=by seq_fits) hL2 rfl ?_;have hL3:=Heap.get?_update_self (Obj.mapSeq (·.pop)) hL2 rfl;have far:∀ b o,b≠s.heap.objs.size->h1.get? b=some o->((h1.update s.heap.objs.size (Obj.mapSeq (·.push Value.none))).update s.heap.objs.size (Obj.mapSeq (·.pop))).get? b=some o :=
  fun b o hb e=>(Heap.get?_update_other _ _ (Ne.symm hb)).trans ((Heap.get?_update_other _ _ (Ne.symm hb)).trans e)
 refine wpAny_pure ⟨plainId_quiet PySem.F.plain_extend_loop _,last _ _ _ it fp St Pv _ hok (fun b o e=>far b o (Nat.ne_of_lt (Heap.lt_size e)) (kp b o (old b o e))) up' new wk ?_ hL3⟩;exact (wk A.in1 hh).frame 0 _ _ st fun b hb o e=>far b o (fun z=>up' (z ▸ hb)) e
theorem lj {v:Value}{Q:Value->Shared->Prop}
  (h:wpAny (model P w) A.in1 (collect v) (fun vs s1=>∃ ss,StrsAre vs ss/\vs.length<64/\(∀ b o,s.heap.get? b=some o->s1.heap.get? b=some o)/\∀ (h':Heap) (out:List Value) (ss':List Str) (e:Nat),(∀ b o,s1.heap.get? b=some o->h'.get? b=some o)->h'.get? s1.heap.objs.size=some (seqObj "list" out.toArray e)->StrsAre out ss'->ss'.Perm ss->sortedS ss'=true->Q (.ref s1.heap.objs.size) { s1 with heap:=h' }) E s) :
  wpAny (model P w) A (call (.builtin "sorted") [v]) Q E s:=by
 refine Calls.call_function_entry kind_sorted plain_sorted entry_sorted (args_sorted1 _) ?_;unfold Builtin.«sorted»;refine wpAny_bind (m:=checkCount "sorted" 1 1 _) (wpAny_pure ?_);refine wpAny_bind (wpAny_mono h (fun vs s1 z=>?_) fun _ _ z=>z);obtain⟨ss,hss,h64,kp,q⟩:=z;refine wpAny_bind (wpAny_newList ?_ (by show vs.length<=sizeLine;rw[sizeLine_eq];omega));have hoL:(s1.heap.push (seqObj "list" vs.toArray 0)).get? s1.heap.objs.size=some (seqObj "list" vs.toArray 0):=Heap.get?_push_size _ rfl;refine wpAny_bind (wpAny_holding (wpAny_call_entry slot_list_sort ⟨_,hoL,rfl⟩ entry_list_sort (list_sort_treeK strKind_oneLt hoL hss.keysOf (fun v₁ v₂ rest e=>keyKind_strs (by rw[<- e];exact hss)) h64 fun st' a1 a2=>⟨_,rfl,?_⟩) (args_list_sort _)));obtain⟨ss',b1,b2,b3⟩:=sorted_out_str hss a1 a2;have hsz:(s1.heap.push (seqObj "list" vs.toArray 0)).objs.size=s1.heap.objs.size+1:=size_push' _ _;have far:∀ b o,b<s1.heap.objs.size+1->b≠s1.heap.objs.size->(s1.heap.push (seqObj "list" vs.toArray 0)).get? b=some o->(sortedHeap (s1.heap.push (seqObj "list" vs.toArray 0)) s1.heap.objs.size vs ((arrOf st').map (·.2))).get? b=some o:=fun b o hb hn e=>by
  unfold sortedHeap;rw[Heap.get?_update_other _ _ (Ne.symm hn),Heap.get?_push_ne _ _ _ (by rw[size_push',Heap.size_update,hsz];exact Nat.ne_of_lt (Nat.lt_succ_of_lt hb)),Heap.get?_push_ne _ _ _ (by rw[Heap.size_update,hsz];exact Nat.ne_of_lt hb),Heap.get?_update_other _ _ (Ne.symm hn)];exact e
 obtain⟨e1,q1⟩:∃ e1,((s1.heap.push (seqObj "list" vs.toArray 0)).update s1.heap.objs.size (Obj.mapSeq fun _=>#[])).get? s1.heap.objs.size=some (seqObj "list" #[] e1):=⟨_,get?_update_seq hoL (fun _=>#[])⟩;have q2:((((s1.heap.push (seqObj "list" vs.toArray 0)).update s1.heap.objs.size (Obj.mapSeq fun _=>#[])).push (seqObj "tuple" vs.toArray 0)).push (seqObj "list" #[] 0)).get? s1.heap.objs.size=some (seqObj "list" #[] e1):=by
  rw[Heap.get?_push_ne _ _ _ (by rw[size_push',Heap.size_update,hsz];exact Nat.ne_of_lt (Nat.lt_succ_of_lt (Nat.lt_succ_self _))),Heap.get?_push_ne _ _ _ (by rw[Heap.size_update,hsz];exact Nat.ne_of_lt (Nat.lt_succ_self _))];exact q1
 refine wpAny_pure ⟨_,rfl,q _ ((arrOf st').map (·.2)).toList ss' _ (fun b o e=>far b o (Nat.lt_succ_of_lt (Heap.lt_size e)) (Nat.ne_of_lt (Heap.lt_size e)) (Heap.get?_push_of_some _ e)) (by
  have:=get?_update_seq q2 (fun _=>(arrOf st').map (·.2));rw[Array.toArray_toList];exact this) b1 b2 b3⟩
end
end L2
end
section
namespace L2
open PySem PySem.Spec PyProof.Rows
structure A2 (K:PySem.W.Frag) (C:Addr):Prop where
 eq:PySem.W.findIn K (.ref C) "__eq__"=some (some (.builtin "object.__eq__"))
 ob:PySem.W.subIn K (.ref C) (.type "object")=some true
 nn:PySem.W.subIn K (.ref C) (.type "NoneType")=some false
section
variable {prog:Program}{w:World}{A:Around}{E:Value->Shared->Prop}{s:Shared}{K:PySem.W.Frag}{x C:Addr}{o:Obj}
theorem hU {b:Value}{same:Bool}{Q:Option Value->Shared->Prop} (X:K.In s.heap) (e:A2 K C) (hx:s.heap.get? x=some o) (hc:o.cls=.ref C) (hs:∀ (A:Around) (E:Value->Shared->Prop) (Q:Bool->Shared->Prop),Q same s->wpAny (model prog w) A (isSame (.ref x) b) Q E s)
  (h:Q (if same=true then some (.bool true) else none) s):wpAny (model prog w) A (tryCompare (.ref x) "__eq__" b) Q E s:=by
 have LT:PySem.W.Looks (model prog w) s.heap (typeOf (.ref x)) (.ref C):=by
  rw[<- hc];exact (PySem.W.Looks.ld hx).andThen .now
 have LS:PySem.W.Looks (model prog w) s.heap (specialOf (.ref x) "__eq__") (some (.builtin "object.__eq__")):=LT.andThen (PySem.W.looks_findIn X e.eq);have LI:PySem.W.Looks (model prog w) s.heap (isInstance (.ref x) (.type "object")) true:=LT.andThen (PySem.W.looks_subIn X e.ob);have run:wpAny (model prog w) A (call (.builtin "object.__eq__") ([.ref x]++[b])) (fun v s1=>s1=s/\v=(if same=true then .bool true else .notImplemented)) E s:=by
  refine wpAny_call (codeAny_call_builtin PySem.F.cmp_object.eq.plain PySem.F.cmpEntry_eq ?_);have fin:wpAny (model prog w) A.in1 (Builtin.«object.__eq__» ⟨[.ref x,b],[]⟩) (fun fn s'=>match fn with|.done f=>(wants (fun v s1=>s1=s/\v=(if same=true then .bool true else .notImplemented)) E) (.ok f) s'|.again c'=>c'.quiet=true/\codeAny (model prog w) A c' (wants (fun v s1=>s1=s/\v=(if same=true then .bool true else .notImplemented)) E) s') (fun e s'=>E e s') s:=by
   unfold Builtin.«object.__eq__»;refine wpAny_bind (wpAny_of_eq (a:=(Value.ref x,[b])) rfl ?_);dsimp only;refine wpAny_bind (hs _ _ _ ?_)
   cases same with
   | true=>exact wpAny_pure ⟨rfl,rfl⟩
   | false=>exact wpAny_pure ⟨rfl,rfl⟩
  simp only[checkBuiltinCall,PySem.F.cmpKind_eq,PySem.F.cmpSplit_eq];refine wpAny_bind (LI.here ?_);simp only[Bool.not_true,Bool.false_eq_true,if_false];have ha:=PySem.F.cmpArgs_eq (.ref x) b;unfold argsOk at ha
  cases hsig:Manifest.signature? "object.__eq__" with
  | none=>exact wpAny_pure fin
  | some sig =>
   rw[hsig] at ha;have h2:Bind.checkArgs "object.__eq__" sig ⟨[.ref x,b],[]⟩=pure ():=ha;show wpAny _ _ (Bind.checkArgs "object.__eq__" sig ⟨[.ref x,b],[]⟩) _ _ s;rw[h2];exact wpAny_pure fin
 simp only[tryCompare,callSpecialIfBound?,bindSpecialIfBound?];refine wpAny_bind (wpAny_holding (wpAny_bind (wpAny_bind (LS.here ?_))));simp only[PySem.F.cmp_object.eq.bind];refine wpAny_bind (wpAny_askSetting (wpAny_ite ?_));have last:wpAny (model prog w) A (call (.builtin "object.__eq__") ([.ref x]++[b]) >>= fun v=>pure (some v)) (fun v s1=>wpAny (model prog w) A (match v with|some .notImplemented=>pure none|none=>pure none|some v=>pure (some v)) Q E s1) E s :=
  wpAny_bind (wpAny_mono run (fun v s1 z=>by
   obtain⟨rfl,rfl⟩:=z;refine wpAny_pure ?_
   cases same with
   | true=>exact wpAny_pure h
   | false=>exact wpAny_pure h) fun _ _ z=>z)
 split
 ·exact wpAny_bind (wpAny_pure (wpAny_pure last))
 ·exact wpAny_tryCatch (wpAny_bind (wpAny_pure (wpAny_pure last)))
theorem oi (y:Addr):Gives (Builtin.«NoneType.__eq__» ⟨[.none,.ref y],[]⟩) (.val (Value.notImplemented)) :=
 .of_wp fun M A E s Q h=>by obtain⟨hp,g,d,tk,os⟩:=s;wp_walk;exact⟨_,rfl,h⟩
theorem Au {Q:Bool->Shared->Prop} (h:Q false s):wpAny (model prog w) A (isSubtype (.type "NoneType") (.ref C)) Q E s:=by
 have:isSubtype (.type "NoneType") (.ref C)=pure false:=by rw[isSubtype_type];rfl
 rw[this];exact wpAny_pure h
theorem zG {y:Addr}{o':Obj}{Q:Value->Shared->Prop} (X:K.In s.heap) (e:A2 K C) (hx:s.heap.get? x=some o) (hc:o.cls=.ref C) (hy:s.heap.get? y=some o') (hc':o'.cls=.ref C) (hu:A.units<cLine)
  (h:Q (.bool (decide (x=y))) s):wpAny (model prog w) A (compareOp .Eq (.ref x) (.ref y)) Q E s:=by
 show wpAny _ A (richCompare .Eq _ _) Q E s;have nt:o.cls≠.type "tuple":=by rw[hc];intro z;cases z
 have nt':o'.cls≠.type "tuple":=by rw[hc'];intro z;cases z
 simp only[richCompare,cmpInfo_Eq,oneThing_ref];refine wpAny_holding (wpAny_bind (wpAny_cRoomFor hu ?_));have LT:PySem.W.Looks (model prog w) s.heap (typeOf (.ref x)) (.ref C):=by
  rw[<- hc];exact (PySem.W.Looks.ld hx).andThen .now
 have LT':PySem.W.Looks (model prog w) s.heap (typeOf (.ref y)) (.ref C):=by
  rw[<- hc'];exact (PySem.W.Looks.ld hy).andThen .now
 refine wpAny_bind (LT.here (wpAny_bind (LT'.here ?_)));rw[if_neg (by simp)];refine wpAny_bind (wpAny_pure ?_);simp only[Bool.false_eq_true,if_false]
 by_cases q:x=y
 ·subst q
  refine wpAny_bind (hU (same:=true) X e hx hc (fun A E Q z=>wpAny_isSame_ref_self z) ?_);rw[decide_eq_true rfl] at h;exact wpAny_pure h
 ·rw[decide_eq_false q] at h
  refine wpAny_bind (hU (same:=false) X e hx hc (fun A E Q z=>wpAny_isSame_ref_other q hx hy nt z) ?_);simp only[Bool.false_eq_true,if_false,Bool.not_false,if_true];refine wpAny_bind (hU (same:=false) X e hy hc' (fun A E Q z=>wpAny_isSame_ref_other (fun z=>q z.symm) hy hx nt' z) ?_);simp only[Bool.false_eq_true,if_false];exact wpAny_bind (wpAny_rule (wpAny_bind (wpAny_isSame_ref_other q hx hy nt (wpAny_pure h))))
theorem A_ {Q:Value->Shared->Prop} (X:K.In s.heap) (e:A2 K C) (hx:s.heap.get? x=some o) (hc:o.cls=.ref C) (hu:A.units<cLine)
  (h:Q (.bool false) s):wpAny (model prog w) A (compareOp .Eq (.ref x) .none) Q E s:=by
 show wpAny _ A (richCompare .Eq _ _) Q E s;have one:oneThing? .Eq (.ref x) .none=none:=rfl;simp only[richCompare,cmpInfo_Eq,one];refine wpAny_holding (wpAny_bind (wpAny_cRoomFor hu ?_));have LT:PySem.W.Looks (model prog w) s.heap (typeOf (.ref x)) (.ref C):=by
  rw[<- hc];exact (PySem.W.Looks.ld hx).andThen .now
 refine wpAny_bind (LT.here (wpAny_bind (wpAny_typeOf (T:="NoneType") rfl ?_)));rw[if_pos (by simp)];refine wpAny_bind (Au ?_);simp only[Bool.false_eq_true,if_false,Bool.not_false,if_true];refine wpAny_bind (hU (same:=false) X e hx hc (fun A E Q z=>wpAny_isSame_plain rfl z) ?_);simp only[Bool.false_eq_true,if_false];refine wpAny_bind (wpAny_tryCompare_declines (T:="NoneType") rfl F.slot_NoneType_eq_refl (call_gives F.slot_NoneType_eq_refl rfl F.entry_NoneType_eq (F.args_NoneType_eq_2 _ _) (oi x) ⟨rfl,?_⟩));exact wpAny_bind (wpAny_rule (wpAny_bind (wpAny_isSame_plain rfl (wpAny_pure h))))
theorem BV {Q:Value->Shared->Prop} (X:K.In s.heap) (e:A2 K C) (hx:s.heap.get? x=some o) (hc:o.cls=.ref C) (hu:A.units<cLine)
  (h:Q (.bool false) s):wpAny (model prog w) A (compareOp .Eq .none (.ref x)) Q E s:=by
 show wpAny _ A (richCompare .Eq _ _) Q E s;have one:oneThing? .Eq .none (.ref x)=none:=rfl;simp only[richCompare,cmpInfo_Eq,one];refine wpAny_holding (wpAny_bind (wpAny_cRoomFor hu ?_));have LT:PySem.W.Looks (model prog w) s.heap (typeOf (.ref x)) (.ref C):=by
  rw[<- hc];exact (PySem.W.Looks.ld hx).andThen .now
 refine wpAny_bind (wpAny_typeOf (T:="NoneType") rfl (wpAny_bind (LT.here ?_)));rw[if_pos (by simp)];refine wpAny_bind ((PySem.W.looks_subIn X e.nn).here ?_);simp only[Bool.false_eq_true,if_false,Bool.not_false,if_true];refine wpAny_bind (wpAny_tryCompare_declines (T:="NoneType") rfl F.slot_NoneType_eq (call_gives F.slot_NoneType_eq rfl F.entry_NoneType_eq (F.args_NoneType_eq_2 _ _) (oi x) ⟨rfl,?_⟩));refine wpAny_bind (hU (same:=false) X e hx hc (fun A E Q z=>wpAny_isSame_plain rfl z) ?_);simp only[Bool.false_eq_true,if_false];exact wpAny_bind (wpAny_rule (wpAny_bind (wpAny_isSame_plain rfl (wpAny_pure h))))
end
end L2
end
section
namespace L2
open PySem PySem.Spec PyProof.Rows
open PySem.W (Looks hideAll hideAll_get of_hideAll funFrames_hide exmOne exm_one)
theorem fq.sub {P:Program}{w:World}{H:Hp}{h h':Heap} (x:fq P w H h) (k:∀ b o u,H b=some u->h.get? b=some o->h'.get? b=some o):fq P w H h':=fun a o e =>
 (x a o e).qg (fun b v hc q=>hc.elim (fun z=>k b v o (z ▸ e) q) fun z=>k b v _ z q) (fun _ q=>q) fun _ _ q=>q
structure Kx (fs:List Addr) (H H':Hp) (h B h':Heap):Prop where
 keep:∀ b o,h.get? b=some o->H b=none->b∉fs->B.get? b=some o
 slot:∀ b o,h.get? b=some o->H b=none->b∈fs->∃ sl,h'.get? b=some { o with slots:=sl }
 free:∀ b o,h.get? b=some o->H b=none->H' b=none
 there:∀ b o,h.get? b=some o->b∉fs->∃ o',B.get? b=some o'
 tups:∀ b xs,H b=some (.tup xs)->H' b=some (.tup xs)
 frzs:∀ b o u,H b=some (.frz o u)->H' b=some (.frz o u)
 tbls:∀ b ps,H b=some (.tbl ps)->∃ more,H' b=some (.tbl (ps++more))
theorem Kx.un {fs:List Addr}{H H':Hp}{h B h':Heap} (k:Kx fs H H' h B h') (st:B.StaysIn h') (hf:∀ b∈fs,H b=none):Un fs [] H H' h h' where
 keep b o e n nf _:=st b o (k.keep b o e n nf)
 slot b o e n nf _:=k.slot b o e n nf
 free b o e n _:=k.free b o e n
 there b o e _:=by
  by_cases hb:b∈fs
  ·obtain⟨sl,q⟩:=k.slot b o e (hf b hb) hb
   exact⟨_,q⟩
  ·obtain⟨o',q⟩:=k.there b o e hb
   exact⟨o',st b o' q⟩
 tups:=k.tups
 frzs:=k.frzs
 tbls:=k.tbls
theorem Kx.up {fs:List Addr}{H H':Hp}{h B h' h'':Heap} (k:Kx fs H H' h B h') (u:h'.UpToSlots h'') (hd:∀ b∈fs,∃ o,h.get? b=some o/\∀ vs,o.data≠.fields vs):Kx fs H H' h B h'' :=
 ⟨k.keep,fun b o e n m=>by
  obtain⟨sl,q⟩:=k.slot b o e n m;obtain⟨o',e',d⟩:=hd b m;rw[e] at e'
  cases e';obtain⟨sl',q'⟩:=u b _ q d;exact⟨sl',q'⟩,k.free,k.there,k.tups,k.frzs,k.tbls⟩
noncomputable def fu (P:Program) (w:World):lT:=fun outer H s E e s'=>∃ (a:Addr) (cls a0:Value) (H':Hp) (B:Heap),e=.ref a/\s'.os=s.os/\AllBare s'.gens/\Heap.FlyingW B outer a cls a0 s'.heap/\fq P w H' B/\Kx (iT outer) H H' s.heap B s'.heap/\E cls none H'
noncomputable def Raises (X:Cx) (E:XK):Prop:=∀ (pins:List (Addr×Obj)) (σ:St) (H:Hp) (s:Shared) (h':Heap) (e:Addr) (cls:Value) (vs:List Value),Inv X pins σ H s->Heap.MadeExcOf s.heap h' e cls vs->E cls none H->X.xe (.ref e) { s with heap:=h' }
section
variable {P:Program}{w:World}{K:PySem.W.Frag}{mg:Str->Option Value}{base:Heap}{N:List Str}{qual:Str}{scope:Scope}{f:Addr}{cd:Value}{A:Around}{outer:List Env}{s:Shared}{H:Hp}{E:XK}
theorem il {env:Env}{L:Addr}{l:List Env}{b:Addr} (hf:env.frame=some L) (h1:b≠L) (h2:b∉iT l):b∉iT (env::l):=by
 unfold iT;rw[List.filterMap_cons,hf];intro z;rcases List.mem_cons.mp z with z|z
 ·exact h1 z
 ·exact h2 z
theorem lz:Raises (i_ (fu P w) P w K mg base N qual scope f cd A outer s H E) E:=by
 intro pins σ H1 s1 h' e cls vs I hx he;show wpAny (model P w) (A.deeper (envOfC qual scope s.heap.objs.size f cd)) (leaving (envOfC qual scope s.heap.objs.size f cd) (.ref e)) (fun _ s''=>fu P w outer H s E (.ref e) s'') _ _;have inl:∀ env∈(envOfC qual scope s.heap.objs.size f cd::outer),∀ a,env.frame=some a->a∈iT (envOfC qual scope s.heap.objs.size f cd::outer):=fun env he b hb=>List.mem_filterMap.mpr ⟨env,he,hb⟩;refine wpAny_leaves_madeW (base:=hideAll s1.heap (iT (envOfC qual scope s.heap.objs.size f cd::outer))) (h:=s1.heap) I.ok.frames rfl (fun b o q=>of_hideAll _ q) (funFrames_hide I.stack inl) hx fun h'' t x1 x2 x3 x4=>?_;have low:∀ b o,s.heap.get? b=some o->b∉iT outer->b∉iT (envOfC qual scope s.heap.objs.size f cd::outer):=fun b o e n=>il rfl (Nat.ne_of_lt (Heap.lt_size e)) n;have ex:∀ b:Addr,b∉(i_ (fu P w) P w K mg base N qual scope f cd A outer s H E).ex:=fun b z=>absurd (show b∈([]:List Addr) from z) (by simp);refine⟨e,cls,.ref t,H1,_,rfl,I.os,I.bare,x1,?_,⟨fun b o q n nf=>?_,fun b o q n nf=>?_,fun b o q n=>I.base.free b o q n (ex b),fun b o q nf=>?_,I.base.tups,I.base.frzs,I.base.tbls⟩,he⟩
 ·refine I.hok.sub fun b o u hu q=>hideAll_get _ q fun z=>?_
  have:=I.jq b z;rw[this] at hu;cases hu
 ·exact hideAll_get _ (I.base.keep b o q n nf (ex b)) (low b o q nf)
 ·obtain⟨sl,q1⟩:=I.base.slot b o q n nf (ex b)
  obtain⟨_,o',e',d⟩:=I.ok.gh.mem nf;have e':s.heap.get? b=some o':=e';rw[q] at e'
  cases e';obtain⟨sl',q2⟩:=x4 b _ (hx.keeps b _ q1) d;exact⟨sl',q2⟩
 ·obtain⟨o',q1⟩:=I.base.there b o q (ex b)
  exact⟨o',hideAll_get _ q1 (low b o q nf)⟩
theorem cm:Passes (fu P w) (i_ (fu P w) P w K mg base N qual scope f cd A outer s H E) E:=by
 rintro pins σ H1 s1 e s' I ⟨a,cls,a0,H',B,rfl,ho,hb,hfl,hok,k,he⟩;show wpAny (model P w) (A.deeper (envOfC qual scope s.heap.objs.size f cd)) (leaving (envOfC qual scope s.heap.objs.size f cd) (.ref a)) (fun _ s''=>fu P w outer H s E (.ref a) s'') _ _;refine wpAny_leaves_onW I.ok.frames rfl hfl fun h'' x1 x4=>?_;have low:∀ b o,s.heap.get? b=some o->b∉iT outer->b∉iT (envOfC qual scope s.heap.objs.size f cd::outer):=fun b o e n=>il rfl (Nat.ne_of_lt (Heap.lt_size e)) n;have hi:∀ b,b∈iT outer->b∈iT (envOfC qual scope s.heap.objs.size f cd::outer):=fun b z=>by
  unfold iT;rw[List.filterMap_cons];exact List.mem_cons_of_mem _ z
 have ex:∀ b:Addr,b∉(i_ (fu P w) P w K mg base N qual scope f cd A outer s H E).ex:=fun b z=>absurd (show b∈([]:List Addr) from z) (by simp);refine⟨a,cls,a0,H',B,rfl,ho.trans I.os,hb,x1,hok,⟨fun b o q n nf=>?_,fun b o q n nf=>?_,fun b o q n=>?_,fun b o q nf=>?_,fun b xs q=>k.tups _ _ (I.base.tups b xs q),fun b o u q=>k.frzs _ _ _ (I.base.frzs b o u q),fun b ps q=>?_⟩,he⟩
 ·exact k.keep b o (I.base.keep b o q n nf (ex b)) (I.base.free b o q n (ex b)) (low b o q nf)
 ·obtain⟨sl,q1⟩:=I.base.slot b o q n nf (ex b)
  obtain⟨sl1,q2⟩:=k.slot b _ q1 (I.base.free b o q n (ex b)) (hi b nf);obtain⟨_,o',e',d⟩:=I.ok.gh.mem nf;have e':s.heap.get? b=some o':=e';rw[q] at e'
  cases e';obtain⟨sl',q3⟩:=x4 b _ q2 d;exact⟨sl',q3⟩
 ·obtain⟨o',q1⟩:=I.base.there b o q (ex b)
  exact k.free b o' q1 (I.base.free b o q n (ex b))
 ·obtain⟨o',q1⟩:=I.base.there b o q (ex b)
  exact k.there b o' q1 (low b o q nf)
 ·obtain⟨more,q1⟩:=I.base.tbls b ps q
  obtain⟨more',q2⟩:=k.tbls b _ q1;exact⟨more++more',by rw[q2,Array.append_assoc]⟩
theorem cG.Bo {x:Str}{st:Stmt}{fd:FuncData}{ps:List Str}{k:Nat}{sp:Sp} (F:cG K x qual st f fd) (S:az N ps (aq st)) (len:∀ vs H Q E,sp vs H Q E->vs.length=ps.length)
  (hbody:∀ (cdv:Value) (A:Around) (outer:List Env) (s:Shared) (H:Hp) (vs:List V) (Q:VK) (E:XK),cj k (A.deeper (envOfC qual (aq st) s.heap.objs.size f cdv))->sp vs H Q E ->
   ∃ t,oC (i_ (fu P w) P w K mg base N qual (aq st) f cdv A outer s H E) (cR st) t/\t { nx:=fun _ H'=>Q .non H',rt:=Q } (start N vs) H):aS P w K mg base (fu P w) (k+1) f fd ps sp:=by
 obtain⟨oc,od,kV,doc,pm,an,cdv,ct,osl,rfl,lk,hcd⟩:=F.ex;exact zd lk hcd S len fun A outer s H vs Q E hr hsp=>hbody cdv A outer s H vs Q E hr hsp
end
noncomputable def vd (C:Addr) (E:XK) (t:TA):TS:=fun _ σ H=>t σ H fun vs H1=>vs.length<=sizeLine/\E (.ref C) none H1
theorem pb {X:Cx}{E:XK}{x:Str}{C:Addr}{B newId initId:String}{bmB:List Value}{np cpos pos:Pos}{e:Expr}{es:List Expr}{t:TA} (O:OwnCls x C bmB newId X.mg X.base) (FB:ExcBaseFacts B newId initId bmB)
  (hc:X.calm=true) (hr:Raises X E) (ha:PA X (e::es) t) (hg:Gl X x:=by rfl) (hd:(x == ("__debug__":Str))=false:=by decide) (hs:bG (e::es)=true:=by rfl) :
  PS X (.Raise (some (.Call (.Name x np) (e::es) [] cpos)) none pos) (vd C E t):=by
 intro pins s σ H D I q;obtain⟨tl,N,nm,qq,bs,hdct,sn,sub,ab,col,dd,k0,k1,k2,k3,k5,mN,hC,hN,hni,T⟩:=O.obj;have hs2:(notStar e && bG es)=true:=hs;rw[Bool.and_eq_true] at hs2;have he:starEach (e::es) X.env=(false,eval e X.env)::starEach es X.env:=cw hs2.1;refine wpAny_Raise_call_subT (C:=C) (nm:=nm) (q:=qq) (N:=N) (bs:=bs) (bm:=tl) (hdct:=hdct) (sn:=sn) (sub:=sub) (ab:=ab) (col:=col) (dd:=dd) (k0:=k0) (k1:=k1) (k2:=k2) (k3:=k3) (k5:=k5)
  FB (mN:=mN) (T.hasType FB.hasBase) (I.ok.hd hc) (cU hs) hni (ff I hg O.bound ⟨rfl,?_⟩ hd)
 have h2:=ha cpos pins s σ H _ I q;rw[he] at h2 ⊢;refine Calls.evalArgs_plain (bC h2 fun us s2 ⟨vs,H1,I1,r,hl,q1⟩=>?_);have kb:∀ b o,X.base.get? b=some o->s2.heap.get? b=some o:=I1.bk;refine⟨rfl,r.length ▸ hl,kb _ _ hC,hN.keeps kb,T.keeps kb,fun h' e' hm=>?_⟩;exact hr pins σ H1 s2 h' e' _ _ I1 hm q1
noncomputable def Cp (X:Cx) (pins:List (Addr×Obj)) (σ:St) (H':Hp) (a:Addr) (cls:Value) (s:Shared):Prop:=∃ (H:Hp) (s1:Shared) (B:Heap) (a0:Value),Inv X pins σ H s1/\s.os=s1.os/\AllBare s.gens/\Heap.FlyingW B X.stack a cls a0 s.heap/\fq X.prog X.w H' B/\Kx (iT X.stack) H H' s1.heap B s.heap
section
variable {X:Cx}{pins:List (Addr×Obj)}{σ:St}{H':Hp}{a:Addr}{cls:Value}{s:Shared}
theorem Cp.inv (F:Cp X pins σ H' a cls s):Inv X pins σ H' s:=by
 obtain⟨H,s1,B,a0,I,ho,hb,hfl,hok,k⟩:=F;exact I.zj (ch:=[]) ho (k.un hfl.1 fun b hb=>I.jq b hb) (hok.kept hfl.1) hb fun b hb=>absurd hb (by simp)
theorem Cp.lands (F:Cp X pins σ H' a cls s) {A:Around}{Q:Unit->Shared->Prop}{E:Value->Shared->Prop} (h:∀ s',Cp X pins σ H' a cls s'->Q () s'):wpAny (model X.prog X.w) A (setFlight (.ref a) none) Q E s:=by
 obtain⟨H,s1,B,a0,I,ho,hb,hfl,hok,k⟩:=F;refine lands_againW hfl fun h' x1 x4=>h _ ⟨H,s1,B,a0,I,ho,hb,x1,hok,k.up x4 fun b hb=>(I.stack.mem hb).2⟩
end
noncomputable abbrev Cx.marked (X:Cx) (a:Addr):Cx:={ X with A:=X.A.mark (some (.ref a)),calm:=false,xe:=fun _ _=>False }
theorem Inv.mark {X:Cx}{pins:List (Addr×Obj)}{σ:St}{H:Hp}{s:Shared} (I:Inv X pins σ H s) (a:Addr):Inv (X.marked a) pins σ H s :=
 ⟨⟨I.ok.mod,I.ok.kind,I.ok.glob,I.ok.blt,I.ok.above,I.ok.inj,I.ok.has,I.ok.cab,(fun z=>by cases z),I.ok.frames,I.ok.stk,I.ok.exf,I.ok.bs,I.ok.bsz,I.ok.noex,I.ok.exfs,I.ok.gh,I.ok.frf⟩,I.os,I.bare,I.base,I.loc,I.cell,I.free,I.freeC,I.pin,I.hok,I.len⟩
theorem Inv.unmark {X:Cx}{pins:List (Addr×Obj)}{σ:St}{H:Hp}{s:Shared}{a:Addr} (I:Inv (X.marked a) pins σ H s) (ok:X.Ok):Inv X pins σ H s :=
 ⟨ok,I.os,I.bare,I.base,I.loc,I.cell,I.free,I.freeC,I.pin,I.hok,I.len⟩
noncomputable def EK (X:Cx) (hs:List ExceptHandler) (th:Value->TS):Prop:=∀ (pins:List (Addr×Obj)) (s:Shared) (σ:St) (H:Hp) (D:Ends) (a:Addr) (cls:Value),Cp X pins σ H a cls s->th cls D σ H ->
 wpAny (model X.prog X.w) X.A (handleBy (.ref a) X.env hs) (SP X pins D) X.xe s
theorem x_ {X:Cx}:EK X [] (fun _ _ _ _=>False):=fun _ _ _ _ _ _ _ _ h=>h.elim
noncomputable def DU (K:PySem.W.Frag) (C:Addr) (t:TS) (th:Value->TS):Value->TS:=fun cls D σ H=>∃ b,exmOne K cls (.ref C)=some b/\if b=true then t D σ H else th cls D σ H
theorem sF {X:Cx}{x:Str}{C:Addr}{np pos:Pos}{b0:Stmt}{suite:List Stmt}{hs:List ExceptHandler}{t:TS}{th:Value->TS} (hm:X.mg x=some (.ref C)) (hb:∀ a,oC (X.marked a) (b0::suite) t) (hr:EK X hs th)
  (hg:Gl X x:=by rfl) (hd:(x == ("__debug__":Str))=false:=by decide):EK X (.ExceptHandler (some (.Name x np)) none (b0::suite) pos::hs) (DU X.K C t th):=by
 rintro pins s σ H D a cls F ⟨b,ex,q⟩;have I:=F.inv;have LT:Looks (model X.prog X.w) s.heap (typeOf (.ref a)) cls:=by
  obtain⟨_,_,_,_,_,_,_,hfl,_⟩:=F;obtain⟨ob,hob,hc⟩:=hfl.there;subst hc;exact (Looks.ld hob).andThen .now
 refine wpAny_handleBy_cons (codeAny_handlers_test ?_) (by intro q;cases q);refine ff (X:=X.marked a) (I.mark a) hg hm ?_ hd;refine (exm_one I.eO LT ex).here ?_
 cases b with
 | false=>exact hr pins s σ H D a cls F q
 | true =>
  refine codeAny_handlers_suite ?_;refine F.lands fun s' F'=>?_;refine wpAny_mono (hb a pins s' σ H D (F'.inv.mark a) q) (fun fl s2 z=>?_) fun _ _ z=>False.elim z
  cases fl with
  | next=>obtain⟨σ',H',I,q⟩:=z;exact⟨σ',H',I.unmark F'.inv.ok,q⟩
  | brk=>obtain⟨σ',H',I,q⟩:=z;exact⟨σ',H',I.unmark F'.inv.ok,q⟩
  | cont=>obtain⟨σ',H',I,q⟩:=z;exact⟨σ',H',I.unmark F'.inv.ok,q⟩
  | ret u=>obtain⟨v,σ',H',I,r,q⟩:=z;exact⟨v,σ',H',I.unmark F'.inv.ok,r,q⟩
noncomputable abbrev Cx.pins (X:Cx) (pn:List (Addr×Obj)):Cx:={ X with pn:=pn }
noncomputable abbrev Cx.zM (X:Cx) (pn:List (Addr×Obj)) (E:XK):Cx:={ X with pn:=pn,xe:=fun e s'=>∃ (pins:List (Addr×Obj)) (σ:St) (H:Hp) (s1:Shared),Inv (X.pins pn) pins σ H s1/\fu X.prog X.w X.stack H s1 E e s' }
theorem Cx.Ok.of {X Y:Cx} (ok:X.Ok) (e:Y={ X with pn:=Y.pn,xe:=Y.xe }):Y.Ok:=by
 rw[e];exact⟨ok.mod,ok.kind,ok.glob,ok.blt,ok.above,ok.inj,ok.has,ok.cab,ok.hd,ok.frames,ok.stk,ok.exf,ok.bs,ok.bsz,ok.noex,ok.exfs,ok.gh,ok.frf⟩
theorem qe {X:Cx}{pn:List (Addr×Obj)}{E:XK}:Passes (fu X.prog X.w) (X.zM pn E) E:=fun pins σ H s e s' I h =>
 ⟨pins,σ,H,s,⟨I.ok.of rfl,I.os,I.bare,I.base,I.loc,I.cell,I.free,I.freeC,I.pin,I.hok,I.len⟩,h⟩
noncomputable def C3 (tb:XK->TS) (th:Value->TS):TS:=fun D σ H=>tb (fun cls _ H'=>∀ σ':St,σ'.length=σ.length->th cls D σ' H') D σ H
theorem Bs {X:Cx}{body:List Stmt}{h0:ExceptHandler}{hs:List ExceptHandler}{pos:Pos}{tb:XK->TS}{th:Value->TS} (hst:X.stack=X.env::X.outer/\X.env.frame=some X.env.locals) (hb:∀ pn E,oC (X.zM pn E) body (tb E)) (hh:EK X (h0::hs) th) :
  PS X (.Try body (h0::hs) [] [] pos) (C3 tb th):=by
 intro pins s σ H D I q;have toX:∀ {pins':List (Addr×Obj)}{xe:Value->Shared->Prop}{σ:St}{H:Hp}{s:Shared},Inv { X with pn:=X.pn++pins,xe:=xe } pins' σ H s->Inv X pins σ H s:=fun J =>
  ⟨I.ok,J.os,J.bare,J.base,J.loc,J.cell,J.free,J.freeC,fun p hp=>J.pin p (List.mem_append_left _ hp),J.hok,J.len⟩
 have I0:Inv (X.zM (X.pn++pins) fun cls _ H'=>∀ σ':St,σ'.length=σ.length->th cls D σ' H') [] σ H s :=
  ⟨I.ok.of rfl,I.os,I.bare,I.base,I.loc,I.cell,I.free,I.freeC,fun p hp=>I.pin p ((List.mem_append.mp hp).elim id fun z=>absurd z (by simp)),I.hok,I.len⟩
 refine wpAny_Try_except (wpAny_mono (hb (X.pn++pins) _ [] s σ H D I0 q) (fun fl s1 z=>?_) fun e s1 z=>?_)
 ·cases fl with
  | next=>obtain⟨σ',H',I,q⟩:=z;exact wpAny_execs_nil ⟨σ',H',toX I,q⟩
  | brk=>obtain⟨σ',H',I,q⟩:=z;exact⟨σ',H',toX I,q⟩
  | cont=>obtain⟨σ',H',I,q⟩:=z;exact⟨σ',H',toX I,q⟩
  | ret u=>obtain⟨v,σ',H',I,r,q⟩:=z;exact⟨v,σ',H',toX I,r,q⟩
 ·obtain⟨pins',σ',H1,s0,J,a,cls,a0,H',B,rfl,ho,hbr,hfl,hok,k,he⟩:=z
  have J:Inv X pins σ' H1 s0:=toX J;have hd:∀ b∈iT X.stack,∃ o,s0.heap.get? b=some o/\∀ vs,o.data≠.fields vs:=fun b hb=>(J.stack.mem hb).2;have hfr:X.A.frames=some (X.env::X.outer):=J.ok.frames.trans (by rw[hst.1]);have hfl':Heap.FlyingW B (X.env::X.outer) a cls a0 s1.heap:=hst.1 ▸ hfl;refine wpAny_looks_onW hfr hst.2 hfl' fun h4 x4 u4=>?_;refine wpAny_landsW x4 fun h5 x5 u5=>?_;refine hh pins _ σ' H' D a cls ⟨H1,s0,B,a0,J,ho,hbr,hst.1.symm ▸ x5,hok,(k.up u4 hd).up u5 hd⟩ (he σ' ?_);rw[J.len,I.len]
end L2
end
section
namespace L2
open PySem PySem.Spec PyProof.Rows
theorem gN {P:Program}{w:World}{X:Cx}:Passes (fu P w) X E0:=by
 rintro pins σ H s e s' I ⟨a,cls,a0,H',B,_,_,_,_,_,_,he⟩;exact he.elim
structure cz (P:Program) (w:World) (K:PySem.W.Frag) (mg:Str->Option Value) (base:Heap) (CX:lT) (k:Nat) (C:Addr) (m:Str) (ps:List Str) (sp:Sp):Prop where
 ex:∃ f fd,aS P w K mg base CX k f fd ps sp/\p_ K C/\Meth K C m f/\Binds K fd ps []
structure gg (P:Program) (w:World) (K:PySem.W.Frag) (mg:Str->Option Value) (base:Heap) (k:Nat) (x:Str) (C:Addr) (ps:List Str) (sp:Sp):Prop where
 ex:∃ f fd,aS P w K mg base aQ k f fd ps sp/\Mk K C f/\mg x=some (.ref C)/\Binds K fd ps []
theorem cz.mono {P:Program}{w:World}{K:PySem.W.Frag}{mg:Str->Option Value}{base:Heap}{CX:lT}{k j:Nat}{C:Addr}{m:Str}{ps:List Str}{sp:Sp} (c:cz P w K mg base CX k C m ps sp) (h:k<=j):cz P w K mg base CX j C m ps sp:=by
 obtain⟨f,fd,F,r⟩:=c.ex;exact⟨f,fd,F.mono h,r⟩
theorem gg.mono {P:Program}{w:World}{K:PySem.W.Frag}{mg:Str->Option Value}{base:Heap}{k j:Nat}{x:Str}{C:Addr}{ps:List Str}{sp:Sp} (c:gg P w K mg base k x C ps sp) (h:k<=j):gg P w K mg base j x C ps sp:=by
 obtain⟨f,fd,F,r⟩:=c.ex;exact⟨f,fd,F.mono h,r⟩
section
variable {X:Cx}{CX:lT}{x m:Str}{C:Addr}{ps:List Str}{sp:Sp}{k:Nat}{o e:Expr}{es:List Expr}{to:TE}{t:TA}{p pos apos:Pos}{E:XK}
theorem vQ (c:bM X.prog X.w X.K X.mg X.base CX k x ps sp) (hr:cj k X.A) (hx:Passes CX X E) (ha:PA X (e::es) t) (hg:Gl X x:=by rfl) (hdb:(x == ("__debug__":Str))=false:=by decide)
  (hs:bG (e::es)=true:=by rfl):PE X (.Call (.Name x p) (e::es) [] pos) (iZ sp [] E t):=by
 have h:(notStar e && bG es)=true:=hs;rw[Bool.and_eq_true] at h;obtain⟨f,fd,F,hm,hk,hb⟩:=c.ex;exact r_ F hr hg hm hk hb .nil hx ha hdb (cw h.1) (cU h.2)
theorem dn {pl:Sem Bool} (c:cz X.prog X.w X.K X.mg X.base CX k C m ps sp) (hr:cj k X.A) (hx:Passes CX X E) (ho:PE X o to) (ha:PA X (e::es) t) (hs:bG (e::es)=true:=by rfl)
  (ht:eval (.Call (.Attribute o m apos) (e::es) [] pos) X.env=(do
   let ov <- eval o X.env
   standAt apos.atName
   let (f,first) <- holding [ov] (getMethod ov m pl)
   callWith pos f first (backTo pos (starEach (e::es) X.env)) (backToKw pos (keywordEach [] X.env))):=by rfl) :
  PE X (.Call (.Attribute o m apos) (e::es) [] pos) (pQ C m sp [] E to t):=by
 have h:(notStar e && bG es)=true:=hs;rw[Bool.and_eq_true] at h;obtain⟨f,fd,F,cl,hm,hb⟩:=c.ex;exact xV (pl:=pl) ho cl hm F hr hb .nil hx ha (cw h.1) (cU h.2) ht
theorem nI {pl:Sem Bool} (c:cz X.prog X.w X.K X.mg X.base CX k C m ps sp) (hr:cj k X.A) (hx:Passes CX X E) (ho:PE X o to)
  (ht:eval (.Call (.Attribute o m apos) [] [] pos) X.env=(do
   let ov <- eval o X.env
   standAt apos.atName
   let (f,first) <- holding [ov] (getMethod ov m pl)
   callWith pos f first (backTo pos (starEach [] X.env)) (backToKw pos (keywordEach [] X.env))):=by rfl) :
  PE X (.Call (.Attribute o m apos) [] [] pos) (pQ C m sp [] E to nS):=by
 obtain⟨f,fd,F,cl,hm,hb⟩:=c.ex;exact uI (pl:=pl) ho cl hm F hr hb .nil hx ht
theorem oh (c:gg X.prog X.w X.K X.mg X.base k x C ps sp) (hr:cj (k+1) X.A) (ha:PA X (e::es) t) (hg:Gl X x:=by rfl) (hdb:(x == ("__debug__":Str))=false:=by decide)
  (hs:bG (e::es)=true:=by rfl):PE X (.Call (.Name x p) (e::es) [] pos) (pJ C sp [] E0 t):=by
 have h:(notStar e && bG es)=true:=hs;rw[Bool.and_eq_true] at h;obtain⟨f,fd,F,M,hm,hb⟩:=c.ex;exact yN M F hr hg hm hb .nil eB ha hdb (cw h.1) (cU h.2)
theorem BA (c:gg X.prog X.w X.K X.mg X.base k x C ps sp) (hr:cj (k+1) X.A) (hg:Gl X x:=by rfl) (hdb:(x == ("__debug__":Str))=false:=by decide) :
  PE X (.Call (.Name x p) [] [] pos) (pJ C sp [] E0 nS):=by
 obtain⟨f,fd,F,M,hm,hb⟩:=c.ex;exact wL M F hr hg hm hb .nil eB hdb
end
noncomputable def ze (i:Nat):TE:=fun σ H Q=>∃ x:Str,σ[i]?=some (some (.str x))/\x.length<=10000/\(∀ c∈x.cps.toList,c<16 ^ 8)/\∀ y:Str,Q (.str y) H
theorem qI {X:Cx} (i:Nat) {x:Str}{c:Str}{j:Nat}{p1 p2 p3 p4:Pos} (hv:PE X (.Name x p1) (kH i)) (hc:c.length<=1000:=by decide +kernel) :
  PE X (.JoinedStr [.Constant (.str c) j p2,.FormattedValue (.Name x p1) 114 none p3] p4) (ze i):=by
 rintro pins s σ H Q I ⟨z,hz,hl,hb,q⟩;have hs:=sizeLine_eq;have hr:=StrLaws.reprText_len z hb;refine wpAny_JoinedStr ?_;show wpAny (model X.prog X.w) X.A (eval (.Constant (.str c) j p2) X.env) _ X.xe s;refine bC (ar pins s σ H (fun v H1=>v=.str c/\H1=H) I ⟨rfl,rfl⟩) fun u s1 h1=>?_;obtain⟨v,H1,I1,r1,rfl,rfl⟩:=h1;obtain⟨t,rfl⟩:=r1;refine⟨c,t,rfl,by rw[strLen_append];show 0+c.length<=_;omega,?_⟩;show wpAny (model X.prog X.w) X.A (eval (.FormattedValue (.Name x p1) 114 none p3) X.env) _ X.xe s1;refine wpAny_FormattedValue_repr (bC (hv pins s1 σ H1 (fun v H2=>v=.str z/\H2=H1) I1 ⟨_,hz,rfl,rfl⟩) fun u2 s2 h2=>?_);obtain⟨v,H2,I2,r2,rfl,rfl⟩:=h2;obtain⟨t2,rfl⟩:=r2;refine wpAny_pyReprObj_str ?_ (by omega);refine formatField_str (fun t' tk=>?_) (by omega);refine⟨reprText z,t',rfl,by rw[strLen_append,strLen_append];show 0+c.length+_<=_;omega,?_⟩;refine⟨by rw[strLen_append,strLen_append];show 0+c.length+_<=_;omega,?_⟩;exact⟨.str _,H2,I2.tok _,⟨_,rfl⟩,q _⟩
noncomputable def E5 (C:Addr) (H:Hp) (x:V):Prop:=x=.non\/∃ a dx fs,x=.ref a/\H a=some (.ins C dx fs)
noncomputable def Gq (C:Addr):R2:=fun x y H Q=>E5 C H x/\E5 C H y/\Q (.bl (decide (x=y))) H
theorem rG {X:Cx}{pins:List (Addr×Obj)}{σ:St}{H:Hp}{s:Shared}{a C dx:Addr}{fs:List (Str×V)} (I:Inv X pins σ H s) (e:H a=some (.ins C dx fs)):∃ o,s.heap.get? a=some o/\o.cls=.ref C:=by
 obtain⟨_,_,_,h,_⟩:=I.hok a _ e;exact⟨_,h,rfl⟩
theorem w_ {X:Cx}{C:Addr} (K:PySem.W.Frag) (hu:X.A.units<cLine) (e:A2 K C) (hK:X.K=K:=by rfl):gu X (compareOp .Eq) (Gq C):=by
 subst hK;intro pins s σ H x y v u Q I rx ry h;obtain⟨hx,hy,q⟩:=h;rcases hx with rfl|⟨a,dx,fs,rfl,ha⟩
 ·cases rx
  rcases hy with rfl|⟨b,dy,gs,rfl,hb⟩
  ·cases ry
   exact PySem.EqNone.eq_none_none (aW I q (by simp))
  ·cases ry
   obtain⟨o,ho,hc⟩:=rG I hb;exact BV I.eO e ho hc hu (aW I q (by simp))
 ·cases rx
  obtain⟨o,ho,hc⟩:=rG I ha;rcases hy with rfl|⟨b,dy,gs,rfl,hb⟩
  ·cases ry
   exact A_ I.eO e ho hc hu (aW I q (by simp))
  ·cases ry
   obtain⟨o',ho',hc'⟩:=rG I hb;refine zG I.eO e ho hc ho' hc' hu (aW I q ?_)
   by_cases z:a=b
   ·subst z;simp
   ·have:¬ (V.ref a=V.ref b):=fun y=>z (V.ref.inj y)
    rw[decide_eq_false z,decide_eq_false this]
noncomputable def tN (P:Program) (w:World) (p:Addr) (cs:List Nat):HO:=.ext fun h=>∃ es,Holds P w h p cs es
theorem Inv.vf {X:Cx}{pins:List (Addr×Obj)}{σ:St}{H:Hp}{s:Shared}{h':Heap}{a:Addr}{o:HO} (I:Inv X pins σ H s) (d:Drawn) (t:Nat) (k:∀ b u,s.heap.get? b=some u->h'.get? b=some u) (hp:s.heap.objs.size<=a) (new:bK X.prog X.w (upd H a o) h' a o) :
  Inv X pins σ (upd H a o) { s with heap:=h',drawn:=d,toks:=t } :=
 I.call (g':=s.gens) (ch:=[]) (Un.laid k hp (I.hok.fresh hp)) (I.hok.laid k hp new) I.bare fun b hb=>absurd hb (by simp)
theorem nz {X:Cx} (hc:X.calm=true):ck X (.type "set") (fun xs H Q=>∃ x:Str,xs=[.str x]/\x.cps.size<4000/\∀ p,H p=none->Q (.ref p) (upd H p (tN X.prog X.w p x.cps.toList))):=by
 intro pins s σ H xs us Q I r h;obtain⟨x,rfl,hl,q⟩:=h;obtain⟨u,rfl,t,rfl⟩:=vals1 r;refine A0 (I.ok.hd hc) (by show x.cps.size+1<4096;omega) fun h' tk es hh kp=>?_;have hp:H s.heap.objs.size=none:=I.hok.fresh (Nat.le_refl _);obtain⟨⟨⟨o,ep,tt,ho,_⟩,_,_⟩,_⟩:=id hh;refine⟨.ref s.heap.objs.size,_,I.laid (o:=tN X.prog X.w s.heap.objs.size x.cps.toList) kp (Nat.le_refl _) ⟨⟨es,hh⟩,⟨o,ho⟩,fun h1 h2 ⟨es',z⟩ k=>⟨es',z.at k⟩⟩,rfl,q _ hp⟩
theorem jP:∀ {l:List (Int×Value)}{ds:List Nat},Paired (fun (e:Int×Value) (d:Nat)=>∃ t,e.2=.str ⟨#[d]⟩ t) l ds->StrsAre (l.map (·.2)) (ds.map fun d=>tx [d])
 | _,_,.nil=>.nil
 | _,_,.cons ⟨t,e⟩ q=>by
  rw[List.map_cons,List.map_cons,e];exact .cons _ t (jP q)
theorem sX {l l':List Value} (p:l.Perm l') {ss:List Str} (h:StrsAre l' ss):∃ ss',ss'.Perm ss/\StrsAre l ss':=by
 induction p generalizing ss with
 | nil=>cases h;exact⟨[],.refl _,.nil⟩
 | cons x _ ih =>
  cases h with
  | cons y t q =>
   obtain⟨r,p',q'⟩:=ih q;exact⟨_,p'.cons _,.cons y t q'⟩
 | swap x y l =>
  cases h with
  | cons a t q =>
   cases q with
   | cons b u q=>exact⟨_,List.Perm.swap _ _ _,.cons b u (.cons a t q)⟩
 | trans _ _ i1 i2 =>
  obtain⟨r1,p1,q1⟩:=i2 h;obtain⟨r2,p2,q2⟩:=i1 q1;exact⟨r2,p2.trans p1,q2⟩
theorem uc {α:Type}{l r:List α} (hl:l.length=r.length) (h:∀ (j:Nat) v,l[j]?=some v->r[j]?=some v):l=r:=by
 refine List.ext_getElem? fun j=>?_
 cases e:l[j]? with
 | some v=>exact (h j v e).symm
 | none =>
  have:=List.getElem?_eq_none_iff.mp e;rw[List.getElem?_eq_none (by omega)]
theorem gJ {ds:List Nat}{ss:List Str} (nd:ds.Nodup) (p:ss.Perm (ds.map fun d=>tx [d])) (h:ss.Pairwise fun a b=>¬ b.cps.toList<a.cps.toList):∃ l:List Nat,ss=(l.map fun d=>tx [d])/\l.Pairwise (·<·)/\l.Perm ds:=by
 have mem:∀ x∈ss,∃ d,x=tx [d]:=fun x hx=>by
  obtain⟨d,_,rfl⟩:=List.mem_map.mp (p.mem_iff.mp hx);exact⟨d,rfl⟩
 have e:ss=(ss.map fun x=>x.cps.toList.headD 0).map fun d=>tx [d]:=by
  rw[List.map_map]
  conv=>lhs;rw[<- List.map_id' ss]
  refine List.map_congr_left fun x hx=>?_;obtain⟨d,rfl⟩:=mem x hx;simp
 have pl:(ss.map fun x=>x.cps.toList.headD 0).Perm ds:=by
  have:=p.map fun x=>x.cps.toList.headD 0;rw[List.map_map] at this;have e2:ds.map ((fun x:Str=>x.cps.toList.headD 0) ∘ fun d=>tx [d])=ds:=by
   conv=>rhs;rw[<- List.map_id' ds]
   exact List.map_congr_left fun d _=>by simp
  rwa [e2] at this
 refine⟨_,e,?_,pl⟩;have nd2:=pl.symm.nodup nd;generalize (ss.map fun x=>x.cps.toList.headD 0)=l at e nd2;rw[e,List.pairwise_map] at h;rw[List.nodup_iff_pairwise_ne] at nd2;refine (h.and nd2).imp fun {a b} ⟨z,ne⟩=>?_;have z:¬ ([b]:List Nat)<[a]:=by simpa using z
 rcases Nat.lt_trichotomy a b with q|q|q
 ·exact q
 ·exact absurd q ne
 ·exact absurd (List.cons_lt_cons_iff.mpr (.inl q)) z
theorem jb {X:Cx} (hc:X.calm=true):ck X (.builtin "sorted") (fun xs H Q=>∃ (p:Addr) (cs:List Nat),xs=[.ref p]/\H p=some (tN X.prog X.w p cs)/\(∀ c∈cs,97<=c/\c<=122) /\
  ∀ (q:Addr) (l:List Nat),H q=none->l.Pairwise (·<·)->(∀ c,c∈l↔c∈cs)->Q (.ref q) (upd H q (.lst (l.map fun c=>.str (tx [c]))))):=by
 intro pins s σ H xs us Q I r h;obtain⟨p,cs,rfl,hp,hcs,q⟩:=h;obtain⟨u,rfl,ru⟩:=vals1 r
 cases ru;obtain⟨⟨es,hh⟩,_,_⟩:=I.hok p _ hp;obtain⟨ds,nd,hm,hpr⟩:=id hh.is;have hlen:es.size=ds.length:=by rw[<- Array.length_toList];exact aN hpr
 have hds:ds.length<=26:=by
  have:=fV nd (u:=(List.range 26).map (·+97)) fun x hx=>by
   obtain⟨h1,h2⟩:=hcs x ((hm x).mp hx);exact List.mem_map.mpr ⟨x - 97,List.mem_range.mpr (by omega),by omega⟩
  simpa using this
 obtain⟨⟨o,ep,t,ho,hex,_⟩,_,_⟩:=id hh.ss;refine lj (gP (T:="set") (n:=es.size) (Ok:=fun Pv=>∃ ord:List Value,ord.Perm (es.toList.map (·.2))/\Pv=fun i v=>ord[i]?=some v) ⟨o,ho,hex.1⟩ (by decide) (by decide) (by rw[sizeLine_eq];omega) (I.ok.hd hc) (fun A E s' Q hT q=>wa hT q) ?_ ?_)
 ·intro A' E' s' R old k
  refine wM (es:=es) (hh.ss.at fun o e=>old p o e) fun h1 d1 it ord fp St z=>?_;exact k h1 d1 it fp St _ ⟨ord,z.pm,rfl⟩ z.kp z.up z.new z.wk z.st
 ·rintro h' d' tk vs Pv ⟨ord,pm,rfl⟩ kp slt hl hv
  have e:vs=ord:=uc (by rw[hl,pm.length_eq,List.length_map,Array.length_toList]) hv;subst e;obtain⟨ss,ps,hss⟩:=sX pm (jP hpr);refine⟨ss,hss,by omega,kp,fun h2 out ss' e2 kp2 hL hs' p' srt=>?_⟩;obtain⟨l,rfl,sl,pl⟩:=gJ nd (p'.trans ps) (cO srt);have hll:l.length=ds.length:=pl.length_eq;have hol:=(dH hs').length;rw[List.length_map,List.length_map] at hol;have sz:s.heap.objs.size<=h'.objs.size:=Nat.le_of_lt slt;have hq:H h'.objs.size=none:=I.hok.fresh sz;refine⟨.ref h'.objs.size,_,I.vf (o:=.lst (l.map fun c=>.str (tx [c]))) d' tk (fun b o e=>kp2 b o (kp b o e)) sz ⟨by rw[List.length_map,sizeLine_eq];omega,out,e2,?_,hL⟩,rfl,q _ l hq sl fun c=>(pl.mem_iff).trans (hm c)⟩;have:=dH hs'
  rwa [List.map_map] at this
theorem iL {X:Cx} (hc:X.calm=true):ck X (.builtin "sorted") (fun xs H Q=>∃ (a:Addr) (kvs:List (Key×V)) (ss:List Str),xs=[.ref a]/\H a=some (.dK kvs)/\kvs.map (fun kv=>kV kv.1)=ss.map V.str/\ss.length<64 /\
  ∀ (p:Addr) (ss':List Str),H p=none->ss'.Perm ss->ss'.Pairwise (fun a b=>¬ b.cps.toList<a.cps.toList)->Q (.ref p) (upd H p (.lst (ss'.map V.str)))):=by
 intro pins s σ H xs us Q I r h;obtain⟨a,kvs,ss,rfl,ha,hk,h64,q⟩:=h;obtain⟨u,rfl,ru⟩:=vals1 r
 cases ru;obtain⟨z,hd,vs,rel,dd⟩:=fH I.hok (.inl ha);obtain⟨ep,hat⟩:=dd.dictAt;have hlk:kvs.length=ss.length:=by have:=congrArg List.length hk;rwa [List.length_map,List.length_map] at this
 have hlv:vs.length=kvs.length:=rel.length.symm;refine lj (gP (T:="dict") (n:=vs.length) (Ok:=fun Pv=>Pv=fun i v=>∃ k x,vs[i]?=some (k,x)/\(bj X.prog X.w).is k v=true) dd.typeIs (by decide) (by decide) (by rw[sizeLine_eq];omega) (I.ok.hd hc) (fun A E s' Q hT q=>PySem.W.kdl_hint_dict hT q) ?_ ?_)
 ·intro A' E' s' R old k
  have hat':s'.heap.DictAt (bj X.prog X.w) a vs ep:=hat.at' fun o e=>old a o e;refine wpAny_pyIter_dict hd hat' ?_;exact k _ s'.drawn _ [s'.heap.objs.size,a] _ _ rfl (fun b o e=>Heap.get?_push_of_some _ e) (fun b hb=>by simp at hb;rcases hb with z|z;exact .inr (Nat.le_of_eq z.symm);exact .inl z) (Nat.le_refl _)
   (fun A hA=>Walks.dictKeys hA _ a (Nat.ne_of_lt hat'.lt_size) vs ep) ⟨⟨_,Heap.get?_push_size _ rfl,rfl,rfl⟩,hat'.push _⟩
 ·rintro h' d' tk us Pv rfl kp slt hl hv
  have rv:=fZ (P:=X.prog) (w:=X.w) rel hl fun j v e=>hv j v e;rw[hk] at rv;refine⟨ss,fN rv,by omega,kp,fun h2 out ss' e2 kp2 hL hs' p' srt=>?_⟩;have sz:s.heap.objs.size<=h'.objs.size:=Nat.le_of_lt slt;have hq:H h'.objs.size=none:=I.hok.fresh sz;have hll:=p'.length_eq;refine⟨.ref h'.objs.size,_,I.vf (o:=.lst (ss'.map V.str)) d' tk (fun b o e=>kp2 b o (kp b o e)) sz ⟨by rw[List.length_map,sizeLine_eq];omega,out,e2,dH hs',hL⟩,rfl,q _ ss' hq p' (cO srt)⟩
noncomputable def rJoin (K:PySem.W.Frag):V->List V->Hp->VK->Prop:=fun x vs H Q=>∃ (i:Str) (a:Addr) (ss:List Str),x=.str i/\vs=[.ref a]/\aO K H a (ss.map V.str)/\(ss.map (·.length)).sum+ss.length * i.length<=16777216/\Q (.str (Txt.join i ss)) H
theorem xw {X:Cx}:AO X "str.join" (rJoin X.K):=by
 intro pins s σ H x vs v us Q I rx rv h;obtain⟨i,a,ss,rfl,rfl,ha,hl,q⟩:=h;obtain⟨t,rfl⟩:=rx;obtain⟨u,rfl,ru⟩:=rv.one
 cases ru;obtain⟨its,rs,pl,hz⟩:=I.list ha;refine join_list pl.isList (by simpa using fN rs) hl fun t' k=>?_;exact⟨.str _,H,I.tok _,⟨_,rfl⟩,q⟩
noncomputable def EU (K:PySem.W.Frag) (a:Addr) (n:Nat):It :=
 ⟨fun i H=>∃ xs,aO K H a xs/\xs.length=n/\i<n,fun i H x H'=>H'=H/\∀ xs,aO K H a xs->xs[n - 1 - i]?=some x,fun i H=>(∃ xs,aO K H a xs/\xs.length=n)/\n=i⟩
theorem vE {P:Program}{w:World}{K:PySem.W.Frag}{tg:Expr} (a it:Addr) (n:Nat):Turn P w K tg (EU K a n) [it] it (fun i h=>i<=n/\h.IsRevIter it a ((n:Int) - 1 - (i:Int))) where
 mem:=by simp
 obj:=fun i h st b hb=>by
  have e:b=it:=by simpa using hb
  subst e;obtain⟨_,o,e,c,d⟩:=st;exact⟨o,e,fun v z=>by rw[d] at z;cases z⟩
 keep:=fun i h h' st k=>⟨st.1,st.2.at fun o e=>k it (by simp) o e⟩
 item:=by
  intro X hP hw hK hc i pins s σ H E I hf st hg;subst hP hw hK;obtain⟨xs,hq,hl,hi⟩:=hg;obtain⟨its,rv,p,hz⟩:=I.list hq;have hlen:its.length=n:=by rw[<- rv.length];exact hl
  obtain⟨x,hx⟩:∃ x,xs[n - 1 - i]?=some x:=⟨xs[n - 1 - i]'(by omega),by simp[show n - 1 - i<xs.length by omega]⟩;obtain⟨u,hu,ru⟩:=rv.get hx;obtain⟨f0,f1,f2,f3,f4,f5⟩:=hf it (by simp);have e1:(n:Int) - 1 - (i:Int)=((n - 1 - i:Nat):Int):=by omega
  have st2:=st.2;rw[e1] at st2;refine wpAny_pyNext_rev_item st2 p.isList (x:=u) (by simpa using hu) fun h' st' sb=>?_;have e2:((n - 1 - i:Nat):Int) - 1=(n:Int) - 1 - ((i+1:Nat):Int):=by omega
  rw[e2] at st';have I1:Inv X pins σ H { s with heap:=h' }:=I.turned (t':=s.toks) (fun b o hb e=>(sb.2 b hb).trans e) f0 f1 f3 f4 f5;obtain⟨o,e,c,d⟩:=id st';exact⟨u,rfl,lH (s:={ s with heap:=h' }) e c d (by decide) ⟨x,H,I1,ru,⟨rfl,fun ys hy=>by rw[I.oQ hy hq];exact hx⟩,⟨hi,st'⟩,fun b hb=>(hf b hb).1⟩⟩
 done:=by
  intro X hP hw hK hc i pins s σ H E I hf st hg;subst hP hw hK;obtain⟨⟨xs,hq,hl⟩,rfl⟩:=hg;obtain⟨f0,f1,f2,f3,f4,f5⟩:=hf it (by simp);have e1:(n:Int) - 1 - (n:Int)=-1:=by omega
  have st2:=st.2;rw[e1] at st2;refine wpAny_pyNext_rev_end (I.ok.hd hc) st2 fun h' sb=>⟨rfl,?_⟩;exact I.turned (t':=s.toks) (fun b o hb e=>sb b o hb e) f0 f1 f3 f4 f5
 self:=fun A i s Q E st q=>wpAny_pyIter_revIter st.2 q
noncomputable def Am (K:PySem.W.Frag) (tl:TE):TI:=fun σ H R=>tl σ H fun x H1=>∃ a xs,x=.ref a/\aO K H1 a xs/\R (EU K a xs.length) H1
theorem zQ {X:Cx}{tg l:Expr}{tl:TE}{p pos:Pos} (hg:Gl X "reversed") (hm:X.mg "reversed"=none) (hv:bootBuiltins "reversed"=some (.type "reversed")) (hl:PE X l tl) (hs:notStar l=true:=by rfl):PI X tg (.Call (.Name "reversed" p) [l] [] pos) (Am X.K tl):=by
 intro pins s σ H R I h;refine wpAny_Call_Name_kw (gz I hg hm hv ?_ (by decide) (by decide));refine PyProof.Rows.callWith_type1 (bC (jw hl ae (cw hs) pos pins s σ H (fun vs H1=>match vs with
  | [x]=>∃ a xs,x=.ref a/\aO X.K H1 a xs/\R (EU X.K a xs.length) H1
  | _=>False) I h) fun us s1 ⟨vs,H1,I1,r1,q1⟩=>?_) (cw hs) rfl
 obtain⟨x,rfl⟩:∃ x,vs=[x]:=by
  match vs,q1 with
  | [x],_=>exact⟨x,rfl⟩
 obtain⟨a,xs,rfl,hq,q⟩:=q1;obtain⟨u,rfl,ru⟩:=vals1 r1
 cases ru;obtain⟨its,rv,pl,hz⟩:=I1.list hq;refine call_reversed_list pl.isList ?_;have e:(its.toArray.size:Int) - 1=(xs.length:Int) - 1 - ((0:Nat):Int):=by
  rw[List.size_toArray,<- rv.length];simp
 rw[e];have it:Heap.IsRevIter (s1.heap.push (revObj a ((xs.length:Int) - 1 - ((0:Nat):Int)))) s1.heap.objs.size a ((xs.length:Int) - 1 - ((0:Nat):Int)):=⟨_,Heap.get?_push_size _ rfl,rfl,rfl⟩;refine wpAny_pyIter_revIter (s:={ s1 with heap:=s1.heap.push (revObj a ((xs.length:Int) - 1 - ((0:Nat):Int))) }) it ?_;refine⟨s1.heap.objs.size,[s1.heap.objs.size],_,_,H1,rfl,I1.kept (t':=s1.toks) fun b o e=>Heap.get?_push_of_some _ e,vE a _ xs.length,⟨Nat.zero_le _,it⟩,fun b hb=>?_,q⟩;have e:b=s1.heap.objs.size:=by simpa using hb
 subst e;exact I1.qV (Nat.le_refl _) (I1.hok.fresh (Nat.le_refl _))
theorem yf {X:Cx}{tg l:Expr}{tl:TE}{p pos:Pos} (K:PySem.W.Frag) (hg:Gl X "reversed") (hm:X.mg "reversed"=none) (hv:bootBuiltins "reversed"=some (.type "reversed")) (hl:PE X l tl) (hs:notStar l=true:=by rfl) (hK:X.K=K:=by rfl):PI X tg (.Call (.Name "reversed" p) [l] [] pos) (Am K tl):=hK ▸ zQ hg hm hv hl hs
theorem uF {X:Cx} (K:PySem.W.Frag) (hK:X.K=K:=by rfl):AO X "str.join" (rJoin K):=hK ▸ xw
structure GL (mg:Str->Option Value):Prop where
 rev:mg "reversed"=none
 set:mg "set"=none
theorem sS {K:PySem.W.Frag}{a:Addr}{xs:List V}{σ':St}{g:TG}{tc:TT}{te:TE}{H1:Hp}{F:List V->Hp->Prop} (Iv:Nat->List V->Hp->Prop) (h0:Iv 0 [] H1) (hn:xs.length<=sizeLine)
  (len:∀ i ys H,Iv i ys H->ys.length<=i) (hl:∀ i ys H,Iv i ys H->aO K H a xs)
  (step:∀ i ys H x,xs.reverse[i]?=some x->Iv i ys H->∀ (R:VK) (R':Hp->Prop),(∀ y H',Iv (i+1) (ys++[y]) H'->R y H')->(∀ H',Iv (i+1) ys H'->R' H') ->
   g x σ' H fun σ4 H4=>Wk σ' σ4/\tc σ4 H4 fun b H5=>if b=true then te σ4 H5 R else R' H5)
  (fin:∀ ys H,Iv xs.length ys H->F ys H):gr (EU K a xs.length) σ' g tc te H1 F:=by
 refine jO xs.length Iv h0 hn (fun i ys H _ q=>len i ys H q) (fun i ys H hi q=>⟨⟨xs,hl i ys H q,rfl,hi⟩,fun x H3 hy R R' r r'=>?_⟩) fun ys H q=>⟨⟨⟨xs,hl _ ys H q,rfl⟩,rfl⟩,fin ys H q⟩;obtain⟨e,hy⟩:=hy;subst e;refine step i ys _ x ?_ q R R' r r';rw[List.getElem?_reverse hi];exact hy xs (hl i ys _ q)
theorem ur {K:PySem.W.Frag}{a:Addr}{xs:List V}{σ':St}{g:TG}{tc:TT}{te:TE}{H1:Hp}{F:List V->Hp->Prop} (Iv:Nat->List V->Hp->Prop) (h0:Iv 0 [] H1) (hn:xs.length<=sizeLine)
  (len:∀ i ys H,Iv i ys H->ys.length<=i) (hl:∀ i ys H,Iv i ys H->cI K H a xs)
  (step:∀ i ys H x,xs[i]?=some x->Iv i ys H->∀ (R:VK) (R':Hp->Prop),(∀ y H',Iv (i+1) (ys++[y]) H'->R y H')->(∀ H',Iv (i+1) ys H'->R' H') ->
   g x σ' H fun σ4 H4=>Wk σ' σ4/\tc σ4 H4 fun b H5=>if b=true then te σ4 H5 R else R' H5)
  (fin:∀ ys H,Iv xs.length ys H->F ys H):gr (EM K a) σ' g tc te H1 F:=by
 refine jO xs.length Iv h0 hn (fun i ys H _ q=>len i ys H q) (fun i ys H hi q=>⟨⟨xs,xs[i],hl i ys H q,by simp[hi]⟩,fun x H3 hy R R' r r'=>?_⟩) fun ys H q=>⟨⟨xs,hl _ ys H q,Nat.le_refl _⟩,fin ys H q⟩;obtain⟨e,hy⟩:=hy;subst e;exact step i ys _ x (hy xs (hl i ys _ q)) q R R' r r'
end L2
end
section
namespace L2
open PySem PySem.Spec PyProof.Rows
class Wrp where
 f:St->Hp->Prop
noncomputable def Hid [w:Wrp] (I:St->Hp->Prop):Prop:=∀ σ H,w.f σ H->I σ H
theorem Hid.go {r I:St->Hp->Prop} (h:@Hid ⟨r⟩ I) {σ:St}{H:Hp} (q:r σ H):I σ H:=h σ H q
noncomputable def GN (t:TS):TS:=fun D σ H=>∀ I,@Hid ⟨D.nx⟩ I->t { D with nx:=I } σ H
theorem cH {X:Cx}{st:Stmt}{t:TS} (h:PS X st t):PS X st (GN t):=fun pins s σ H D I q=>h pins s σ H D I (q D.nx fun _ _ z=>z)
end L2
end
section
namespace L2
open PySem PySem.Spec PyProof.Rows
theorem B_ {v:V}{l:St}{H:Hp}{Q:VK}:kH 0 (some v::l) H Q=Q v H:=by
 unfold kH;simp only[List.getElem?_cons_zero,Option.some.injEq,exists_eq_left']
theorem Cb {n:Nat}{o:Option V}{l:St}{H:Hp}{Q:VK}:kH (n+1) (o::l) H Q=kH n l H Q:=rfl
noncomputable def ql:Nat->Option V->St->(St->Prop)->Prop
 | _,_,[],k=>k []
 | 0,x,_::l,k=>k (x::l)
 | n+1,x,o::l,k=>ql n x l fun l'=>k (o::l')
theorem rO {x:Option V}:∀ {l:St}{n:Nat}{k:St->Prop},ql n x l k=k (l.set n x)
 | [],_,_=>by unfold ql;rfl
 | _::_,0,_=>rfl
 | o::l,n+1,k=>rO (l:=l)
theorem Bt {x o:Option V}{l:St}{k:St->Prop}:ql 0 x (o::l) k=k (x::l):=rfl
theorem AY {n:Nat}{x o:Option V}{l:St}{k:St->Prop}:ql (n+1) x (o::l) k=ql n x l fun l'=>k (o::l'):=rfl
theorem xo {i:Nat}{v:V}{o:Option V}{l:St}{H:Hp}{Q:St->Hp->Prop}:oG i v (o::l) H Q=ql i (some v) (o::l) fun σ'=>Q σ' H:=(rO (l:=o::l) (k:=fun σ'=>Q σ' H)).symm
section
variable {α β γ δ:Sort _}{p:Addr}{a b:Int}{c:Bool}{s:Str}
theorem Ec {Q:Addr->Prop}:(∃ x,V.ref p=.ref x/\Q x)=Q p:=by simp only[V.ref.injEq,exists_eq_left']
theorem Ej {Q:Addr->α->Prop}:(∃ x y,V.ref p=.ref x/\Q x y)=∃ y,Q p y:=by simp only[V.ref.injEq,exists_and_left,exists_eq_left']
theorem C5 {Q:Addr->α->β->Prop}:(∃ x y z,V.ref p=.ref x/\Q x y z)=∃ y z,Q p y z:=by simp only[V.ref.injEq,exists_and_left,exists_eq_left']
theorem GU {Q:Addr->α->β->γ->Prop}:(∃ x y z t,V.ref p=.ref x/\Q x y z t)=∃ y z t,Q p y z t:=by simp only[V.ref.injEq,exists_and_left,exists_eq_left']
theorem Ht {Q:Addr->α->β->γ->δ->Prop}:(∃ x y z t u,V.ref p=.ref x/\Q x y z t u)=∃ y z t u,Q p y z t u:=by simp only[V.ref.injEq,exists_and_left,exists_eq_left']
theorem GW {Q:Addr->α->Int->β->Prop}:(∃ x y z t,V.ref p=.ref x/\V.int a=.int z/\Q x y z t)=∃ y t,Q p y a t:=by
 simp only[V.ref.injEq,V.int.injEq,exists_and_left,exists_eq_left']
theorem Hi {Q:Int->Prop}:(∃ x,V.int a=.int x/\Q x)=Q a:=by simp only[V.int.injEq,exists_eq_left']
theorem Ha {Q:Int->Int->Prop}:(∃ x y,V.int a=.int x/\V.int b=.int y/\Q x y)=Q a b:=by simp only[V.int.injEq,exists_and_left,exists_eq_left']
theorem Hl {Q:Bool->Prop}:(∃ x,V.bl c=.bl x/\Q x)=Q c:=by simp only[V.bl.injEq,exists_eq_left']
theorem FE {Q:Str->Prop}:(∃ x,V.str s=.str x/\Q x)=Q s:=by simp only[V.str.injEq,exists_eq_left']
theorem Fd {Q:Str->α->Prop}:(∃ x y,V.str s=.str x/\Q x y)=∃ y,Q s y:=by simp only[V.str.injEq,exists_and_left,exists_eq_left']
theorem F0 {v:V}{Q:V->Prop}:(∃ y,[v]=[y]/\Q y)=Q v:=by simp only[List.cons.injEq,and_true,exists_eq_left']
theorem FH {v:V}{Q:α->V->Prop}:(∃ x y,[v]=[y]/\Q x y)=∃ x,Q x v:=by simp only[List.cons.injEq,and_true,exists_eq_left']
theorem FU {Q:Int->Prop}:(∃ y,[V.int a]=[V.int y]/\Q y)=Q a:=by simp only[List.cons.injEq,V.int.injEq,and_true,exists_eq_left']
theorem GA {Q:Addr->Prop}:(∃ y,[V.ref p]=[V.ref y]/\Q y)=Q p:=by simp only[List.cons.injEq,V.ref.injEq,and_true,exists_eq_left']
theorem E8 {Q:Addr->α->Prop}:(∃ y x,[V.ref p]=[V.ref y]/\Q y x)=∃ x,Q p x:=by simp only[List.cons.injEq,V.ref.injEq,and_true,exists_and_left,exists_eq_left']
theorem Ga {Q:Addr->α->β->Prop}:(∃ y x z,[V.ref p]=[V.ref y]/\Q y x z)=∃ x z,Q p x z:=by simp only[List.cons.injEq,V.ref.injEq,and_true,exists_and_left,exists_eq_left']
theorem Gp {Q:Str->Prop}:(∃ y,[V.str s]=[V.str y]/\Q y)=Q s:=by simp only[List.cons.injEq,V.str.injEq,and_true,exists_eq_left']
theorem Hr {Q:Str->Int->α->Prop}:(∃ z i c,V.str s=.str z/\V.int a=.int i/\Q z i c)=∃ c,Q s a c:=by
 simp only[V.str.injEq,V.int.injEq,exists_and_left,exists_eq_left']
theorem FN {g:TG}{gs:uw}{v:V}{vs:List V}{σ:St}{H:Hp}{Q:St->Hp->Prop}:sv g gs (v::vs) σ H Q=g v σ H fun σ2 H2=>gs vs σ2 H2 Q:=by
 unfold sv;simp only[List.cons.injEq,exists_eq_left',exists_and_left,and_assoc]
end
end L2
end
section
namespace L2
open PySem PySem.Spec PyProof.Rows
theorem oX:∀ {us vs:List Value}{xs ys:List Str},StrsAre us xs->StrsAre vs ys->StrsAre (us++vs) (xs++ys)
 | _,_,_,_,.nil,k=>k
 | _,_,_,_,.cons x t q,k=>.cons x t (oX q k)
theorem me:∀ {us:List Value}{xs:List Str},StrsAre us xs->StrsAre us.reverse xs.reverse
 | _,_,.nil=>.nil
 | _,_,.cons x t q=>by
  rw[List.reverse_cons,List.reverse_cons];exact oX (me q) (.cons x t .nil)
section
variable {P:Program}{w:World}{A:Around}{E:Value->Shared->Prop}{s:Shared}
theorem tf {c:Addr}{us:List Value}{ss:List Str}{ep:Nat}{R:PySem.Fin->Shared->Prop} (hl:s.heap.get? c=some (seqObj "list" us.toArray ep)) (hss:StrsAre us ss) (few:us.length<64)
  (k:∀ (out:Array Value) (ss':List Str),StrsAre out.toList ss'->ss'.Perm ss->ss'.Pairwise (fun a b=>¬ a.cps.toList<b.cps.toList)->R (.done (.ret .none)) { s with heap:=sortedHeap s.heap c us out }) :
  wpAny (model P w) A (Builtin.«list.sort» ⟨[.ref c],[(Str.ofString "reverse",.bool true)]⟩) R E s:=by
 have clt:=Heap.lt_size hl;have last:∀ st:SortSt,(arrOf st).Perm (pairsOf us)->SortedToK strKind (arrOf st) (pairsOf us).size->R (.done (.ret .none)) { s with heap:=sortedHeap s.heap c us ((arrOf st).map (·.2)).reverse }:=fun st p1 p2=>by
  obtain⟨ss',b1,b2,b3⟩:=sorted_out_str hss p1 p2;refine k _ ss'.reverse ?_ ((List.reverse_perm _).trans b2) ?_
  ·rw[Array.toList_reverse]
   exact me b1
  ·rw[List.pairwise_reverse]
   exact cO b3
 have turned:((us.toArray.zip us.toArray).reverse).Perm (pairsOf us):=Array.perm_iff_toList_perm.mpr (by rw[Array.toList_reverse];exact List.reverse_perm _);have most:us.toArray.size=us.length:=List.size_toArray ..;have sl:=sizeLine_eq;rw[list_sort_rev];refine wpAny_bind (listItems_at hl rfl ?_);refine wpAny_bind (listUpdate_at hl rfl ?_);obtain⟨e1,h1⟩:∃ e1,(s.heap.update c (Obj.mapSeq fun _=>(#[]:Array Value))).get? c=some (seqObj "list" #[] e1):=⟨_,get?_update_seq hl _⟩;refine wpAny_bind (seqEpoch_at h1 rfl ?_);refine wpAny_bind (wpAny_newTuple (wpAny_bind (wpAny_newList (wpAny_holding ?_))));have h2:(((s.heap.update c (Obj.mapSeq fun _=>(#[]:Array Value))).push (seqObj "tuple" us.toArray 0)).push (seqObj "list" #[] 0)).get? c=some (seqObj "list" #[] e1):=by
  refine (Heap.get?_push_ne _ _ _ ?_).trans ((Heap.get?_push_ne _ _ _ ?_).trans h1)
  ·rw[size_push',Heap.size_update]
   exact Nat.ne_of_lt (Nat.lt_succ_of_lt clt)
  ·rw[Heap.size_update]
   exact Nat.ne_of_lt clt
 dsimp only;simp only[if_true];refine wpAny_bind (wpAny_rule ?_);show wpAny (model P w) A _ R E { s with heap:=((s.heap.update c (Obj.mapSeq fun _=>(#[]:Array Value))).push (seqObj "tuple" us.toArray 0)).push (seqObj "list" #[] 0) }
 by_cases one:us.toArray.size<2
 ·simp only[if_pos one]
  refine wpAny_bind (wpAny_pure ?_);rw[StateT.run_pure];refine wpAny_bind (wpAny_pure ?_);dsimp only;refine wpAny_bind (seqEpoch_at h2 rfl (wpAny_bind (listUpdate_at h2 rfl ?_ (hsz2:=?_))))
  ·simp only[bne_self_eq_false,Bool.false_eq_true,if_false]
   refine wpAny_pure (last (SortSt.mk' general' (us.toArray.zip us.toArray).reverse #[] 7 none) turned fun i j hij hj=>?_);have:i=j:=by rw[pairsOf_size] at hj;omega
   subst this;exact KeyOrd.kle_refl _
  ·simp only[Array.size_reverse,Array.size_map]
   show (us.toArray.zip us.toArray).reverse.size<=_;rw[Array.size_reverse,Array.size_zip];omega
 ·simp only[if_neg one]
  obtain⟨v1,v2,r,rfl⟩:∃ v1 v2 r,us=v1::v2::r:=by
   cases us with
   | nil=>simp at one
   | cons a t =>
    cases t with
    | nil=>simp at one
    | cons b t=>exact⟨a,b,t,rfl⟩
  rw[keyKind_strs hss];refine wpAny_bind (wpAny_pure ?_);refine wpAny_bind (wpAny_mono (wpS_sortRunsK (κ:=strKind) strKind_oneLt (a₀:=pairsOf (v1::v2::r)) (st:=SortSt.mk' oneType' ((v1::v2::r).toArray.zip (v1::v2::r).toArray).reverse #[] 7 none)
   (Q:=fun _ st=>(arrOf st).Perm (pairsOf (v1::v2::r))/\failedOf st=none/\SortedToK strKind (arrOf st) (pairsOf (v1::v2::r)).size)
   hss.keysOf ⟨turned,rfl,rfl,rfl⟩ (by rw[pairsOf_size];simp) (by rw[pairsOf_size];exact few) fun st y1 y2 y3=>⟨y1,y2,y3⟩) ?_ fun _ _ e=>e)
  rintro ⟨⟨⟩,st⟩ s' ⟨rfl,z1,z2,z3⟩;dsimp only;refine wpAny_bind (seqEpoch_at h2 rfl (wpAny_bind (listUpdate_at h2 rfl ?_ (hsz2:=?_))))
  ·rw[z2]
   simp only[bne_self_eq_false,Bool.false_eq_true,if_false];exact wpAny_pure (last st z1 z3)
  ·rw[Array.size_reverse]
   refine Nat.le_trans (Nat.le_of_eq ((Array.size_map ..).trans (z1.size_eq.trans (pairsOf_size _)))) ?_;omega
theorem pX {v:Value}{Q:Value->Shared->Prop}
  (h:wpAny (model P w) A.in1 (collect v) (fun vs s1=>∃ ss,StrsAre vs ss/\vs.length<64/\(∀ b o,s.heap.get? b=some o->s1.heap.get? b=some o)/\∀ (h':Heap) (out:List Value) (ss':List Str) (e:Nat),(∀ b o,s1.heap.get? b=some o->h'.get? b=some o)->h'.get? s1.heap.objs.size=some (seqObj "list" out.toArray e)->StrsAre out ss'->ss'.Perm ss->ss'.Pairwise (fun a b=>¬ a.cps.toList<b.cps.toList) ->
   Q (.ref s1.heap.objs.size) { s1 with heap:=h' }) E s) :
  wpAny (model P w) A (call (.builtin "sorted") [v] [(Str.ofString "reverse",.bool true)]) Q E s:=by
 refine call_function_entry_kw kind_sorted plain_sorted entry_sorted (args_sorted_rev _ _) ?_;unfold Builtin.«sorted»;refine wpAny_bind (m:=checkCount "sorted" 1 1 _) (wpAny_pure (wpAny_bind (wpAny_mono h (fun vs s1 z=>?_) fun _ _ z=>z)));obtain⟨ss,hss,few,kp,q⟩:=z;refine wpAny_bind (wpAny_newList ?_ (by show vs.length<=sizeLine;rw[sizeLine_eq];omega));have at1:(s1.heap.push (seqObj "list" vs.toArray 0)).get? s1.heap.objs.size=some (seqObj "list" vs.toArray 0):=Heap.get?_push_size _ rfl;refine wpAny_bind (wpAny_holding (wpAny_call_entry_kw slot_list_sort ⟨_,at1,rfl⟩ entry_list_sort (tf at1 hss few fun out ss' b1 b2 b3=>⟨_,rfl,?_⟩) (args_list_sort_rev _ _)));have sz:(s1.heap.push (seqObj "list" vs.toArray 0)).objs.size=s1.heap.objs.size+1:=size_push' _ _;have stays:∀ b o,b<s1.heap.objs.size->(s1.heap.push (seqObj "list" vs.toArray 0)).get? b=some o->(sortedHeap (s1.heap.push (seqObj "list" vs.toArray 0)) s1.heap.objs.size vs out).get? b=some o:=fun b o hb e=>by
  have nb:s1.heap.objs.size≠b:=Nat.ne_of_gt hb;unfold sortedHeap;refine (Heap.get?_update_other _ _ nb).trans ((Heap.get?_push_ne _ _ _ ?_).trans ((Heap.get?_push_ne _ _ _ ?_).trans ((Heap.get?_update_other _ _ nb).trans e)))
  ·rw[size_push',Heap.size_update,sz]
   exact Nat.ne_of_lt (Nat.lt_succ_of_lt (Nat.lt_succ_of_lt hb))
  ·rw[Heap.size_update,sz]
   exact Nat.ne_of_lt (Nat.lt_succ_of_lt hb)
 obtain⟨e1,q1⟩:∃ e1,((s1.heap.push (seqObj "list" vs.toArray 0)).update s1.heap.objs.size (Obj.mapSeq fun _=>(#[]:Array Value))).get? s1.heap.objs.size=some (seqObj "list" #[] e1):=⟨_,get?_update_seq at1 _⟩;have q2:((((s1.heap.push (seqObj "list" vs.toArray 0)).update s1.heap.objs.size (Obj.mapSeq fun _=>(#[]:Array Value))).push (seqObj "tuple" vs.toArray 0)).push (seqObj "list" #[] 0)).get? s1.heap.objs.size=some (seqObj "list" #[] e1):=by
  refine (Heap.get?_push_ne _ _ _ ?_).trans ((Heap.get?_push_ne _ _ _ ?_).trans q1)
  ·rw[size_push',Heap.size_update,sz]
   exact Nat.ne_of_lt (Nat.lt_succ_of_lt (Nat.lt_succ_self _))
  ·rw[Heap.size_update,sz]
   exact Nat.ne_of_lt (Nat.lt_succ_self _)
 have q3:=get?_update_seq q2 (fun _=>out);have q4:out=out.toList.toArray:=(Array.toArray_toList ..).symm;rw[q4] at q3;exact wpAny_pure ⟨_,rfl,q _ out.toList ss' _ (fun b o e=>stays b o (Heap.lt_size e) (Heap.get?_push_of_some _ e)) q3 b1 b2 b3⟩
end
noncomputable def zk (X:Cx) (r:V->Hp->VK->Prop):Prop:=∀ (pins:List (Addr×Obj)) (s:Shared) (σ:St) (H:Hp) (x:V) (u:Value) (Q:VK),Inv X pins σ H s->RelV x u->r x H Q ->
 wpAny (model X.prog X.w) X.A (call (.builtin "sorted") [u] [(Str.ofString "reverse",.bool true)]) (EP X pins σ Q) X.xe s
noncomputable def y_ (r:V->Hp->VK->Prop) (t:TE):TE:=fun σ H Q=>t σ H fun v H1=>r v H1 Q
theorem yF {X:Cx}{r:V->Hp->VK->Prop}{e:Expr}{t:TE}{p kp tp pos:Pos}{j:Nat} (hc:zk X r) (hg:Gl X "sorted") (hm:X.mg "sorted"=none) (he:PE X e t) (hs:notStar e=true:=by rfl) :
  PE X (.Call (.Name "sorted" p) [e] [⟨some "reverse",.Constant (.bool true) j tp,kp⟩] pos) (y_ r t):=by
 intro pins s σ H Q I h;have hse:starEach [e] X.env=[(false,eval e X.env)]:=cw hs;refine wpAny_Call_Name_kw (gz I hg hm boot_sorted ?_ (by decide) (by decide));refine callWith_builtin_kwB (by rw[hse];rfl) (by rfl) ?_;rw[hse];refine evalArgs_kwB (by rfl) ?_;refine Calls.spliced_cons (bC (he pins s σ H _ I h) fun u s1 ⟨x,H1,I1,r1,q1⟩=>?_);refine Calls.spliced_nil (kws_cons ?_);refine bC (fo pins s1 σ H1 (fun v H2=>v=.bl true/\H2=H1) I1 ⟨rfl,rfl⟩) fun u2 s2 h2=>?_;obtain⟨v,H2,I2,r2,rfl,rfl⟩:=h2
 cases r2;exact kws_nil (hc pins s2 σ H2 x u Q I2 r1 q1)
theorem tR {X:Cx} (hc:X.calm=true):zk X (fun x H Q=>∃ (a:Addr) (kvs:List (Key×V)) (ss:List Str),x=.ref a/\H a=some (.dK kvs)/\kvs.map (fun kv=>kV kv.1)=ss.map V.str/\ss.length<64 /\
  ∀ (p:Addr) (ss':List Str),H p=none->ss'.Perm ss->ss'.Pairwise (fun a b=>¬ a.cps.toList<b.cps.toList)->Q (.ref p) (upd H p (.lst (ss'.map V.str)))):=by
 intro pins s σ H x u Q I r h;obtain⟨a,kvs,ss,rfl,ha,hk,few,q⟩:=h
 cases r;obtain⟨z,hd,vs,rel,dd⟩:=fH I.hok (.inl ha);obtain⟨ep,hat⟩:=dd.dictAt;have n1:kvs.length=ss.length:=by have:=congrArg List.length hk;rwa [List.length_map,List.length_map] at this
 have n2:vs.length=kvs.length:=rel.length.symm;have sl:=sizeLine_eq;refine pX (gP (T:="dict") (n:=vs.length) (Ok:=fun Pv=>Pv=fun i v=>∃ k x,vs[i]?=some (k,x)/\(bj X.prog X.w).is k v=true) dd.typeIs (by decide) (by decide) (by omega) (I.ok.hd hc) (fun A E s' Q hT q=>PySem.W.kdl_hint_dict hT q) ?_ ?_)
 ·intro A' E' s' R old k
  have at2:s'.heap.DictAt (bj X.prog X.w) a vs ep:=hat.at' fun o e=>old a o e;refine wpAny_pyIter_dict hd at2 (k _ s'.drawn _ [s'.heap.objs.size,a] _ _ rfl (fun b o e=>Heap.get?_push_of_some _ e) (fun b hb=>?_) (Nat.le_refl _) (fun A hA=>Walks.dictKeys hA _ a (Nat.ne_of_lt at2.lt_size) vs ep) ⟨⟨_,Heap.get?_push_size _ rfl,rfl,rfl⟩,at2.push _⟩);simp at hb;rcases hb with z|z
  ·exact .inr (Nat.le_of_eq z.symm)
  ·exact .inl z
 ·rintro h' d' tk us Pv rfl kp slt hl hv
  have rv:=fZ (P:=X.prog) (w:=X.w) rel hl fun j v e=>hv j v e;rw[hk] at rv;refine⟨ss,fN rv,by omega,kp,fun h2 out ss' e2 kp2 hL hs' p' srt=>?_⟩;have sz:s.heap.objs.size<=h'.objs.size:=Nat.le_of_lt slt;have n3:=p'.length_eq;refine⟨.ref h'.objs.size,_,I.vf (o:=.lst (ss'.map V.str)) d' tk (fun b o e=>kp2 b o (kp b o e)) sz ⟨?_,out,e2,dH hs',hL⟩,rfl,q _ ss' (I.hok.fresh sz) p' srt⟩;rw[List.length_map];omega
end L2
end
section
namespace L2
open PySem PySem.Spec PyProof.Rows
section
variable {X:Cx}{pins:List (Addr×Obj)}{σ:List (Option V)}{H:Hp}{s:Shared}{h':Heap}
end
section
variable {X:Cx}{pins:List (Addr×Obj)}{σ:List (Option V)}{H:Hp}{s:Shared}{h':Heap}
end
structure Hs (z ti to i1 i2 a b:Addr) (i:Nat) (h:Heap):Prop where
 z:IsZip h z ti to .none
 ti:IsPair h ti (.ref i1) (.ref i2)
 to:∃ x y,IsPair h to x y
 p1:h.IsListIter i1 a i
 p2:h.IsListIter i2 b i
structure GR (z ti to i1 i2:Addr):Prop where
 d1:ti≠z
 d2:to≠z
 d3:i1≠z
 d4:i2≠z
 d5:ti≠to
 d6:ti≠i1
 d7:ti≠i2
 d8:to≠i1
 d9:to≠i2
 d0:i1≠i2
structure Hx (mg:Str->Option Value):Prop where
 zip:mg "zip"=none
end L2
end
section
namespace Srt
open PySem PySem.W PyProof.Rows
structure Ord (n:Nat) (lt:Nat->Nat->Bool):Prop where
 irr:∀ i,lt i i=false
 tr:∀ i j k,lt i j=true->lt j k=true->lt i k=true
 tri:∀ i j,i<n->j<n->i≠j->lt i j=false->lt j i=true
noncomputable def qu (n:Nat) (lt:Nat->Nat->Bool) (i j:Nat) (C:Bool->Shared->Prop) (s:Shared):Prop:=i<n/\j<n/\i≠j/\C (lt i j) s
noncomputable def Pm (n:Nat) (p:Array Nat):Prop:=p.Perm (List.range n).toArray
variable {n:Nat}{lt:Nat->Nat->Bool}{p:Array Nat}{s:Shared}
theorem gd (p:Array Nat) (i:Nat):p.getD i 0=(p[i]?).getD 0:=by
 rw[Array.getD_eq_getD_getElem?]
theorem Pm.size (h:Pm n p):p.size=n:=by
 have:=h.size_eq
 simpa using this
theorem Pm.ls (h:Pm n p) {i:Nat} (hi:i<n):p.getD i 0<n:=by
 have hs:=h.size;have hm:p[i]'(by omega)∈p.toList:=by simp
 have:=(Array.perm_iff_toList_perm.mp h).mem_iff.mp hm;rw[gd,Array.getElem?_eq_getElem (by omega)]
 simpa using this
theorem Pm.inj (h:Pm n p) {i j:Nat} (hi:i<n) (hj:j<n) (ne:i≠j):p.getD i 0≠p.getD j 0:=by
 have hs:=h.size;have nd:p.toList.Nodup:=(Array.perm_iff_toList_perm.mp h).nodup_iff.mpr (by simpa using List.nodup_range);rw[gd,gd,Array.getElem?_eq_getElem (by omega),Array.getElem?_eq_getElem (by omega)];intro e;have hi':i<p.toList.length:=by simpa using (by omega:i<p.size)
 have hj':j<p.toList.length:=by simpa using (by omega:j<p.size)
 have e':p.toList[i]=p.toList[j]:=by simpa using e
 rw[List.nodup_iff_pairwise_ne,List.pairwise_iff_getElem] at nd;rcases Nat.lt_or_gt_of_ne ne with q|q
 ·exact nd i j hi' hj' q e'
 ·exact nd j i hj' hi' q e'.symm
noncomputable def Up (lt:Nat->Nat->Bool) (p:Array Nat) (k:Nat):Prop:=∀ i j,i<j->j<k->lt (p.getD i 0) (p.getD j 0)=true
noncomputable def Dn (lt:Nat->Nat->Bool) (p:Array Nat) (k:Nat):Prop:=∀ i j,i<j->j<k->lt (p.getD j 0) (p.getD i 0)=true
theorem up1:Up lt p 1:=fun i j h1 h2=>by omega
theorem Up.more (O:Ord n lt) {k:Nat} (u:Up lt p k) (hk:1<=k) (h:lt (p.getD (k - 1) 0) (p.getD k 0)=true):Up lt p (k+1):=fun i j h1 h2=>by
 by_cases e:j<k
 ·exact u i j h1 e
 ·have e:j=k:=by omega
  subst e
  by_cases e2:i=j - 1
  ·rw[e2];exact h
  ·exact O.tr _ _ _ (u i (j - 1) (by omega) (by omega)) h
theorem Dn.more (O:Ord n lt) {k:Nat} (u:Dn lt p k) (hk:1<=k) (h:lt (p.getD k 0) (p.getD (k - 1) 0)=true):Dn lt p (k+1):=fun i j h1 h2=>by
 by_cases e:j<k
 ·exact u i j h1 e
 ·have e:j=k:=by omega
  subst e
  by_cases e2:i=j - 1
  ·rw[e2];exact h
  ·exact O.tr _ _ _ h (u i (j - 1) (by omega) (by omega))
theorem qx (O:Ord n lt) (hp:Pm n p):∀ (f m:Nat) {Q:Nat->Shared->Prop},1<=m->m+f<=n->Up lt p m ->
  (∀ m',m<=m'->m'<=m+f->Up lt p m'->(m'<m+f->lt (p.getD m' 0) (p.getD (m' - 1) 0)=true)->Q m' s)->(kas_asc p f m).kasWp (qu n lt) Q s
 | 0,m,Q,h1,h2,u,h=>h m (Nat.le_refl _) (Nat.le_refl _) u fun z=>absurd z (Nat.lt_irrefl _)
 | f+1,m,Q,h1,h2,u,h=>by
  refine⟨hp.ls (by omega),hp.ls (by omega),hp.inj (by omega) (by omega) (by omega),?_⟩
  cases e:lt (p.getD m 0) (p.getD (m - 1) 0) with
  | true =>
   show KasT.kasWp _ (if true=true then _ else _) Q s;rw[if_pos rfl];exact h m (Nat.le_refl _) (by omega) u fun _=>e
  | false =>
   show KasT.kasWp _ (if false=true then _ else _) Q s;rw[if_neg (by simp)];refine qx O hp f (m+1) (by omega) (by omega) (u.more O h1 (O.tri _ _ (hp.ls (by omega)) (hp.ls (by omega)) (hp.inj (by omega) (by omega) (by omega)) e)) fun m' a1 a2 a3 a4=>h m' (by omega) (by omega) a3 fun z=>a4 (by omega)
theorem rJ (O:Ord n lt) (hp:Pm n p):∀ (f m:Nat) {Q:Array Nat×Nat×Nat->Shared->Prop},1<=m->m+f<=n->Dn lt p m ->
  (∀ m',m<=m'->m'<=m+f->Dn lt p m'->Q (p,m',0) s)->(kas_desc f p m 0).kasWp (qu n lt) Q s
 | 0,m,Q,h1,h2,u,h=>h m (Nat.le_refl _) (Nat.le_refl _) u
 | f+1,m,Q,h1,h2,u,h=>by
  refine⟨hp.ls (by omega),hp.ls (by omega),hp.inj (by omega) (by omega) (by omega),?_⟩
  cases e:lt (p.getD m 0) (p.getD (m - 1) 0) with
  | true =>
   show KasT.kasWp _ (if true=true then _ else _) Q s;rw[if_pos rfl,if_neg (by omega)];exact rJ O hp f (m+1) (by omega) (by omega) (u.more O h1 e) fun m' a1 a2 a3=>h m' (by omega) (by omega) a3
  | false =>
   show KasT.kasWp _ (if false=true then _ else _) Q s;rw[if_neg (by simp)];refine⟨hp.ls (by omega),hp.ls (by omega),hp.inj (by omega) (by omega) (by omega),?_⟩;rw[O.tri _ _ (hp.ls (by omega)) (hp.ls (by omega)) (hp.inj (by omega) (by omega) (by omega)) e];show KasT.kasWp _ (if true=true then _ else _) Q s;rw[if_pos rfl];exact h m (Nat.le_refl _) (by omega) u
theorem vS (hp:Pm n p) {m:Nat} (hm:m<=n) (k:Nat):(kas_rev p 0 m).getD k 0=if k<m then p.getD (m - 1 - k) 0 else p.getD k 0:=by
 have hs:=hp.size;have e:=getElem?_mirror_all (xs:=p) (i:=0) (j:=m) (by omega) k;rw[gd,gd,gd];unfold kas_rev;rw[e]
 by_cases q:k<m
 ·rw[if_pos ⟨Nat.zero_le _,q⟩,if_pos q,Nat.zero_add]
 ·rw[if_neg (fun z=>q z.2),if_neg q]
theorem vq (hp:Pm n p) (i j:Nat):Pm n (kas_rev p i j):=(mirror_perm p i j _).trans hp
theorem AK (hp:Pm n p) {m:Nat} (hm:m<=n) (d:Dn lt p m):Up lt (kas_rev p 0 m) m:=fun i j h1 h2=>by
 rw[vS hp hm,vS hp hm,if_pos (by omega),if_pos h2];exact d (m - 1 - j) (m - 1 - i) (by omega) (by omega)
theorem vR (O:Ord n lt) (hp:Pm n p) (hn:1<=n) {Q:Nat×Array Nat->Shared->Prop} (h:∀ m p',1<=m->m<=n->Pm n p'->Up lt p' m->Q (m,p') s):(kas_count n p).kasWp (qu n lt) Q s:=by
 unfold kas_count;rw[KasT.kasWp_bind];refine qx O hp (n - 1) 1 (Nat.le_refl _) (by omega) up1 fun m a1 a2 a3 a4=>?_
 by_cases e:m=n
 ·rw[if_pos (by simp[e])]
  exact h m p a1 (by omega) hp a3
 ·rw[if_neg (by simp[e])]
  by_cases e2:m > 1
  ·rw[if_pos e2]
   refine⟨hp.ls (by omega),hp.ls (by omega),hp.inj (by omega) (by omega) (by omega),?_⟩;rw[a3 0 (m - 1) (by omega) (by omega)];show KasT.kasWp _ (if true=true then _ else _) Q s;rw[if_pos rfl];exact h m p a1 (by omega) hp a3
  ·rw[if_neg e2]
   have e3:m=1:=by omega
   subst e3;unfold kas_descPart;rw[KasT.kasWp_bind];refine rJ O hp (n - (1+1)) (1+1) (by omega) (by omega) ((show Dn lt p 1 from fun i j h1 h2=>by omega).more O (Nat.le_refl _) (a4 (by omega))) fun m' b1 b2 b3=>?_;dsimp only;rw[if_neg (by omega)];unfold kas_tail3;rw[KasT.kasWp_bind];refine qx O (vq hp 0 m') (n - m') m' (by omega) (by omega) (AK hp (by omega) b3) fun m'' c1 c2 c3 c4=>?_;exact h m'' _ (by omega) (by omega) (vq hp 0 m') c3
theorem ki (O:Ord n lt) (hp:Pm n p) {k:Nat} (hk:k<n) (u:Up lt p k) {Q:Nat->Shared->Prop} (h:∀ l',l'<=k->(∀ i,i<l'->lt (p.getD i 0) (p.getD k 0)=true)->(∀ i,l'<=i->i<k->lt (p.getD k 0) (p.getD i 0)=true)->Q l' s) :
  ∀ (f l r:Nat),l<=r->r<=k->r - l<=f->(∀ i,i<l->lt (p.getD i 0) (p.getD k 0)=true)->(∀ i,r<=i->i<k->lt (p.getD k 0) (p.getD i 0)=true)->(kas_place p k f l r).kasWp (qu n lt) Q s
 | 0,l,r,h1,h2,h3,h4,h5=>h l (by omega) h4 fun i a b=>h5 i (by omega) b
 | f+1,l,r,h1,h2,h3,h4,h5=>by
  unfold kas_place
  by_cases e:l ≥ r
  ·rw[if_pos e]
   exact h l (by omega) h4 fun i a b=>h5 i (by omega) b
  ·rw[if_neg e]
   refine⟨hp.ls (by omega),hp.ls (by omega),hp.inj (by omega) (by omega) (by omega),?_⟩
   cases c:lt (p.getD k 0) (p.getD ((l+r) / 2) 0) with
   | true =>
    show KasT.kasWp _ (if true=true then _ else _) Q s;rw[if_pos rfl];refine ki O hp hk u h f l ((l+r) / 2) (by omega) (by omega) (by omega) h4 fun i a b=>?_
    by_cases q:i=(l+r) / 2
    ·rw[q];exact c
    ·exact O.tr _ _ _ c (u _ _ (by omega) b)
   | false =>
    show KasT.kasWp _ (if false=true then _ else _) Q s;rw[if_neg (by simp)];have c':=O.tri _ _ (hp.ls (by omega)) (hp.ls (by omega)) (hp.inj (by omega) (by omega) (by omega)) c;refine ki O hp hk u h f ((l+r) / 2+1) r (by omega) (by omega) (by omega) (fun i a=>?_) h5
    by_cases q:i=(l+r) / 2
    ·rw[q];exact c'
    ·exact O.tr _ _ _ (u _ _ (by omega) (by omega)) c'
theorem vD (hp:Pm n p) {k l:Nat} (hk:k<n) (hl:l<=k) (i:Nat):(bubble p k (k - l)).getD i 0=if i=l then p.getD k 0 else if l<i/\i<=k then p.getD (i - 1) 0 else p.getD i 0:=by
 have hs:=hp.size;have e:=getElem?_bubble (xs:=p) (src:=k) (by omega) (k - l) (by omega) i;rw[show k - (k - l)=l by omega] at e;rw[gd,e]
 by_cases q:i=l
 ·rw[if_pos q,if_pos q,gd]
 ·rw[if_neg q,if_neg q]
  by_cases q2:l<i/\i<=k
  ·rw[if_pos q2,if_pos q2,gd]
  ·rw[if_neg q2,if_neg q2,gd]
theorem An (hp:Pm n p) {k l:Nat} (hk:k<n) (hl:l<=k) (u:Up lt p k) (a:∀ i,i<l->lt (p.getD i 0) (p.getD k 0)=true) (b:∀ i,l<=i->i<k->lt (p.getD k 0) (p.getD i 0)=true):Up lt (bubble p k (k - l)) (k+1):=fun i j h1 h2=>by
 rw[vD hp hk hl,vD hp hk hl]
 by_cases e1:i=l
 ·rw[if_pos e1,if_neg (by omega),if_pos (by omega)]
  exact b (j - 1) (by omega) (by omega)
 ·rw[if_neg e1]
  by_cases e2:l<i
  ·rw[if_pos (by omega),if_neg (by omega),if_pos (by omega)]
   exact u (i - 1) (j - 1) (by omega) (by omega)
  ·rw[if_neg (by omega)]
   by_cases e3:j=l
   ·rw[if_pos e3];exact a i (by omega)
   ·rw[if_neg e3]
    by_cases e4:l<j
    ·rw[if_pos (by omega)]
     by_cases e5:i=j - 1
     ·omega
     ·exact u i (j - 1) (by omega) (by omega)
    ·rw[if_neg (by omega)];exact u i j h1 (by omega)
theorem vc (O:Ord n lt) {Q:Array Nat->Shared->Prop} (h:∀ p',Pm n p'->Up lt p' n->Q p' s):∀ (f:Nat) (p:Array Nat) (k:Nat),k+f=n->Pm n p->Up lt p k->(kas_bin f p k).kasWp (qu n lt) Q s
 | 0,p,k,e,hp,u=>h p hp (by rw[<- e];exact u)
 | f+1,p,k,e,hp,u=>by
  unfold kas_bin;rw[KasT.kasWp_bind];refine ki O hp (by omega) u (fun l' a1 a2 a3=>?_) k 0 k (Nat.zero_le _) (Nat.le_refl _) (by omega) (fun i z=>by omega) (fun i a b=>by omega);exact vc O h f _ (k+1) (by omega) ((bubble_perm p k _).trans hp) (An hp (by omega) a1 u a2 a3)
theorem yw (O:Ord n lt) (hn:1<=n) {Q:Array Nat->Shared->Prop} (h:∀ p',Pm n p'->Up lt p' n->Q p' s):(kas_sort n).kasWp (qu n lt) Q s:=by
 unfold kas_sort;rw[KasT.kasWp_bind];refine vR O (show Pm n _ from Array.Perm.refl _) hn fun m p' a1 a2 a3 a4=>?_;dsimp only
 by_cases e:m<n
 ·rw[if_pos e,show max m 1=m by omega]
  exact vc O h (n - m) p' m (by omega) a3 a4
 ·rw[if_neg e]
  have:m=n:=by omega
  exact h p' a3 (this ▸ a4)
theorem yW {cmp:Nat->Nat->(Bool->Shared->Prop)->Shared->Prop} (hc:∀ i j (C:Bool->Shared->Prop),i<n->j<n->i≠j->C (lt i j) s->cmp i j C s) {α:Type}{Q:α->Shared->Prop}:∀ (t:KasT α),t.kasWp (qu n lt) Q s->t.kasWp cmp Q s
 | .ret a,h=>h
 | .ask i j k,h=>hc i j _ h.1 h.2.1 h.2.2.1 (yW hc (k (lt i j)) h.2.2.2)
end Srt
end
section
namespace L2
open PySem PySem.W PyProof.Rows
section
variable {prog:Program}{w:World}{A:Around}{E:Value->Shared->Prop}{s:Shared}
noncomputable abbrev picked (vs:List Value) (p:Array Nat):Array Value:=List.toArray (p.toList.map fun i=>vs.getD i Value.none)
noncomputable abbrev Olds (a:Addr) (h g:Heap):Prop:=∀ b o,b≠a->h.get? b=some o->g.get? b=some o
theorem oM {vs:List Value}{p:Array Nat} (h:Srt.Pm vs.length p):(picked vs p).size=vs.length:=by
 unfold picked;rw[List.size_toArray,List.length_map,Array.length_toList,h.size]
theorem xA {κ:SortKind}{lt:Nat->Nat->Bool}{a:Addr}{vs:List Value}{c:Nat}{P:PySem.Fin->Shared->Prop}
  (here:s.heap.get? a=some (seqObj "list" vs.toArray c)) (few:vs.length<64) (O:Srt.Ord vs.length lt)
  (kind:2<=vs.length->∀ g,Olds a s.heap g->∀ R:SortKind->Shared->Prop,R κ { s with heap:=g }->wpAny (model prog w) A (keyKind' vs.toArray) R E { s with heap:=g })
  (less:∀ g,Olds a s.heap g->∀ i j (C:Bool->Shared->Prop),i<vs.length->j<vs.length->i≠j->C (lt i j) { s with heap:=g }->kas_ask prog w A κ vs i j C { s with heap:=g })
  (fin:∀ p,Srt.Pm vs.length p->Srt.Up lt p vs.length->P (.done (.ret .none)) { s with heap:=sortedHeap s.heap a vs (picked vs p) }) :
  wpAny (model prog w) A (Builtin.«list.sort» ⟨[.ref a],[]⟩) P E s:=by
 have sl:=sizeLine_eq;have zs:vs.toArray.size=vs.length:=List.size_toArray;obtain⟨e,now⟩:∃ e,(s.heap.update a (Obj.mapSeq fun _=>#[])).get? a=some (seqObj "list" #[] e):=⟨_,get?_update_seq here fun _=>#[]⟩;have now':(((s.heap.update a (Obj.mapSeq fun _=>#[])).push (seqObj "tuple" vs.toArray 0)).push (seqObj "list" #[] 0)).get? a=some (seqObj "list" #[] e):=Heap.get?_push_of_some _ (Heap.get?_push_of_some _ now);have old:Olds a s.heap (((s.heap.update a (Obj.mapSeq fun _=>#[])).push (seqObj "tuple" vs.toArray 0)).push (seqObj "list" #[] 0)):=fun b o ne hb=>Heap.get?_push_of_some _ (Heap.get?_push_of_some _ (by rw[Heap.get?_update_ne _ _ _ _ ne];exact hb));rw[list_sort_plain];refine wpAny_bind (listItems_at here rfl (wpAny_bind (listUpdate_at here rfl ?_ (by rw[zs];omega) (Nat.zero_le _))));refine wpAny_bind (seqEpoch_at now rfl (wpAny_bind (wpAny_newTuple ?_ (by show vs.length<=_;omega))));refine wpAny_bind (wpAny_newList (wpAny_holding ?_) (Nat.zero_le _));have last:∀ p,Srt.Pm vs.length p->Srt.Up lt p vs.length->P (.done (.ret .none)) { s with heap:=(((s.heap.update a (Obj.mapSeq fun _=>#[])).push (seqObj "tuple" vs.toArray 0)).push (seqObj "list" #[] 0)).update a (Obj.mapSeq fun _=>picked vs p) }:=fin;show wpAny (model prog w) A _ P E { s with heap:=(((s.heap.update a (Obj.mapSeq fun _=>#[])).push (seqObj "tuple" vs.toArray 0)).push (seqObj "list" #[] 0)) };generalize ((s.heap.update a (Obj.mapSeq fun _=>#[])).push (seqObj "tuple" vs.toArray 0)).push (seqObj "list" #[] 0)=g at now' old last ⊢;dsimp only;have done:∀ (st:SortSt) (p:Array Nat),Srt.Pm vs.length p->Srt.Up lt p vs.length->(arrOf st).map (·.2)=picked vs p->failedOf st=none->wpAny (model prog w) A (do
   let touched:=(<- seqEpoch a) != e
   Builtin.List.listUpdate (.ref a) fun _=>(arrOf st).map (·.2)
   if let some x:=failedOf st then rule "list.sort.comparison-raised";throw x
   if touched then rule "list.sort.modified";raiseError "ValueError" "list modified during sort"
   ret .none) P E { s with heap:=g }:=fun st p pm up e1 e2=>by
  have zp:=oM pm;refine wpAny_bind (seqEpoch_at now' rfl (wpAny_bind (listUpdate_at now' rfl ?_ (Nat.zero_le _) (by show ((arrOf st).map (·.2)).size<=_;rw[e1,zp];omega))));rw[e2,e1];simp only[bne_self_eq_false,Bool.false_eq_true,if_false];exact wpAny_pure (last p pm up)
 by_cases h2:vs.toArray.size<2
 ·rw[if_pos h2,if_pos h2]
  refine wpAny_bind (wpAny_pure ?_);rw[StateT.run_pure];refine wpAny_bind (wpAny_pure ?_);refine done _ (List.range vs.length).toArray (Array.Perm.refl _) (fun i j a1 a2=>by omega) ?_ rfl;show (vs.toArray.zip vs.toArray).map (·.2)=_;apply Array.toList_inj.mp;apply List.ext_getElem
  ·simp[picked]
  ·intro i q1 q2
   simp[picked] at q1 q2 ⊢;simp[q1]
 ·rw[if_neg h2,if_neg h2]
  rw[zs] at h2;refine wpAny_bind (kind (by omega) g old _ ?_);refine wpAny_bind (wpAny_mono (kat_run (κ:=κ) (ks:=vs) (vs:=vs) (G:=fun p s'=>s'={ s with heap:=g }/\Srt.Pm vs.length p/\Srt.Up lt p vs.length) (Q:=fun st s'=>s'={ s with heap:=g }/\∃ p,Srt.Pm vs.length p/\Srt.Up lt p vs.length/\(arrOf st).map (·.2)=picked vs p/\failedOf st=none) rfl (by omega) few ?_ ?_) ?_ fun _ _ z=>z)
  ·rintro p st s' a1 a2 a3 ⟨rfl,b1,b2⟩
   exact⟨rfl,p,b1,b2,kat_snds rfl a2,a3⟩
  ·exact Srt.yW (less g old) _ (Srt.yw O (by omega) fun p b1 b2=>⟨rfl,b1,b2⟩)
  ·rintro ⟨⟨⟩,st⟩ s' ⟨rfl,p,b1,b2,b3,b4⟩
   exact done st p b1 b2 b3 b4
theorem rh {κ:SortKind}{lt:Nat->Nat->Bool}{l:Addr}{vs:List Value}{Q:Value->Shared->Prop} (hl:s.heap.IsList l vs.toArray) (few:vs.length<64) (O:Srt.Ord vs.length lt)
  (kind:2<=vs.length->∀ (A:Around) g,(∀ b o,s.heap.get? b=some o->g.get? b=some o)->∀ (E:Value->Shared->Prop) (R:SortKind->Shared->Prop),R κ { s with heap:=g }->wpAny (model prog w) A (keyKind' vs.toArray) R E { s with heap:=g })
  (less:∀ (A:Around) g,(∀ b o,s.heap.get? b=some o->g.get? b=some o)->∀ i j (C:Bool->Shared->Prop),i<vs.length->j<vs.length->i≠j->C (lt i j) { s with heap:=g }->kas_ask prog w A κ vs i j C { s with heap:=g })
  (fin:∀ p,Srt.Pm vs.length p->Srt.Up lt p vs.length->Q (.ref (s.heap.objs.size+1)) { s with heap:=sortedAll s.heap vs (picked vs p) }) :
  wpAny (model prog w) A (call (.builtin "sorted") [.ref l]) Q E s:=by
 refine Calls.call_function_entry kind_sorted plain_sorted entry_sorted (args_sorted1 (.ref l)) (?_:wpAny _ _ _ _ _ _);unfold Builtin.«sorted»;refine wpAny_bind (m:=checkCount "sorted" 1 1 _) (wpAny_pure (wpAny_bind (collect_list hl (wpAny_bind (wpAny_newList ?_)))));have sz:((s.heap.push (seqObj "list" #[] 0)).update s.heap.objs.size (Obj.mapSeq (·++vs.toArray))).objs.size=s.heap.objs.size+1:=(Heap.size_update ..).trans (size_push' ..);have at1:(((s.heap.push (seqObj "list" #[] 0)).update s.heap.objs.size (Obj.mapSeq (·++vs.toArray))).push (seqObj "list" vs.toArray 0)).get? (s.heap.objs.size+1)=some (seqObj "list" vs.toArray 0):=by
  rw[<- sz];exact Heap.get?_push_size _ rfl
 have olds:∀ b o,s.heap.get? b=some o->(((s.heap.push (seqObj "list" #[] 0)).update s.heap.objs.size (Obj.mapSeq (·++vs.toArray))).push (seqObj "list" vs.toArray 0)).get? b=some o/\b≠s.heap.objs.size+1:=fun b o hb=>by
  have hlt:=Heap.lt_size hb;refine⟨Heap.get?_push_of_some _ (by rw[Heap.get?_update_ne _ _ _ _ (Nat.ne_of_lt hlt)];exact Heap.get?_push_of_some _ hb),Nat.ne_of_lt (Nat.lt_succ_of_lt hlt)⟩
 show wpAny _ _ _ _ _ { s with heap:=(((s.heap.push (seqObj "list" #[] 0)).update s.heap.objs.size (Obj.mapSeq (·++vs.toArray))).push (seqObj "list" vs.toArray 0)) };rw[sz];refine wpAny_bind (wpAny_holding (wpAny_call_entry slot_list_sort ⟨_,at1,rfl⟩ entry_list_sort (xA (κ:=κ) at1 few O (fun h2 g og R hR=>kind h2 _ g (fun b o hb=>og b o (olds b o hb).2 (olds b o hb).1) _ R hR) (fun g og=>less _ g fun b o hb=>og b o (olds b o hb).2 (olds b o hb).1) fun p b1 b2=>⟨_,rfl,?_⟩) (args_list_sort _)));exact wpAny_pure ⟨_,rfl,fin p b1 b2⟩
end
end L2
end
section
namespace L2
open PySem PySem.Spec PySem.W PyProof.Rows
noncomputable def yt (H:Hp) (r:Addr) (k:Str):Prop:=∃ rest,H r=some (.tup (.str k::rest))
variable {X:Cx}
noncomputable def keyLt (ks:List Str) (i j:Nat):Bool:=decide ((ks.getD i ⟨#[]⟩).cps.toList<(ks.getD j ⟨#[]⟩).cps.toList)
theorem yz {ks:List Str} (nd:ks.Nodup):Srt.Ord ks.length (keyLt ks) where
 irr i:=by unfold keyLt;simp
 tr i j k h1 h2:=by
  unfold keyLt at *;rw[decide_eq_true_eq] at *;exact List.lt_trans h1 h2
 tri i j hi hj ne h:=by
  unfold keyLt at *;rw[decide_eq_false_iff_not] at h;rw[decide_eq_true_eq];have n2:ks.getD i ⟨#[]⟩≠ks.getD j ⟨#[]⟩:=by
   rw[List.nodup_iff_pairwise_ne,List.pairwise_iff_getElem] at nd;simp only[List.getD_eq_getElem?_getD,List.getElem?_eq_getElem hi,List.getElem?_eq_getElem hj,Option.getD_some];rcases Nat.lt_or_gt_of_ne ne with q|q
   ·exact nd i j hi hj q
   ·exact fun z=>nd j i hj hi q z.symm
  rcases Std.lt_trichotomy (ks.getD i ⟨#[]⟩).cps.toList (ks.getD j ⟨#[]⟩).cps.toList with q|q|q
  ·exact absurd q h
  ·exact absurd (by
    have:(ks.getD i ⟨#[]⟩).cps=(ks.getD j ⟨#[]⟩).cps:=Array.toList_inj.mp q
    cases h1:ks.getD i ⟨#[]⟩
    cases h2:ks.getD j ⟨#[]⟩;rw[h1,h2] at this;exact congrArg _ this) n2
  ·exact q
theorem k_:∀ {rs:List Addr}{us:List Value},Vals (rs.map V.ref) us->us=rs.map Value.ref
 | [],us,h=>by cases h;rfl
 | r::rs,us,h=>by
  cases h with
  | cons h t =>
   cases h;rw[k_ t]
   rfl
theorem pK {α:Type}{f:α->V}{g:α->Value}:∀ {l:List α},(∀ i∈l,RelV (f i) (g i))->Vals (l.map f) (l.map g)
 | [],_=>.nil
 | i::l,h=>.cons (h i List.mem_cons_self) (pK fun j hj=>h j (List.mem_cons_of_mem _ hj))
noncomputable def n_ (h:Heap) (r:Addr) (k:Str):Prop:=∃ (o:Obj) (t:Tok) (us:List Value) (n:Nat),h.get? r=some o/\o.cls=.type "tuple"/\o.data=.seq (Value.str k t::us).toArray n
theorem oN {h:Heap}:∀ {rs:List Addr}{ks:List Str},rs.length=ks.length->(∀ (i:Nat) r k,rs[i]?=some r->ks[i]?=some k->n_ h r k)->∃ fs,KatTups h (rs.map Value.ref) fs/\fs.length=rs.length/\∀ f∈fs,∃ k t,f=Value.str k t
 | [],[],_,_=>⟨[],.nil,rfl,fun f hf=>by cases hf⟩
 | [],_::_,e,_=>by cases e
 | _::_,[],e,_=>by cases e
 | r::rs,k::ks,e,hb=>by
  obtain⟨fs,h1,h2,h3⟩:=oN (Nat.succ.inj e) fun i r k a b=>hb (i+1) r k a b;obtain⟨o,t,us,n,g1,g2,g3⟩:=hb 0 r k rfl rfl;refine⟨.str k t::fs,KatTups.cons g1 g2 g3 (by simp) h1,by rw[List.length_cons,List.length_cons,h2],fun f hf=>?_⟩;rcases List.mem_cons.mp hf with rfl|hf
  ·exact⟨k,t,rfl⟩
  ·exact h3 f hf
theorem jd (hX:X.calm=true):ck X (.builtin "sorted") (fun xs H Q=>∃ (a:Addr) (rs:List Addr) (ks:List Str),xs=[.ref a]/\H a=some (.lst (rs.map V.ref))/\rs.length=ks.length/\(∀ (i:Nat) r k,rs[i]?=some r->ks[i]?=some k->yt H r k)/\ks.Nodup/\rs.length<64 /\
  ∀ (p:Addr) (o:List Nat),H p=none->o.Perm (List.range rs.length)->(o.map fun i=>ks.getD i ⟨#[]⟩).Pairwise (fun a b=>a.cps.toList<b.cps.toList)->Q (.ref p) (upd H p (.lst (o.map fun i=>V.ref (rs.getD i 0))))):=by
 intro pins s σ H xs us Q I r h;obtain⟨a,rs,ks,rfl,ha,lrk,fst,nd,few,q⟩:=h;obtain⟨u,rfl,ru⟩:=vals1 r
 cases ru;obtain⟨its,rv,pl,hz⟩:=I.list (aO.of (K:=X.K) ha);have li:=rv.length;rw[List.length_map] at li;have ei:=k_ rv;have bD:∀ g:Heap,(∀ b o,s.heap.get? b=some o->g.get? b=some o)->∀ (i:Nat) r k,rs[i]?=some r->ks[i]?=some k->n_ g r k:=fun g og i r k hr hk=>by
  obtain⟨rest,hH⟩:=fst i r k hr hk;obtain⟨_,us,vus,o,ho,hcl,n,hd⟩:=I.hok r _ hH
  cases vus with
  | cons v1 v2 =>
   obtain⟨t,rfl⟩:=v1;exact⟨o,t,_,n,og _ _ ho,hcl,hd⟩
 have at_:∀ i,i<its.length->its.getD i Value.none=.ref (rs.getD i 0)/\rs[i]?=some (rs.getD i 0)/\ks[i]?=some (ks.getD i ⟨#[]⟩):=fun i hi=>by
  have h1:i<rs.length:=by omega
  have h2:i<ks.length:=by omega
  refine⟨?_,?_,?_⟩
  ·rw[ei];simp[List.getD,h1]
  ·simp[List.getD,h1]
  ·simp[List.getD,h2]
 have lk:ks.length=its.length:=by omega
 have O:=yz nd;rw[lk] at O;refine rh (κ:=tuples' true) pl.isList (by omega) O (fun h2 A g og E R hR=>?_) (fun A g og i j C hi hj ne hC=>?_) fun p pm up=>?_
 ·obtain⟨fs,h1,h3,h4⟩:=oN lrk (bD g og)
  rw[<- ei] at h1;refine kat_kind (T:=Value.type "str") h1 (by omega) (fun f hf=>?_) rfl hR;obtain⟨k,t,rfl⟩:=h4 f hf;exact .now
 ·obtain⟨i1,i2,i3⟩:=at_ i hi
  obtain⟨j1,j2,j3⟩:=at_ j hj;obtain⟨o,t,us,n,g1,g2,g3⟩:=bD g og i _ _ i2 i3;obtain⟨o',t',us',n',g1',g2',g3'⟩:=bD g og j _ _ j2 j3;unfold kas_ask;rw[i1,j1];refine kat_lt g1 g3 g1' g3' ?_;refine kat_cons (eqBool_str ?_);have ne':(ks.getD i ⟨#[]⟩ == ks.getD j ⟨#[]⟩)=false:=by
   rw[beq_eq_false_iff_ne];intro z
   by_cases q:keyLt ks i j=true
   ·unfold keyLt at q
    rw[z,decide_eq_true_eq] at q;exact List.lt_irrefl _ q
   ·have:=O.tri i j hi hj ne (by simpa using q)
    unfold keyLt at this;rw[z,decide_eq_true_eq] at this;exact List.lt_irrefl _ this
  rw[ne'];exact kat_no (oneLt_str hC)
 ·obtain⟨e,he⟩:=sortedAll_at s.heap its (picked its p)
  have hf:H (s.heap.objs.size+1)=none:=I.hok.fresh (Nat.le_succ _);have pt:p.toList.Perm (List.range rs.length):=by
   have:=Array.perm_iff_toList_perm.mp pm;rw[<- li] at this
   simpa using this
  have mem:∀ i∈p.toList,i<its.length:=fun i hi=>by
   have:=pt.mem_iff.mp hi;rw[List.mem_range] at this;omega
  refine⟨.ref (s.heap.objs.size+1),_,I.laid (o:=.lst (p.toList.map fun i=>V.ref (rs.getD i 0))) (t':=s.toks) (fun b o q=>sortedAll_old q) (Nat.le_succ _) ⟨?_,p.toList.map fun i=>its.getD i Value.none,e,pK fun i hi=>(at_ i (mem i hi)).1,he⟩,rfl,q _ p.toList hf pt ?_⟩
  ·rw[List.length_map,pt.length_eq,List.length_range,sizeLine_eq]
   omega
  ·rw[List.pairwise_map,List.pairwise_iff_getElem]
   intro i j hi hj hij;have ps:=pm.size;rw[Array.length_toList] at hi hj;have:=up i j hij (by omega);unfold keyLt at this;rw[decide_eq_true_eq,Srt.gd,Srt.gd,Array.getElem?_eq_getElem hi,Array.getElem?_eq_getElem hj] at this
   simpa using this
end L2
end
section
namespace Lw
open PySem L2 PyProof.Rows
section
variable {P:Program}{w:World}{K:PySem.W.Frag}{mg:Str->Option Value}{base h:Heap}
noncomputable def kX (fd:FuncData) (ps:List Str):Prop:=∀ us:List Value,us.length=ps.length->bindArgs fd ⟨us,[]⟩=pure (ps.zip us)
noncomputable def eh (K:PySem.W.Frag) (mg:Str->Option Value) (x:Str) (st:Stmt) (ps:List Str):Prop:=∃ f fd,cG K x x st f fd/\mg x=some (.ref f)/\kX fd ps
noncomputable def qa (K:PySem.W.Frag) (C:Addr) (m qual:Str) (st:Stmt) (ps:List Str):Prop:=∃ f fd,cG K m qual st f fd/\Meth K C m f/\kX fd ps
noncomputable def zT (K:PySem.W.Frag) (C:Addr) (qual:Str) (st:Stmt) (ps:List Str):Prop:=∃ f fd,cG K "__init__" qual st f fd/\Mk K C f/\kX fd ps
section
variable {x m qual:Str}{st:Stmt}{f C:Addr}{ps:List Str}{oc:Value}{od an:Option Addr}{osl:Array (Option Value)}{kV doc pm cdv ct:Value}
theorem iN (X:K.In h) (G:h.Ns mainGlobals mg) (a:PySem.W.nsIn K mainGlobals x=some (some (.ref f))) (l:K.lookup f=some ⟨oc,od,.func (PySem.W.fnOf x x (dC st) (cR st) (aq st) .none kV doc pm an cdv ct),osl⟩)
  (c:PySem.W.codeIn K cdv x=true) (k:PySem.W.keepIn K (.ref f)=true) (b:kX (PySem.W.fnOf x x (dC st) (cR st) (aq st) .none kV doc pm an cdv ct) ps):eh K mg x st ps :=
 ⟨_,_,qr l c k,PySem.W.mg_of X G a,b⟩
theorem ji (a:PySem.W.findIn K (.ref C) m=some (some (.ref f))) (i:PySem.W.isFn K (.ref f)=true) (l:K.lookup f=some ⟨oc,od,.func (PySem.W.fnOf m qual (dC st) (cR st) (aq st) .none kV doc pm an cdv ct),osl⟩)
  (c:PySem.W.codeIn K cdv qual=true) (k:PySem.W.keepIn K (.ref f)=true) (b:kX (PySem.W.fnOf m qual (dC st) (cR st) (aq st) .none kV doc pm an cdv ct) ps):qa K C m qual st ps :=
 ⟨_,_,qr l c k,⟨a,i,k⟩,b⟩
theorem mU (a:PySem.W.findIn K (.ref C) "__init__"=some (some (.ref f))) (i:PySem.W.isFn K (.ref f)=true) (l:K.lookup f=some ⟨oc,od,.func (PySem.W.fnOf "__init__" qual (dC st) (cR st) (aq st) .none kV doc pm an cdv ct),osl⟩)
  (c:PySem.W.codeIn K cdv qual=true) (k:PySem.W.keepIn K (.ref f)=true) (mk:PySem.W.makesIn K C=true) (kc:PySem.W.keepIn K (.ref C)=true) (b:kX (PySem.W.fnOf "__init__" qual (dC st) (cR st) (aq st) .none kV doc pm an cdv ct) ps):zT K C qual st ps :=
 ⟨_,_,qr l c k,⟨mk,a,i,kc⟩,b⟩
theorem eh.cV {CX:lT}{k:Nat}{sp:Sp} (t:eh K mg x st ps) (h:∀ f fd,cG K x x st f fd->aS P w K mg base CX k f fd ps sp):bM P w K mg base CX k x ps sp:=by
 obtain⟨f,fd,F,hm,hb⟩:=t;exact⟨f,fd,h f fd F,hm,F.kp,.all hb⟩
theorem qa.cV {CX:lT}{k:Nat}{sp:Sp} (t:qa K C m qual st ps) (cl:p_ K C) (h:∀ f fd,cG K m qual st f fd->aS P w K mg base CX k f fd ps sp):cz P w K mg base CX k C m ps sp:=by
 obtain⟨f,fd,F,hm,hb⟩:=t;exact⟨f,fd,h f fd F,cl,hm,.all hb⟩
theorem zT.cV {k:Nat}{sp:Sp} (t:zT K C qual st ps) (hx:mg x=some (.ref C)) (h:∀ f fd,cG K "__init__" qual st f fd->aS P w K mg base aQ k f fd ps sp):gg P w K mg base k x C ps sp:=by
 obtain⟨f,fd,F,hm,hb⟩:=t;exact⟨f,fd,h f fd F,hm,hx,.all hb⟩
end
theorem iY {x:Str}{C:Addr}{bmB:List Value}{newId:String} (I:K.In base) (hm:mg x=some (.ref C)) (q:PySem.W.excIn K C bmB newId=true):OwnCls x C bmB newId mg base:=by
 refine⟨hm,?_⟩;unfold PySem.W.excIn at q
 split at q
 case h_2=>cases q
 case h_1 dd c sl at_ =>
  split at q
  case h_2=>cases q
  case h_1 D tl s0 s1 s2 s3 nw s5 em es =>
   simp only[Bool.and_eq_true,beq_iff_eq,Bool.not_eq_true'] at q;obtain⟨⟨⟨⟨⟨e1,e2⟩,e3⟩,e4⟩,e5⟩,e6⟩:=q;subst e1 e2;obtain⟨c1,c2,c3,c4,c5,c6,c7,c8,c9,c10,c11⟩:=c;dsimp only at em e3 e5 e6;subst em e3
   cases sl with
   | mk l =>
    dsimp only at es;subst es;exact⟨tl,c4,c1,c5,c2,c6,c7,c8,c9,c10,dd,s0,s1,s2,s3,s5,_,I _ _ at_,.of_isNs (PySem.W.isNs_of_in I e5),PySem.W.nsMap_none_of_in I e5 e6,PySem.W.tail_of_in I e4⟩
theorem rA {A C:Addr}{b:Bool} (e1:PySem.W.subIn K (.ref C) (.type "BaseException")=some true) (e2:PySem.W.isClsIn K C=true) (e3:PySem.W.typeIn K (.ref C)=some (.type "type")) (e4:PySem.W.subIn K (.ref A) (.ref C)=some b):PySem.W.exmOne K (.ref A) (.ref C)=some b:=by
 unfold PySem.W.exmOne;rw[e1,if_pos (by decide)];show (if ((PySem.W.clsIn K C).isSome && PySem.W.typeIn K (.ref C) == some (.type "type"))=true then PySem.W.subIn K (.ref A) (.ref C) else none)=some b;rw[e3,show (PySem.W.clsIn K C).isSome=true from e2,if_pos (by decide),e4]
end
end Lw
end
section
namespace Lw
open PySem L2
noncomputable abbrev Nm:=List Nat
section
variable {β:Type}
noncomputable def ak (m:List (Nm×β)) (n:Nm):Option β:=(m.find? fun p=>decide (p.1=n)).map (·.2)
noncomputable def ed (m:List (Nm×β)) (n:Nm) (v:β):List (Nm×β):=if (m.any fun p=>decide (p.1=n))=true then m.map (fun p=>if p.1=n then (p.1,v) else p) else m++[(n,v)]
noncomputable def cZ (m:List (Nm×β)) (n:Nm):List (Nm×β):=m.filter fun p=>decide (p.1≠n)
noncomputable def aP (f:β->V) (m:List (Nm×β)):List (Key×V):=m.map fun p=>(.inr (tx p.1),f p.2)
theorem iK {a b:Nm}:((Sum.inr (tx a):Key)=Sum.inr (tx b))↔a=b:=by
 constructor
 ·intro h;exact ng.mp (Sum.inr.inj h)
 ·rintro rfl;rfl
theorem bR (f:β->V) (n:Nm):∀ m:List (Nm×β),du (aP f m) (.inr (tx n))=(ak m n).map f
 | []=>rfl
 | p::r=>by
  have ih:=bR f n r;unfold aP at ih ⊢;rw[List.map_cons];unfold ak at ih ⊢
  by_cases e:p.1=n
  ·rw[c_ (p:=(Sum.inr (tx p.1),f p.2)) (iK.mpr e),List.find?_cons_of_pos (by simp[e])]
   rfl
  ·rw[aV (p:=(Sum.inr (tx p.1),f p.2)) (fun z=>e (iK.mp z)),List.find?_cons_of_neg (by simp[e]),ih]
theorem BM (f:β->V) (n:Nm) (m:List (Nm×β)):((aP f m).any fun kv=>decide (kv.1=.inr (tx n)))=m.any fun p=>decide (p.1=n):=by
 unfold aP;rw[List.any_map];congr 1
 funext p
 simp only[Function.comp,decide_eq_decide];exact iK
theorem nj (f:β->V) (n:Nm) (v:β) (m:List (Nm×β)):putK (aP f m) (.inr (tx n)) (f v)=aP f (ed m n v):=by
 unfold putK ed;rw[BM]
 by_cases e:(m.any fun p=>decide (p.1=n))=true
 ·rw[if_pos e,if_pos e]
  unfold aP;rw[List.map_map,List.map_map];congr 1
  funext p
  simp only[Function.comp]
  by_cases h:p.1=n
  ·rw[if_pos h,if_pos (iK.mpr h)]
  ·rw[if_neg h,if_neg (fun z=>h (iK.mp z))]
 ·rw[if_neg e,if_neg e]
  unfold aP;rw[List.map_append]
  rfl
theorem jh (f:β->V) (n:Nm) (m:List (Nm×β)):iV (aP f m) (.inr (tx n))=aP f (cZ m n):=by
 unfold iV cZ aP;rw[List.filter_map];congr 1;congr 1
 funext p
 simp only[Function.comp,decide_eq_decide];exact not_congr iK
theorem cn (p:Nm×β) (r:List (Nm×β)) (j:Nm):ak (p::r) j=if p.1=j then some p.2 else ak r j:=by
 unfold ak
 by_cases e:p.1=j
 ·rw[if_pos e,List.find?_cons_of_pos (by simp[e])];rfl
 ·rw[if_neg e,List.find?_cons_of_neg (by simp[e])]
theorem pA (m:List (Nm×β)) (n:Nm):(m.any fun p=>decide (p.1=n))=(ak m n).isSome:=by
 induction m with
 | nil=>rfl
 | cons p r ih =>
  rw[List.any_cons,cn,ih]
  by_cases e:p.1=n
  ·simp[e]
  ·simp[e]
theorem tM (m:List (Nm×β)) (n j:Nm) (v:β):ak (m.map fun p=>if p.1=n then (p.1,v) else p) j=(ak m j).map fun x=>if j=n then v else x:=by
 induction m with
 | nil=>rfl
 | cons p r ih =>
  rw[List.map_cons,cn,cn,ih]
  by_cases e:p.1=n
  ·rw[if_pos e]
   by_cases ej:p.1=j
   ·have:j=n:=ej.symm.trans e
    simp[ej,this]
   ·simp[ej]
  ·rw[if_neg e]
   by_cases ej:p.1=j
   ·have:¬ j=n:=fun z=>e (ej.trans z)
    simp[ej,this]
   ·simp[ej]
theorem uq (m:List (Nm×β)) (n j:Nm) (v:β) (h:ak m n=none):ak (m++[(n,v)]) j=if j=n then some v else ak m j:=by
 induction m with
 | nil =>
  rw[List.nil_append,cn]
  by_cases e:n=j
  ·simp[e]
  ·have:¬ j=n:=fun z=>e z.symm
   simp[e,this]
 | cons p r ih =>
  rw[cn] at h
  by_cases e:p.1=n
  ·rw[if_pos e] at h;cases h
  ·rw[if_neg e] at h
   rw[List.cons_append,cn,cn,ih h]
   by_cases ej:p.1=j
   ·have:¬ j=n:=fun z=>e (ej.trans z)
    simp[ej,this]
   ·simp[ej]
theorem iw (m:List (Nm×β)) (n j:Nm) (v:β):ak (ed m n v) j=if j=n then some v else ak m j:=by
 unfold ed;rw[pA]
 cases e:ak m n with
 | none =>
  rw[if_neg (by simp)];exact uq m n j v e
 | some x =>
  rw[if_pos (show (some x).isSome=true from rfl),tM]
  by_cases ej:j=n
  ·subst ej;simp[e]
  ·simp[ej]
theorem gf (m:List (Nm×β)) (n j:Nm):ak (cZ m n) j=if j=n then none else ak m j:=by
 induction m with
 | nil=>unfold cZ ak;simp
 | cons p r ih =>
  unfold cZ at ih ⊢
  by_cases e:p.1=n
  ·rw[List.filter_cons_of_neg (by simp[e]),ih,cn]
   by_cases ej:j=n
   ·simp[ej]
   ·have:¬ p.1=j:=fun z=>ej (z.symm.trans e)
    simp[ej,this]
  ·rw[List.filter_cons_of_pos (by simp[e]),cn,cn,ih]
   by_cases ej:p.1=j
   ·have:¬ j=n:=fun z=>e (ej.trans z)
    simp[ej,this]
   ·simp[ej]
theorem jL (m:List (Nm×β)) (n:Nm) (v:β):(ed m n v).length<=m.length+1:=by
 unfold ed
 split
 ·rw[List.length_map];omega
 ·rw[List.length_append];simp
theorem iA (m:List (Nm×β)) (n:Nm):(cZ m n).length<=m.length:=List.length_filter_le _ _
theorem jI (f:β->V) (m:List (Nm×β)):(aP f m).length=m.length:=List.length_map _
theorem mem_keys (m:List (Nm×β)) (n:Nm):n∈m.map (·.1)↔(ak m n).isSome=true:=by
 rw[<- pA,List.any_eq_true,List.mem_map];constructor
 ·rintro ⟨p,hp,rfl⟩;exact⟨p,hp,by simp⟩
 ·rintro ⟨p,hp,e⟩;exact⟨p,hp,of_decide_eq_true e⟩
end
noncomputable abbrev Mp:=List (Nm×Nm)
noncomputable abbrev Nd:=List (Nm×Nat)
noncomputable def sV (x:Nm):V:=.str (tx x)
noncomputable def nV (i:Nat):V:=.int i
noncomputable def oV:Option Nm->V
 | none=>.non
 | some v=>sV v
theorem dW {a b:Option Nm}:oV a=oV b↔a=b:=by
 cases a <;> cases b <;> simp[oV,sV,ng]
theorem dw (o:Option Nm):((o.map sV).getD .non)=oV o:=by cases o <;> rfl
theorem gL (a b:Option Nm):A8 (oV a) (oV b)=true:=by cases a <;> cases b <;> rfl
noncomputable def bD (l:Nm):List Nm:=(List.range (l.length+1)).map fun k=>l.take k
noncomputable def bA (m:Mp) (n:Nm):Option Nm->Mp
 | none=>cZ m n
 | some v=>ed m n v
noncomputable def bW (m:Mp) (a:Nat×Nat×Nd) (b:Nm):Nat×Nat×Nd :=
 if (m.all fun p=>!b.isPrefixOf p.1)=true then (a.1,a.2.1,cZ a.2.2 b) else (a.1+1,a.2.1+1,ed a.2.2 b (a.2.1+1))
structure LR where
 made:Nat
 st:Nat
 m:Mp
 nd:Nd
noncomputable def bU (m:Mp) (nd:Nd) (st:Nat) (n:Nm) (to:Option Nm):LR :=
 if ak m n=to then ⟨0,st,m,nd⟩ else
  let r:=(bD n).foldl (bW (bA m n to)) (0,st,nd)
  ⟨r.1,r.2.1,bA m n to,r.2.2⟩
theorem b_ (m:Mp) (n:Nm) (to:Option Nm) (j:Nm):ak (bA m n to) j=if j=n then to else ak m j:=by
 cases to with
 | none=>exact gf m n j
 | some v=>exact iw m n j v
noncomputable def gU (m:Mp) (nd:Nd):Prop:=∀ b:Nm,(ak nd b).isSome=true↔∃ p∈m,b <+: p.1
noncomputable def cf (a1 a2 a3:Addr) (st:Nat) (a5:Addr):List (Key×V) :=
 [(.inr ("maps":Str),.ref a1),(.inr ("nodes":Str),.ref a2),(.inr ("parents":Str),.ref a3),(.inr ("stamp":Str),nV st),(.inr ("made":Str),.ref a5)]
theorem eI {a b:Str} (h:a≠b):¬ (Sum.inr a:Key)=Sum.inr b:=fun z=>h (Sum.inr.inj z)
section
variable (a1 a2 a3:Addr) (st:Nat) (a5:Addr)
theorem Dt:¬ ((Sum.inr ("maps":Str):Key)=Sum.inr ("nodes":Str)):=eI (by decide +kernel)
theorem C8:¬ ((Sum.inr ("maps":Str):Key)=Sum.inr ("parents":Str)):=eI (by decide +kernel)
theorem A1:¬ ((Sum.inr ("maps":Str):Key)=Sum.inr ("stamp":Str)):=eI (by decide +kernel)
theorem EB:¬ ((Sum.inr ("maps":Str):Key)=Sum.inr ("made":Str)):=eI (by decide +kernel)
theorem DB:¬ ((Sum.inr ("nodes":Str):Key)=Sum.inr ("parents":Str)):=eI (by decide +kernel)
theorem zO:¬ ((Sum.inr ("nodes":Str):Key)=Sum.inr ("stamp":Str)):=eI (by decide +kernel)
theorem CZ:¬ ((Sum.inr ("nodes":Str):Key)=Sum.inr ("made":Str)):=eI (by decide +kernel)
theorem AU:¬ ((Sum.inr ("parents":Str):Key)=Sum.inr ("stamp":Str)):=eI (by decide +kernel)
theorem CC:¬ ((Sum.inr ("parents":Str):Key)=Sum.inr ("made":Str)):=eI (by decide +kernel)
theorem Ag:¬ ((Sum.inr ("stamp":Str):Key)=Sum.inr ("made":Str)):=eI (by decide +kernel)
theorem bS:du (cf a1 a2 a3 st a5) (.inr ("maps":Str))=some (.ref a1):=c_ rfl
theorem gH:du (cf a1 a2 a3 st a5) (.inr ("nodes":Str))=some (.ref a2):=by
 unfold cf;rw[aV Dt];exact c_ rfl
theorem nB:du (cf a1 a2 a3 st a5) (.inr ("parents":Str))=some (.ref a3):=by
 unfold cf;rw[aV C8,aV DB];exact c_ rfl
theorem fi:du (cf a1 a2 a3 st a5) (.inr ("stamp":Str))=some (nV st):=by
 unfold cf;rw[aV A1,aV zO,aV AU];exact c_ rfl
theorem eQ:du (cf a1 a2 a3 st a5) (.inr ("made":Str))=some (.ref a5):=by
 unfold cf;rw[aV EB,aV CZ,aV CC,aV Ag];exact c_ rfl
theorem ir (st':Nat):putK (cf a1 a2 a3 st a5) (.inr ("stamp":Str)) (nV st')=cf a1 a2 a3 st' a5:=by
 unfold putK cf;rw[if_pos (by simp)];simp only[List.map_cons,List.map_nil,if_neg A1,if_neg zO,if_neg AU,if_pos,if_neg (Ne.symm Ag)]
end
end Lw
end
namespace Lw
open PySem L2 PyProof.Rows
local macro_rules|`(tactic| walk_at "rd")=>`(tactic| simp only[↓B_,↓Cb,↓xo,↓Bt,↓AY,↓Ec,↓Ej,↓C5,↓GU,↓Ht,↓GW,↓Hi,↓Ha,↓Hl,↓FE,↓Fd,↓F0,↓FH,↓FU,↓GA,↓E8,↓Ga,↓Gp,↓Hr,↓FN,↓nN,↓jZ,zH,B8,DN,GN,zB,xR,oG,kH,tC,Co,rI,yc,rU,EY,wI,tB,BL,uU,xf,wD,sR,nS,Cs,iZ,rp,wU,jZ,nN,wt,sk,Ao,AX,qk,vB,qm,v_,uB,Dj,AW,Gw,Fg,nQ,zU,Fj,Bv,BG,BK,ni,vG,uj,Bm,zw,qK,uY,jV,xt,L2.start,pick,nJ,rS,Dq,
 D9,GJ,Ep,yV,Cy,zh,GH,F6,nL,AH,Ax,sv,Cz,Bh,Al,CG,D2,DT,BW,CJ,uG,zl,D0,pJ,pQ,vd,Eh,Am,rJoin,ze,DH,xr,DW,Ef,
 List.map_cons,List.map_nil,List.length_cons,List.length_nil,List.replicate_zero,List.append_nil,List.nil_append,List.cons_append,List.getElem?_cons_zero,List.getElem?_cons_succ,List.set_cons_zero,List.set_cons_succ,Option.some.injEq,V.int.injEq,V.str.injEq,V.ref.injEq,V.bl.injEq,List.cons.injEq,reduceCtorEq,
 and_true,true_and,exists_eq_left',exists_eq_left,exists_eq_right,exists_and_left,exists_const,if_true,if_false,Nat.reduceSub,List.replicate,Nat.sub_self,Nat.reduceAdd])
seal PE oC PS PA PT Ci PG zc PI CM
variable {P:Program}{w:World}{K:PySem.W.Frag}{mg:Str->Option Value}{base:Heap}
section
noncomputable def top (i:Nat):Stmt:=PySem.Challenge.pw_eldermap_k06_whole_joined.main.body.getD i (.Pass ⟨0,0,0,0⟩)
section
noncomputable def isNm (l:List Nat):Bool:=l.all fun c=>decide (97<=c/\c<=122)
noncomputable abbrev yG:Stmt:=top 45
theorem CT:az ["_law_name"] ["_law_name"] (aq yG):=by walk_at "s"
noncomputable def vM:Sp:=fun vs H Q _=>∃ l:List Nat,vs=[.str (tx l)]/\l.length<=1000/\∀ H',Kp H H' []->Q (.bl (isNm l)) H'
theorem mP:(["_law_sign"]:List Str).Nodup:=by decide +kernel
theorem GY:(Str.ofString "abcdefghijklmnopqrstuvwxyz").cps.toList=(List.range 26).map (·+97):=by decide +kernel
theorem B5 {f:Addr}{fd:FuncData} (B:Bl mg) (F:cG K "_law_is_name" "_law_is_name" yG f fd):aS P w K mg base aQ 1 f fd ["_law_name"] vM:=by
 have sc:=CT;walk_at "f"
 ·obtain⟨x,rfl,_⟩:=h
  rfl
 ·obtain⟨l,rfl,hx,k⟩:=h
  have hu0:=hr.cu;have hs:=sizeLine_eq;refine⟨_,(ao (aw (g_ (wV hu0) (cx (N':=["_law_sign"]) (ix:=[none]) rfl ?S (qO (pv 0)) (fun cl C fp s H=>(aM (i:=0) mP rfl (by walk_at "o"))) (fun cl C fp s H=>(dA (aF nM (pv 0) ar (by with_unfolding_all rfl)))) (fun cl C fp s H=>(pv 0))) (aT ae) (aK _)))),?_⟩
  case S=>exact kG.is (N:=["_law_name"]) (osc:=aq yG) (by decide +kernel)
  walk_at "rd";refine lM (fun c=>if 97<=c/\c<=122 then none else some (sgn c)) (by omega) (fun c hc R R' h1 h2=>?_) ?_
  ·refine⟨Wk.set rfl,?_⟩
   walk_at "rd";refine⟨⟨#[c]⟩,rfl,?_⟩;rw[show (!!(Builtin.Str.occurrences (Str.ofString "abcdefghijklmnopqrstuvwxyz") ⟨#[c]⟩ 0 (Str.ofString "abcdefghijklmnopqrstuvwxyz").length 1).isEmpty)=!decide (97<=c/\c<=122) by
    rw[StrLaws.found_one,GY];congr 1;rw[decide_eq_decide];simp only[List.mem_map,List.mem_range];constructor
    ·rintro ⟨a,ha,rfl⟩;omega
    ·intro h;exact⟨c - 97,by omega,by omega⟩]
   by_cases hcc:97<=c/\c<=122
   ·rw[if_neg (by simp[hcc])];exact h2 (if_pos hcc)
   ·rw[if_pos (by simp[hcc])];exact h1 _ (if_neg hcc)
  ·intro d hd
   refine⟨Nat.zero_le _,fun p hp=>⟨_,aO.of (by rw[ah (ai (aa) hp),aa]),aO.of aa,?_⟩⟩;have e:decide (l.filterMap (fun c=>if 97<=c/\c<=122 then none else some (sgn c))=[])=isNm l:=by
    rw[Bool.eq_iff_iff,decide_eq_true_eq,List.filterMap_eq_nil_iff];unfold isNm;rw[List.all_eq_true];refine⟨fun h c hc=>?_,fun h c hc=>?_⟩
    ·have:=h c hc
     by_cases q:97<=c/\c<=122
     ·exact decide_eq_true q
     ·rw[if_neg q] at this;cases this
    ·exact if_pos (of_decide_eq_true (h c hc))
   rw[e];have hp':H p=none:=by
    cases q:H p with
    | none=>rfl
    | some o=>rw[ah (ai q hd),q] at hp;cases hp
   exact k _ (((Kp.refl H []).new hd).new hp')
noncomputable abbrev yJ:Stmt:=top 40
theorem D6:az ["_law_name"] ["_law_name"] (aq yJ):=by walk_at "s"
theorem ud:(["_law_k","_law_name"]:List Str).Nodup:=by decide +kernel
noncomputable def rL:Sp:=fun vs H Q _=>∃ l:List Nat,vs=[.str (tx l)]/\l.length<=1000/\∀ p,H p=none->Q (.ref p) (upd H p (.lst ((bD l).map fun b=>.str (tx b))))
theorem A6 {f:Addr}{fd:FuncData} (B:Bl mg) (F:cG K "_law_beginnings_of" "_law_beginnings_of" yJ f fd):aS P w K mg base aQ 1 f fd ["_law_name"] rL:=by
 have sc:=D6;walk_at "f"
 ·obtain⟨x,rfl,_⟩:=h
  rfl
 ·obtain⟨l,rfl,hx,k⟩:=h
  have hs:=sizeLine_eq;refine⟨_,(ao (aw (cx (N':=["_law_k","_law_name"]) (ix:=[none,some 0]) rfl ?S (iF rfl B.rng (jw (aA dO (pf oZ rfl B.len boot_len (jw (pv 0) ae)) aj) ae)) (fun cl C fp s H=>(aM (i:=0) ud rfl (by walk_at "o"))) (fun cl C fp s H=>di) (fun cl C fp s H=>(dq qB (pv 1) fe (dD (pv 0))))))),?_⟩
  case S=>exact kG.is (N:=["_law_name"]) (osc:=aq yJ) (by decide +kernel)
  walk_at "rd";have hl:=fz l;refine⟨_,⟨by omega,rfl⟩,by omega,by omega,?_⟩;rw[hl,show ((l.length:Int)+1).toNat=l.length+1 by omega];refine pe (fun i=>some (.str (tx (l.take i)))) (by omega) (fun i hi R R' h1 h2=>?_) ?_
  ·refine⟨Wk.set rfl,?_⟩
   walk_at "rd";rw[jB (by omega)];exact⟨by rw[fz,List.length_take];omega,h1 _ rfl⟩
  ·intro d hd
   have e:(List.range (l.length+1)).filterMap (fun i=>some (V.str (tx (l.take i))))=(bD l).map fun b=>V.str (tx b):=by
    unfold bD;rw[List.filterMap_eq_map',List.map_map]
    rfl
   rw[e];exact k d hd
end
end
section
section
noncomputable abbrev ym:Stmt:=top 41
theorem CO:az ["_law_hall","_law_values","_law_nodes","_law_name","_law_to","_law_made","_law_part"] ["_law_hall","_law_values","_law_nodes","_law_name","_law_to"] (aq ym):=by walk_at "s"
theorem pE:(["_law_one","_law_part"]:List Str).Nodup:=by decide +kernel
noncomputable def so:Sp:=fun vs H Q _=>∃ (h v q a1 a2 a3 a5:Addr) (m:Mp) (nd:Nd) (st:Nat) (n:Nm) (to:Option Nm),vs=[.ref h,.ref v,.ref q,sV n,oV to] /\
 H h=some (.dK (cf a1 a2 a3 st a5))/\H v=some (.dK (aP sV m))/\H q=some (.dK (aP nV nd))/\h≠v/\h≠q/\v≠q/\n.length<=1000/\m.length<=1000/\nd.length<=1000000 /\
 (ak m n≠to->∀ b∈bD n,((bA m n to).all fun p=>!b.isPrefixOf p.1)=true->(ak nd b).isSome=true) /\
 ∀ H',H' h=some (.dK (cf a1 a2 a3 (bU m nd st n to).st a5))->H' v=some (.dK (aP sV (bU m nd st n to).m))->H' q=some (.dK (aP nV (bU m nd st n to).nd))->Kp H H' [h,v,q]->Q (nV (bU m nd st n to).made) H'
theorem jW (n:Nm) (i:Nat) (b:Nm) (h:(bD n)[i]?=some b):b=n.take i/\i<=n.length:=by
 unfold bD at h;rw[List.getElem?_map] at h
 cases e:(List.range (n.length+1))[i]? with
 | none=>rw[e] at h;cases h
 | some j =>
  rw[e] at h;obtain⟨hi,hj⟩:=List.getElem?_eq_some_iff.mp e;rw[List.length_range] at hi;rw[List.getElem_range] at hj;subst hj;exact⟨(Option.some.inj h).symm,by omega⟩
theorem oz (n:Nm) (i:Nat) (hi:i<=n.length):n.take i∉(bD n).take i:=by
 intro hm;obtain⟨j,hj,e⟩:=List.getElem_of_mem hm;rw[List.length_take] at hj;have hj':j<i:=by omega
 have e2:(bD n)[j]?=some (n.take i):=by
  rw[<- e,List.getElem_take];exact List.getElem?_eq_getElem _
 obtain⟨e3,_⟩:=jW n j _ e2;have:=congrArg List.length e3;rw[List.length_take,List.length_take] at this;omega
theorem gX (n:Nm):(bD n).length=n.length+1:=by unfold bD;simp
theorem dZ (M:Mp) (b:Nm):∀ (l:List Nm) (a:Nat×Nat×Nd),b∉l->ak (l.foldl (bW M) a).2.2 b=ak a.2.2 b
 | [],_,_=>rfl
 | c::l,a,h=>by
  rw[List.foldl_cons,dZ M b l _ fun z=>h (List.mem_cons_of_mem _ z)];have hc:¬ b=c:=fun z=>h (by rw[z];exact List.mem_cons_self);unfold bW
  split
  ·rw[gf,if_neg hc]
  ·rw[iw,if_neg hc]
theorem iu (M:Mp):∀ (l:List Nm) (a:Nat×Nat×Nd),(l.foldl (bW M) a).2.2.length<=a.2.2.length+l.length
 | [],_=>Nat.le_refl _
 | c::l,a=>by
  rw[List.foldl_cons,List.length_cons];refine Nat.le_trans (iu M l _) ?_;unfold bW
  split
  ·have:=iA a.2.2 c
   dsimp only;omega
  ·have:=jL a.2.2 c (a.2.1+1)
   dsimp only;omega
theorem yT (m:Mp):(aP sV m).map (fun kv=>kV kv.1)=m.map fun p=>V.str (tx p.1):=by
 unfold aP;rw[List.map_map]
 rfl
noncomputable def xg (b:Nm):V->Option V
 | .str y=>if b.isPrefixOf y.cps.toList=true then some (.str y) else none
 | _=>none
theorem f_ (b y:Nm):xg b (.str (tx y))=if b.isPrefixOf y=true then some (.str (tx y)) else none:=by
 show (if b.isPrefixOf (tx y).cps.toList=true then _ else _)=_;rw[dM]
theorem jx (b:Nm) (m:Mp):(m.map fun p=>V.str (tx p.1)).filterMap (xg b)=[]↔(m.all fun p=>!b.isPrefixOf p.1)=true:=by
 rw[List.filterMap_eq_nil_iff,List.all_eq_true];constructor
 ·intro h p hp
  have:=h _ (List.mem_map.mpr ⟨p,hp,rfl⟩);rw[f_] at this
  cases e:b.isPrefixOf p.1 with
  | true=>rw[e,if_pos rfl] at this;cases this
  | false=>rfl
 ·intro h y hy
  obtain⟨p,hp,rfl⟩:=List.mem_map.mp hy;have:=h p hp;rw[f_]
  cases e:b.isPrefixOf p.1 with
  | true=>rw[e] at this;cases this
  | false=>rfl
theorem _root_.L2.bE.k' {H:Hp}{a:Addr}{kvs:List (Key×V)}{k:Key}{o:Option V} (e:H a=some (.dK kvs)) (h:du kvs k=o):bE H a (kV k) o:=h ▸ bE.k e
structure DD (H:Hp) (h v q p a1 a2 a3 a5:Addr) (n:Nm) (M:Mp) (to:V) (acc:Nat×Nat×Nd) (σ:L2.St) (H2:Hp):Prop where
 ls:∃ part,σ=[some (.ref h),some (.ref v),some (.ref q),some (sV n),some to,some (nV acc.1),part]
 lp:H2 p=some (.lst ((bD n).map fun b=>V.str (tx b)))
 lh:H2 h=some (.dK (cf a1 a2 a3 acc.2.1 a5))
 lv:H2 v=some (.dK (aP sV M))
 lq:H2 q=some (.dK (aP nV acc.2.2))
 kp:Kp H H2 [h,v,q]
theorem BX {f:Addr}{fd:FuncData} (B:Bl mg) (c_law_beginnings_of:bM P w K mg base aQ 1 "_law_beginnings_of" ["_law_name"] rL) (F:cG K "_law_set" "_law_set" ym f fd) :
  aS P w K mg base aQ 2 f fd ["_law_hall","_law_values","_law_nodes","_law_name","_law_to"] so:=by
 have sc:=CO;walk_at "f"
 ·obtain⟨_,_,_,_,_,_,_,_,_,_,_,_,rfl,_⟩:=h
  rfl
 ·obtain⟨h,v,q,a1,a2,a3,a5,m,nd,st,n,to,rfl,hh,hv,hq,n1,n2,n3,l1,l2,l3,hpop,k⟩:=h
  have hu0:=hr.cu;have hu:=dk hr;have hs:=sizeLine_eq;refine⟨_,(af (a_ (aF dj (bV hu (pv 1) (pv 3) ⟨rfl,rfl,rfl,rfl⟩) (pv 4) (aK _)) (ao (aw aj)) aJ)
   (af (a_ (da (fh (pv 4))) (ao (ba (oy (pv 1) (pv 3) ⟨rfl,rfl,rfl,rfl⟩))) (ao (jv hu (pv 1) (pv 3) (pv 4) rfl)))
   (af (au (i:=5) sc.nd rfl (by walk_at "o") aj)
   (af (dt PassesOwn.never rfl (bq K (bh c_law_beginnings_of hr (ag (pv 3) ae))) (aM (i:=6) sc.nd rfl (by walk_at "o")) (ao (a_ (aF (yC K hu0) (cx (N':=["_law_one","_law_part"]) (ix:=[none,some 6]) rfl ?S1 (bq K (cS (cY rfl) rfl B.lst boot_list (ag (pv 1) ae))) (fun cl C fp s H=>(aM (i:=0) pE rfl (by walk_at "o"))) (fun cl C fp s H=>(dA (cK (dF K PySem.F.plainAttrs_str PySem.F.slot_str_startswith PySem.F.type_str_startswith kO (pv 0) (ag (pv 1) ae))))) (fun cl C fp s H=>(pv 0))) (aT ae) (aK _)) (ao (ba (oy (pv 2) (pv 6) ⟨rfl,rfl,rfl,rfl⟩))) (af (au (i:=5) sc.nd rfl (by walk_at "o") (aA dO (pv 5) aj))
     (af (jv hu (pv 0) ar (aA dO (bu hu (pv 0) ar (fun _ _=>rfl)) aj) rfl)
     (ao (jv hu (pv 2) (pv 6) (bu hu (pv 0) ar (fun _ _=>rfl)) rfl)))))))
   (ao (aw (pv 5))))))),?_⟩
  case S1=>exact kG.is (N:=["_law_hall","_law_values","_law_nodes","_law_name","_law_to","_law_made","_law_part"]) (osc:=aq ym) (by decide +kernel)
  walk_at "rd";refine⟨.inl ⟨_,.inl hv⟩,_,bE.k (k:=.inr (tx n)) hv,?_⟩;rw[bR,dw];refine⟨gL _ _,?_⟩
  by_cases e:ak m n=to
  ·have e2:bU m nd st n to=⟨0,st,m,nd⟩:=by unfold bU;rw[if_pos e]
   rw[e2] at k;rw[if_pos (by simp[e])];exact k H hh hv hq (Kp.refl _ _)
  ·have e2:bU m nd st n to=⟨((bD n).foldl (bW (bA m n to)) (0,st,nd)).1,((bD n).foldl (bW (bA m n to)) (0,st,nd)).2.1,bA m n to,((bD n).foldl (bW (bA m n to)) (0,st,nd)).2.2⟩:=by unfold bU;rw[if_neg e]
   rw[e2] at k;have hpop:=hpop e;rw[if_neg (by simp[dW,e])];have M1:∀ o:HO,Kp H (upd H v o) [h,v,q]:=fun o=>(Kp.refl H _).set (by simp);have E1:∀ o:HO,upd H v o h=some (.dK (cf a1 a2 a3 st a5))/\upd H v o q=some (.dK (aP nV nd)):=fun o=>⟨by rw[ah n1];exact hh,by rw[ah (Ne.symm n3)];exact hq⟩;have M2:(bA m n to).length<=1001:=by
    cases to with
    | none=>have:=iA m n;show (cZ m n).length<=_;omega
    | some x=>have:=jL m n x;show (ed m n x).length<=_;omega
   cases to with
   | none =>
    rw[if_pos (by simp[oV])];have hsome:∃ x,ak m n=some x:=by
     cases q:ak m n with
     | none=>exact absurd q e
     | some x=>exact⟨x,rfl⟩
    obtain⟨x,hx⟩:=hsome;refine⟨.inl ⟨_,.inl hv⟩,_,hv,.inr (tx n),rfl,sV x,by rw[bR,hx];rfl,?_⟩;rw[jh];obtain⟨hh1,hq1⟩:=E1 (.dK (aP sV (cZ m n)));have kp1:=M1 (.dK (aP sV (cZ m n)));have hv1:upd H v (.dK (aP sV (cZ m n))) v=some (.dK (aP sV (bA m n none))):=aa;generalize upd H v (.dK (aP sV (cZ m n)))=H1 at hh1 hq1 kp1 hv1 ⊢;refine⟨n,rfl,l1,fun p hp=>⟨p,rfl,⟨_,aO.of aa⟩,?_⟩⟩;have pne:∀ {a:Addr}{o:HO},H1 a=some o->a≠p:=fun ha=>ai ha hp;refine cq (K:=K) (a:=p) (xs:=(bD n).map fun b=>V.str (tx b)) (fun i σ H2=>DD H h v q p a1 a2 a3 a5 n (bA m n none) (oV none) (((bD n).take i).foldl (bW (bA m n none)) (0,st,nd)) σ H2)
     ⟨⟨none,rfl⟩,aa,by rw[ah (pne hh1)];exact hh1,by rw[ah (pne hv1)];exact hv1,by rw[ah (pne hq1)];exact hq1,kp1.new (kp1.free hp (by
      simp only[List.mem_cons,List.not_mem_nil,or_false,not_or];exact⟨Ne.symm (pne hh1),Ne.symm (pne hv1),Ne.symm (pne hq1)⟩))⟩
     (fun i σ H2 I=>aO.of I.lp) ?_ ?_
    ·rintro i y σ H2 hi ⟨⟨part,rfl⟩,hp2,hh2,hv2,hq2,kp2⟩
     generalize hacc:((bD n).take i).foldl (bW (bA m n none)) (0,st,nd)=acc at hh2 hq2 ⊢;rw[List.getElem?_map] at hi
     cases eb:(bD n)[i]? with
     | none=>rw[eb] at hi;cases hi
     | some bb =>
      rw[eb] at hi;have hy:y=V.str (tx bb):=(Option.some.inj hi).symm;subst hy;obtain⟨eb2,hin⟩:=jW n i bb eb;have enext:((bD n).take (i+1)).foldl (bW (bA m n none)) (0,st,nd)=bW (bA m n none) acc bb:=by
       rw[List.take_add_one,eb,List.foldl_append,hacc]
       rfl
      walk_at "rd";refine⟨_,.inl hv2,fun p1 hp1=>⟨⟨_,aO.of aa⟩,?_⟩⟩;rw[yT];refine dJ (xs:=(bA m n none).map fun p=>V.str (tx p.1)) (xg bb) (aO.of aa) (by rw[List.length_map];omega) (fun y hy R R' g1 g2=>?_) ?_
      ·obtain⟨pp,hpp,rfl⟩:=List.mem_map.mp hy
       refine⟨Wk.set rfl,?_⟩;walk_at "rd";refine⟨rfl,?_⟩;rw[jC]
       cases eq:bb.isPrefixOf pp.1 with
       | true=>rw[if_pos rfl];exact g1 _ (by rw[f_,eq];rfl)
       | false=>rw[if_neg Bool.false_ne_true];exact g2 (by rw[f_,eq];rfl)
      ·intro d hd
       refine⟨Nat.zero_le _,fun p2 hpp2=>⟨_,aO.of (by rw[ah (ai aa hpp2),aa]),aO.of aa,?_⟩⟩;have F4:∀ a o,H2 a=some o->upd (upd (upd H2 p1 (.lst ((bA m n none).map fun p=>V.str (tx p.1)))) d (.lst (((bA m n none).map fun p=>V.str (tx p.1)).filterMap (xg bb)))) p2 (.lst []) a=some o:=fun a o ha=>by
        have x1:upd H2 p1 (.lst ((bA m n none).map fun p=>V.str (tx p.1))) a=some o:=by rw[ah (ai ha hp1)];exact ha
        have x2:upd (upd H2 p1 (.lst ((bA m n none).map fun p=>V.str (tx p.1)))) d (.lst (((bA m n none).map fun p=>V.str (tx p.1)).filterMap (xg bb))) a=some o:=by rw[ah (ai x1 hd)];exact x1
        rw[ah (ai x2 hpp2)];exact x2
       generalize upd (upd (upd H2 p1 (.lst ((bA m n none).map fun p=>V.str (tx p.1)))) d (.lst (((bA m n none).map fun p=>V.str (tx p.1)).filterMap (xg bb)))) p2 (.lst [])=H4 at F4 ⊢;have hp4:=F4 _ _ hp2;have hh4:=F4 _ _ hh2;have hv4:=F4 _ _ hv2;have hq4:=F4 _ _ hq2;have kp4:Kp H H4 [h,v,q]:=fun c o e n=>F4 _ _ (kp2 c o e n);have pq:p≠q:=Ne.symm (pne hq1);have ph:p≠h:=Ne.symm (pne hh1);have hl2:acc.2.2.length<=nd.length+(n.length+1):=by
        have:=iu (bA m n none) ((bD n).take i) (0,st,nd);rw[hacc,List.length_take,gX] at this;have e0:((0,st,nd):Nat×Nat×Nd).2.2.length=nd.length:=rfl;omega
       by_cases em:((bA m n none).all fun p=>!bb.isPrefixOf p.1)=true
       ·have estep:bW (bA m n none) acc bb=(acc.1,acc.2.1,cZ acc.2.2 bb):=by unfold bW;rw[if_pos em]
        have hsome:∃ z,ak acc.2.2 bb=some z:=by
         rw[<- hacc,dZ _ _ _ _ (by rw[eb2];exact oz n i hin)];have:=hpop bb (List.mem_of_getElem? eb) em;exact Option.isSome_iff_exists.mp this
        obtain⟨z,hz⟩:=hsome;rw[if_pos (decide_eq_true ((jx _ _).mpr em))];refine⟨.inl ⟨_,.inl hq4⟩,_,hq4,.inr (tx bb),rfl,nV z,by rw[bR,hz];rfl,?_⟩;rw[jh];rw[enext,estep];exact⟨⟨_,rfl⟩,by rw[ah pq];exact hp4,by rw[ah n2];exact hh4,by rw[ah n3];exact hv4,aa,kp4.set (by simp)⟩
       ·have estep:bW (bA m n none) acc bb=(acc.1+1,acc.2.1+1,ed acc.2.2 bb (acc.2.1+1)):=by unfold bW;rw[if_neg em]
        rw[if_neg (fun z=>em ((jx _ _).mp (of_decide_eq_true z)))];refine⟨acc.1,rfl,_,bE.k' (k:=.inr ("stamp":Str)) hh4 (fi _ _ _ _ _),acc.2.1,rfl,_,kK.k (k:=.inr ("stamp":Str)) hh4 (by show 5<sizeLine;omega),_,bE.k' (k:=.inr ("stamp":Str)) aa (by rw[show (V.int ((acc.2.1:Int)+1))=nV (acc.2.1+1) from rfl,ir];exact fi _ _ _ _ _),_,kK.k (k:=.inr (tx bb)) (by rw[ah (Ne.symm n2)];exact hq4) (by rw[jI];omega),?_⟩;rw[nj,enext,estep];refine⟨⟨_,rfl⟩,by rw[ah pq,ah ph];exact hp4,?_,by rw[ah n3,ah (Ne.symm n1)];exact hv4,aa,(kp4.set (by simp)).set (by simp)⟩;rw[ah n2,aa,show (V.int ((acc.2.1:Int)+1))=nV (acc.2.1+1) from rfl,ir]
    ·rintro σ H2 ⟨⟨part,rfl⟩,hp2,hh2,hv2,hq2,kp2⟩
     rw[List.length_map,List.take_length] at hh2 hq2 ⊢;walk_at "rd";exact k H2 hh2 hv2 hq2 kp2
   | some x =>
    rw[if_neg (by simp[oV,sV])];refine⟨_,kK.k (k:=.inr (tx n)) hv (by rw[jI];omega),?_⟩;show rL _ (upd H v (.dK (putK (aP sV m) (.inr (tx n)) (sV x)))) _ _;rw[nj];obtain⟨hh1,hq1⟩:=E1 (.dK (aP sV (ed m n x)));have kp1:=M1 (.dK (aP sV (ed m n x)));have hv1:upd H v (.dK (aP sV (ed m n x))) v=some (.dK (aP sV (bA m n (some x)))):=aa;generalize upd H v (.dK (aP sV (ed m n x)))=H1 at hh1 hq1 kp1 hv1 ⊢;refine⟨n,rfl,l1,fun p hp=>⟨p,rfl,⟨_,aO.of aa⟩,?_⟩⟩;have pne:∀ {a:Addr}{o:HO},H1 a=some o->a≠p:=fun ha=>ai ha hp;refine cq (K:=K) (a:=p) (xs:=(bD n).map fun b=>V.str (tx b)) (fun i σ H2=>DD H h v q p a1 a2 a3 a5 n (bA m n (some x)) (oV (some x)) (((bD n).take i).foldl (bW (bA m n (some x))) (0,st,nd)) σ H2)
     ⟨⟨none,rfl⟩,aa,by rw[ah (pne hh1)];exact hh1,by rw[ah (pne hv1)];exact hv1,by rw[ah (pne hq1)];exact hq1,kp1.new (kp1.free hp (by
      simp only[List.mem_cons,List.not_mem_nil,or_false,not_or];exact⟨Ne.symm (pne hh1),Ne.symm (pne hv1),Ne.symm (pne hq1)⟩))⟩
     (fun i σ H2 I=>aO.of I.lp) ?_ ?_
    ·rintro i y σ H2 hi ⟨⟨part,rfl⟩,hp2,hh2,hv2,hq2,kp2⟩
     generalize hacc:((bD n).take i).foldl (bW (bA m n (some x))) (0,st,nd)=acc at hh2 hq2 ⊢;rw[List.getElem?_map] at hi
     cases eb:(bD n)[i]? with
     | none=>rw[eb] at hi;cases hi
     | some bb =>
      rw[eb] at hi;have hy:y=V.str (tx bb):=(Option.some.inj hi).symm;subst hy;obtain⟨eb2,hin⟩:=jW n i bb eb;have enext:((bD n).take (i+1)).foldl (bW (bA m n (some x))) (0,st,nd)=bW (bA m n (some x)) acc bb:=by
       rw[List.take_add_one,eb,List.foldl_append,hacc]
       rfl
      walk_at "rd";refine⟨_,.inl hv2,fun p1 hp1=>⟨⟨_,aO.of aa⟩,?_⟩⟩;rw[yT];refine dJ (xs:=(bA m n (some x)).map fun p=>V.str (tx p.1)) (xg bb) (aO.of aa) (by rw[List.length_map];omega) (fun y hy R R' g1 g2=>?_) ?_
      ·obtain⟨pp,hpp,rfl⟩:=List.mem_map.mp hy
       refine⟨Wk.set rfl,?_⟩;walk_at "rd";refine⟨rfl,?_⟩;rw[jC]
       cases eq:bb.isPrefixOf pp.1 with
       | true=>rw[if_pos rfl];exact g1 _ (by rw[f_,eq];rfl)
       | false=>rw[if_neg Bool.false_ne_true];exact g2 (by rw[f_,eq];rfl)
      ·intro d hd
       refine⟨Nat.zero_le _,fun p2 hpp2=>⟨_,aO.of (by rw[ah (ai aa hpp2),aa]),aO.of aa,?_⟩⟩;have F4:∀ a o,H2 a=some o->upd (upd (upd H2 p1 (.lst ((bA m n (some x)).map fun p=>V.str (tx p.1)))) d (.lst (((bA m n (some x)).map fun p=>V.str (tx p.1)).filterMap (xg bb)))) p2 (.lst []) a=some o:=fun a o ha=>by
        have x1:upd H2 p1 (.lst ((bA m n (some x)).map fun p=>V.str (tx p.1))) a=some o:=by rw[ah (ai ha hp1)];exact ha
        have x2:upd (upd H2 p1 (.lst ((bA m n (some x)).map fun p=>V.str (tx p.1)))) d (.lst (((bA m n (some x)).map fun p=>V.str (tx p.1)).filterMap (xg bb))) a=some o:=by rw[ah (ai x1 hd)];exact x1
        rw[ah (ai x2 hpp2)];exact x2
       generalize upd (upd (upd H2 p1 (.lst ((bA m n (some x)).map fun p=>V.str (tx p.1)))) d (.lst (((bA m n (some x)).map fun p=>V.str (tx p.1)).filterMap (xg bb)))) p2 (.lst [])=H4 at F4 ⊢;have hp4:=F4 _ _ hp2;have hh4:=F4 _ _ hh2;have hv4:=F4 _ _ hv2;have hq4:=F4 _ _ hq2;have kp4:Kp H H4 [h,v,q]:=fun c o e n=>F4 _ _ (kp2 c o e n);have pq:p≠q:=Ne.symm (pne hq1);have ph:p≠h:=Ne.symm (pne hh1);have hl2:acc.2.2.length<=nd.length+(n.length+1):=by
        have:=iu (bA m n (some x)) ((bD n).take i) (0,st,nd);rw[hacc,List.length_take,gX] at this;have e0:((0,st,nd):Nat×Nat×Nd).2.2.length=nd.length:=rfl;omega
       by_cases em:((bA m n (some x)).all fun p=>!bb.isPrefixOf p.1)=true
       ·have estep:bW (bA m n (some x)) acc bb=(acc.1,acc.2.1,cZ acc.2.2 bb):=by unfold bW;rw[if_pos em]
        have hsome:∃ z,ak acc.2.2 bb=some z:=by
         rw[<- hacc,dZ _ _ _ _ (by rw[eb2];exact oz n i hin)];have:=hpop bb (List.mem_of_getElem? eb) em;exact Option.isSome_iff_exists.mp this
        obtain⟨z,hz⟩:=hsome;rw[if_pos (decide_eq_true ((jx _ _).mpr em))];refine⟨.inl ⟨_,.inl hq4⟩,_,hq4,.inr (tx bb),rfl,nV z,by rw[bR,hz];rfl,?_⟩;rw[jh];rw[enext,estep];exact⟨⟨_,rfl⟩,by rw[ah pq];exact hp4,by rw[ah n2];exact hh4,by rw[ah n3];exact hv4,aa,kp4.set (by simp)⟩
       ·have estep:bW (bA m n (some x)) acc bb=(acc.1+1,acc.2.1+1,ed acc.2.2 bb (acc.2.1+1)):=by unfold bW;rw[if_neg em]
        rw[if_neg (fun z=>em ((jx _ _).mp (of_decide_eq_true z)))];refine⟨acc.1,rfl,_,bE.k' (k:=.inr ("stamp":Str)) hh4 (fi _ _ _ _ _),acc.2.1,rfl,_,kK.k (k:=.inr ("stamp":Str)) hh4 (by show 5<sizeLine;omega),_,bE.k' (k:=.inr ("stamp":Str)) aa (by rw[show (V.int ((acc.2.1:Int)+1))=nV (acc.2.1+1) from rfl,ir];exact fi _ _ _ _ _),_,kK.k (k:=.inr (tx bb)) (by rw[ah (Ne.symm n2)];exact hq4) (by rw[jI];omega),?_⟩;rw[nj,enext,estep];refine⟨⟨_,rfl⟩,by rw[ah pq,ah ph];exact hp4,?_,by rw[ah n3,ah (Ne.symm n1)];exact hv4,aa,(kp4.set (by simp)).set (by simp)⟩;rw[ah n2,aa,show (V.int ((acc.2.1:Int)+1))=nV (acc.2.1+1) from rfl,ir]
    ·rintro σ H2 ⟨⟨part,rfl⟩,hp2,hh2,hv2,hq2,kp2⟩
     rw[List.length_map,List.take_length] at hh2 hq2 ⊢;walk_at "rd";exact k H2 hh2 hv2 hq2 kp2
end
end
section
local macro_rules|`(tactic| walk_at "rd")=>`(tactic| simp only[zH,B8,zB,xR,oG,kH,tC,Co,rI,yc,rU,EY,wI,tB,BL,uU,xf,wD,sR,nS,Cs,iZ,rp,wU,jZ,nN,wt,sk,Ao,qk,vB,qm,uB,Dj,Gw,Fg,nQ,zU,Fj,Bv,ni,vG,uj,Bm,zw,qK,uY,jV,xt,L2.start,pick,nJ,
 List.map_cons,List.map_nil,List.length_cons,List.length_nil,List.replicate_zero,List.append_nil,List.nil_append,List.cons_append,List.getElem?_cons_zero,List.getElem?_cons_succ,List.set_cons_zero,List.set_cons_succ,Option.some.injEq,V.int.injEq,V.str.injEq,V.ref.injEq,V.bl.injEq,List.cons.injEq,reduceCtorEq,
 and_true,true_and,exists_eq_left',exists_eq_left,exists_eq_right,exists_and_left,exists_const,if_true,if_false,Nat.reduceSub,List.replicate,Nat.sub_self,Nat.reduceAdd])
section
noncomputable def vH (a b:Nm):Bool:=!decide (b<a)
noncomputable def dN (l:List Nm):List Nm:=l.mergeSort vH
theorem uh (a b:Nm):(vH a b || vH b a)=true:=by
 unfold vH
 by_cases h:b<a
 ·have:¬ a<b:=fun z=>List.lt_irrefl _ (List.lt_trans h z)
  simp[this]
 ·simp[h]
theorem ue (a b c:Nm) (h1:vH a b=true) (h2:vH b c=true):vH a c=true:=by
 unfold vH at *;simp only[Bool.not_eq_true',decide_eq_false_iff_not,List.not_lt] at *;exact List.le_trans h1 h2
theorem oj {a b:Nm} (h1:¬ b<a) (h2:¬ a<b):a=b:=by
 rw[List.not_lt] at h1 h2;exact List.le_antisymm h1 h2
theorem aR (l:List Nm):(dN l).Perm l:=List.mergeSort_perm l vH
theorem kx (l:List Nm):(dN l).Pairwise fun a b=>¬ b<a:=by
 have:=List.pairwise_mergeSort (le:=vH) ue uh l;refine this.imp fun {a b} h=>?_;unfold vH at h
 simpa using h
theorem lR {l:List Nm}{ss:List Str} (h1:ss.Perm (l.map tx)) (h2:ss.Pairwise fun a b=>¬ b.cps.toList<a.cps.toList):ss=(dN l).map tx:=by
 have e:ss=(ss.map fun x=>x.cps.toList).map tx:=by
  rw[List.map_map];exact (List.map_id' ss).symm.trans (List.map_congr_left fun x _=>gx x)
 rw[e];congr 1;refine List.Perm.eq_of_pairwise (le:=fun a b:Nm=>¬ b<a) (fun a b _ _ p q=>oj p q) ?_ (kx l) ?_
 ·rw[List.pairwise_map];exact h2
 ·refine List.Perm.trans ?_ (aR l).symm
  have:=h1.map fun x=>x.cps.toList;rw[List.map_map] at this;have e2:l.map ((fun x:Str=>x.cps.toList) ∘ tx)=l:=by
   conv=>rhs;rw[<- List.map_id' l]
   apply List.map_congr_left;intro a _;simp
  rw[e2] at this;exact this
theorem uy (m:Mp):(aP sV m).map (fun kv=>kV kv.1)=(m.map (·.1)).map sV:=by
 unfold aP;rw[List.map_map,List.map_map]
 rfl
noncomputable def bY (m1 m2:Mp):List Nm:=m1.map (·.1)++(m2.map (·.1)).filter fun n=>(ak m1 n).isNone
noncomputable def bw (m1 m2:Mp):List Nm:=(dN (bY m1 m2)).filter fun n=>decide (ak m1 n≠ak m2 n)
noncomputable abbrev wC:Stmt:=top 42
theorem D_:az ["_law_old","_law_new","_law_names"] ["_law_old","_law_new"] (aq wC):=by walk_at "s"
theorem pj:(["_law_name","_law_old"]:List Str).Nodup:=by decide +kernel
theorem ja:(["_law_name","_law_old","_law_new"]:List Str).Nodup:=by decide +kernel
noncomputable def om:Sp:=fun vs H Q _=>∃ (a b:Addr) (m1 m2:Mp),vs=[.ref a,.ref b]/\H a=some (.dK (aP sV m1))/\H b=some (.dK (aP sV m2))/\m1.length<=1000/\m2.length<=1000/\(bY m1 m2).length<64 /\
 ∀ p H',H p=none->H' p=some (.lst ((bw m1 m2).map sV))->Kp H H' []->Q (.ref p) H'
theorem zu {f:Addr}{fd:FuncData} (B:Bl mg) (F:cG K "_law_changes" "_law_changes" wC f fd):aS P w K mg base aQ 1 f fd ["_law_old","_law_new"] om:=by
 have sc:=D_;walk_at "f"
 ·obtain⟨_,_,_,_,rfl,_⟩:=h
  rfl
 ·obtain⟨a,b,m1,m2,rfl,ha,hb,l1,l2,l3,k⟩:=h
  have hu:=dk hr;have hs:=sizeLine_eq;refine⟨_,(af (au (i:=2) sc.nd rfl (by walk_at "o") (br (iq K) rfl B.srt boot_sorted (ag (aA mT (cS (cY rfl) rfl B.lst boot_list (ag (pv 0) ae)) (cx (N':=["_law_name","_law_old"]) (ix:=[none,some 0]) rfl ?S1 (bq K (cS (cY rfl) rfl B.lst boot_list (ag (pv 1) ae))) (fun cl C fp s H=>(aM (i:=0) pj rfl (by walk_at "o"))) (fun cl C fp s H=>(dA (da (tT hu (pv 0) (pv 1))))) (fun cl C fp s H=>(pv 0)))) ae)))
   (ao (aw (cx (N':=["_law_name","_law_old","_law_new"]) (ix:=[none,some 0,some 1]) rfl ?S2 (bq K (pv 2)) (fun cl C fp s H=>(aM (i:=0) ja rfl (by walk_at "o"))) (fun cl C fp s H=>(dA (aF dS (bV hu (pv 1) (pv 0) ⟨rfl,rfl,rfl,rfl⟩) (bV hu (pv 2) (pv 0) ⟨rfl,rfl,rfl,rfl⟩) (aK _)))) (fun cl C fp s H=>(pv 0)))))),?_⟩
  case S1=>exact kG.is (N:=["_law_old","_law_new","_law_names"]) (osc:=aq wC) (by decide +kernel)
  case S2=>exact kG.is (N:=["_law_old","_law_new","_law_names"]) (osc:=aq wC) (by decide +kernel)
  walk_at "rd";refine⟨_,.inl ha,fun p hp=>⟨_,.inl (by rw[ah (ai hb hp)];exact hb),fun p1 hp1=>⟨⟨_,aO.of aa⟩,?_⟩⟩⟩;rw[uy,uy] at *;have F1:=((aE.refl H).new (o:=.lst ((m1.map (·.1)).map sV)) hp).new (o:=.lst ((m2.map (·.1)).map sV)) hp1;have P1:=((aE.refl _).new (o:=.lst ((m2.map (·.1)).map sV)) hp1) p _ (aa (H:=H) (o:=.lst ((m1.map (·.1)).map sV)));have P2:=aa (H:=upd H p (.lst ((m1.map (·.1)).map sV))) (a:=p1) (o:=.lst ((m2.map (·.1)).map sV));generalize upd (upd H p (.lst ((m1.map (·.1)).map sV))) p1 (.lst ((m2.map (·.1)).map sV))=H1 at F1 P1 P2 ⊢;refine dJ (iR fun n=>(ak m1 n).isNone) (aO.of P2) (by rw[List.length_map,List.length_map];omega) (fun y hy R R' g1 g2=>?_) ?_
  ·obtain⟨nm,hnm,rfl⟩:=List.mem_map.mp hy
   refine⟨Wk.set rfl,?_⟩;simp only[tB,nL,kH,pick,List.map_cons,List.map_nil,List.set_cons_zero,List.getElem?_cons_zero,List.getElem?_cons_succ,Option.some.injEq,exists_eq_left',V.ref.injEq,V.bl.injEq];refine⟨a,_,rfl,bE.k (k:=.inr (tx nm)) (F1 _ _ ha),?_⟩;rw[bR]
   cases e:ak m1 nm with
   | none=>exact g1 _ (by show iR _ (.str (tx nm))=_;rw[gc,e];rfl)
   | some z=>exact g2 (by show iR _ (.str (tx nm))=_;rw[gc,e];rfl)
  ·intro d hd
   rw[show (m2.map (·.1)).map sV=(m2.map (·.1)).map fun y=>V.str (tx y) from rfl,lG] at *;refine⟨p,d,_,_,rfl,rfl,by rw[ah (ai P1 hd)];exact P1,aa,by
    have h1:((m2.map (·.1)).filter fun n=>(ak m1 n).isNone).length<=m2.length:=by
     have:=List.length_filter_le (fun n=>(ak m1 n).isNone) (m2.map (·.1));rw[List.length_map] at this;exact this
    simp only[List.length_map];exact Nat.le_trans (Nat.add_le_add (Nat.le_refl _) h1) (by omega),fun p2 hp2=>⟨p2,rfl,(bY m1 m2).map tx,aO.of (by
     rw[aa];unfold bY;simp only[List.map_append,List.map_map]
     rfl),by rw[List.length_map];exact l3,fun p3 ss' hp3 sp1 sp2=>?_⟩⟩
   rw[lR sp1 sp2];refine⟨⟨_,aO.of aa⟩,?_⟩;have F2:=((((aE.refl H1).new (o:=.lst (((m2.map (·.1)).filter fun n=>(ak m1 n).isNone).map fun y=>V.str (tx y))) hd).new (o:=.lst ((m1.map (·.1)).map sV++(((m2.map (·.1)).filter fun n=>(ak m1 n).isNone).map fun y=>V.str (tx y)))) hp2).new (o:=.lst (((dN (bY m1 m2)).map tx).map V.str)) hp3);have P3:=aa (H:=upd (upd H1 d (.lst (((m2.map (·.1)).filter fun n=>(ak m1 n).isNone).map fun y=>V.str (tx y)))) p2 (.lst ((m1.map (·.1)).map sV++(((m2.map (·.1)).filter fun n=>(ak m1 n).isNone).map fun y=>V.str (tx y))))) (a:=p3) (o:=.lst (((dN (bY m1 m2)).map tx).map V.str));generalize upd (upd (upd H1 d _) p2 _) p3 (.lst (((dN (bY m1 m2)).map tx).map V.str))=H3 at F2 P3 ⊢;rw[List.map_map] at P3;have F3:=F1.trans F2;refine dJ (iR fun n=>decide (ak m1 n≠ak m2 n)) (aO.of P3) (by rw[List.length_map,(aR _).length_eq];omega) (fun y hy R R' g1 g2=>?_) ?_
   ·obtain⟨nm,hnm,rfl⟩:=List.mem_map.mp hy
    refine⟨Wk.set rfl,?_⟩;walk_at "rd";refine⟨.inl ⟨_,.inl (F3 _ _ ha)⟩,_,bE.k (k:=.inr (tx nm)) (F3 _ _ ha),.inl ⟨_,.inl (F3 _ _ hb)⟩,_,bE.k (k:=.inr (tx nm)) (F3 _ _ hb),?_⟩;rw[bR,bR,dw,dw];refine⟨gL _ _,?_⟩;have g1:iR (fun n=>decide (ak m1 n≠ak m2 n)) (.str (tx nm))=some (.str (tx nm))->R (.str (tx nm)) H3:=g1 _;have g2:iR (fun n=>decide (ak m1 n≠ak m2 n)) (.str (tx nm))=none->R' H3:=g2;rw[gc] at g1 g2
    by_cases e:ak m1 nm=ak m2 nm
    ·rw[if_neg (by simp[e])];exact g2 (by simp[e])
    ·rw[if_pos (by simp[dW,e])];exact g1 (by simp[e])
   ·intro d2 hd2
    rw[show (dN (bY m1 m2)).map (V.str ∘ tx)=(dN (bY m1 m2)).map fun y=>V.str (tx y) from rfl,lG];exact k d2 _ (F3.free hd2) aa (F3.new hd2).kp
end
end
section
section
noncomputable def pV:Option Nat->V
 | none=>.non
 | some i=>.int i
structure gq (H:Hp) (h a1 a2 a3 a5:Addr) (ms:List Mp) (ns:List Nd) (par:List (Option Nat)) (st:Nat) (made:List Nat) (mas nas:List Addr):Prop where
 hh:H h=some (.dK (cf a1 a2 a3 st a5))
 h1:H a1=some (.lst (mas.map V.ref))
 h2:H a2=some (.lst (nas.map V.ref))
 h3:H a3=some (.lst (par.map pV))
 h5:H a5=some (.lst (made.map nV))
 lm:mas.length=ms.length
 ln:nas.length=ns.length
 mm:∀ (i:Nat) a m,mas[i]?=some a->ms[i]?=some m->H a=some (.dK (aP sV m))
 nn:∀ (i:Nat) a m,nas[i]?=some a->ns[i]?=some m->H a=some (.dK (aP nV m))
 ne:[h,a1,a2,a3,a5].Nodup
 am:∀ a∈mas,a≠h
 an:∀ a∈nas,a≠h
theorem gq.same {H H':Hp}{h a1 a2 a3 a5:Addr}{ms:List Mp}{ns:List Nd}{par:List (Option Nat)}{st:Nat}{made:List Nat}{mas nas:List Addr} (A:gq H h a1 a2 a3 a5 ms ns par st made mas nas) (e:aE H H'):gq H' h a1 a2 a3 a5 ms ns par st made mas nas :=
 ⟨e _ _ A.hh,e _ _ A.h1,e _ _ A.h2,e _ _ A.h3,e _ _ A.h5,A.lm,A.ln,fun i a m x y=>e _ _ (A.mm i a m x y),fun i a m x y=>e _ _ (A.nn i a m x y),A.ne,A.am,A.an⟩
noncomputable abbrev uK:Stmt:=top 43
theorem AF:az ["_law_hall","_law_values","_law_nodes","_law_parent"] ["_law_hall","_law_values","_law_nodes","_law_parent"] (aq uK):=by walk_at "s"
noncomputable def mv:Sp:=fun vs H Q _=>∃ (h a1 a2 a3 a5 v q:Addr) (ms:List Mp) (ns:List Nd) (par:List (Option Nat)) (st:Nat) (made:List Nat) (mas nas:List Addr) (m:Mp) (nd:Nd) (p:Option Nat),vs=[.ref h,.ref v,.ref q,pV p] /\
 gq H h a1 a2 a3 a5 ms ns par st made mas nas/\H v=some (.dK (aP sV m))/\H q=some (.dK (aP nV nd))/\v≠h/\q≠h/\ms.length<=100000/\ns.length<=100000/\par.length<=100000 /\
 ∀ H',gq H' h a1 a2 a3 a5 (ms++[m]) (ns++[nd]) (par++[p]) st made (mas++[v]) (nas++[q])->Kp H H' [a1,a2,a3]->Q (nV ms.length) H'
theorem xn {f:Addr}{fd:FuncData} (B:Bl mg) (F:cG K "_law_note" "_law_note" uK f fd):aS P w K mg base aQ 1 f fd ["_law_hall","_law_values","_law_nodes","_law_parent"] mv:=by
 have sc:=AF;walk_at "f"
 ·obtain⟨_,_,_,_,_,_,_,_,_,_,_,_,_,_,_,_,_,rfl,_⟩:=h
  rfl
 ·obtain⟨h,a1,a2,a3,a5,v,q,ms,ns,par,st,made,mas,nas,m,nd,p,rfl,HL,hv,hq,vh,qh,l1,l2,l3,k⟩:=h
  have hu:=dk hr;have hs:=sizeLine_eq;refine⟨_,(af (ba (dF K PySem.F.plainAttrs_list PySem.F.slot_list_append PySem.F.type_list_append bf (bu hu (pv 0) ar (fun _ _=>rfl)) (ag (pv 1) ae)))
   (af (ba (dF K PySem.F.plainAttrs_list PySem.F.slot_list_append PySem.F.type_list_append bf (bu hu (pv 0) ar (fun _ _=>rfl)) (ag (pv 2) ae)))
   (af (ba (dF K PySem.F.plainAttrs_list PySem.F.slot_list_append PySem.F.type_list_append bf (bu hu (pv 0) ar (fun _ _=>rfl)) (ag (pv 3) ae)))
   (ao (aw (aA fc (br (bc K) rfl B.len boot_len (ag (bu hu (pv 0) ar (fun _ _=>rfl)) ae)) aj)))))),?_⟩
  walk_at "rd";obtain⟨hh,h1,h2,h3,h5,lm,ln,mm,nn,ne,am,an⟩:=HL;simp only[List.nodup_cons,List.mem_cons,List.not_mem_nil,or_false,not_or,List.nodup_nil,not_false_eq_true,and_true] at ne;obtain⟨⟨x01,x02,x03,x05⟩,⟨x12,x13,x15⟩,⟨x23,x25⟩,x35⟩:=ne;refine⟨_,bE.k' (k:=.inr ("maps":Str)) hh (bS _ _ _ _ _),.inl ⟨rfl,_,aO.of h1⟩,a1,rfl,_,h1,by rw[List.length_map];omega,
   _,bE.k' (k:=.inr ("nodes":Str)) (by rw[ah x01];exact hh) (gH _ _ _ _ _),.inl ⟨rfl,_,aO.of (by rw[ah (Ne.symm x12)];exact h2)⟩,a2,rfl,_,(by rw[ah (Ne.symm x12)];exact h2),by rw[List.length_map];omega,
   _,bE.k' (k:=.inr ("parents":Str)) (by rw[ah x02,ah x01];exact hh) (nB _ _ _ _ _),.inl ⟨rfl,_,aO.of (by rw[ah (Ne.symm x23),ah (Ne.symm x13)];exact h3)⟩,a3,rfl,_,(by rw[ah (Ne.symm x23),ah (Ne.symm x13)];exact h3),by rw[List.length_map];omega,
   _,bE.k' (k:=.inr ("maps":Str)) (by rw[ah x03,ah x02,ah x01];exact hh) (bS _ _ _ _ _),_,.inl ⟨_,aO.of (by rw[ah x13,ah x12,aa]),rfl⟩,?_⟩
  have kp:Kp H (upd (upd (upd H a1 (.lst (mas.map V.ref++[.ref v]))) a2 (.lst (nas.map V.ref++[.ref q]))) a3 (.lst (par.map pV++[pV p]))) [a1,a2,a3]:=(((Kp.refl H _).set (by simp)).set (by simp)).set (by simp);have old:∀ {a:Addr}{kvs:List (Key×V)},H a=some (.dK kvs)->a∉[a1,a2,a3]:=fun ha=>by
   simp only[List.mem_cons,List.not_mem_nil,or_false,not_or];exact⟨bO ha h1 (by intro z;cases z),bO ha h2 (by intro z;cases z),bO ha h3 (by intro z;cases z)⟩
  have e:((List.map V.ref mas++[V.ref v]).length:Int) - 1=(ms.length:Int):=by
   rw[List.length_append,List.length_map,lm];simp
  rw[e];refine k _ ⟨kp _ _ hh (old hh),by rw[ah x13,ah x12,aa,List.map_append];rfl,by rw[ah x23,aa,List.map_append];rfl,by rw[aa,List.map_append];rfl,kp _ _ h5 (by
   simp only[List.mem_cons,List.not_mem_nil,or_false,not_or];exact⟨Ne.symm x15,Ne.symm x25,Ne.symm x35⟩),by simp[lm],by simp[ln],fun i a m' e1 e2=>?_,fun i a m' e1 e2=>?_,?_,fun a ha=>(List.mem_append.mp ha).elim (am a) (fun z=>by rw[List.mem_singleton.mp z];exact vh),fun a ha=>(List.mem_append.mp ha).elim (an a) (fun z=>by rw[List.mem_singleton.mp z];exact qh)⟩ kp
  ·by_cases hi:i<mas.length
   ·rw[List.getElem?_append_left hi] at e1
    rw[List.getElem?_append_left (by omega)] at e2;have:=mm i a m' e1 e2;exact kp _ _ this (old this)
   ·rw[List.getElem?_append_right (by omega)] at e1 e2
    have hi0:i - mas.length=0:=by
     have:=(List.getElem?_eq_some_iff.mp e1).1;simp at this;omega
    rw[hi0] at e1;rw[show i - ms.length=0 by omega] at e2;simp only[List.getElem?_cons_zero,Option.some.injEq] at e1 e2;subst e1 e2;exact kp _ _ hv (old hv)
  ·by_cases hi:i<nas.length
   ·rw[List.getElem?_append_left hi] at e1
    rw[List.getElem?_append_left (by omega)] at e2;have:=nn i a m' e1 e2;exact kp _ _ this (old this)
   ·rw[List.getElem?_append_right (by omega)] at e1 e2
    have hi0:i - nas.length=0:=by
     have:=(List.getElem?_eq_some_iff.mp e1).1;simp at this;omega
    rw[hi0] at e1;rw[show i - ns.length=0 by omega] at e2;simp only[List.getElem?_cons_zero,Option.some.injEq] at e1 e2;subst e1 e2;exact kp _ _ hq (old hq)
  ·simp only[List.nodup_cons,List.mem_cons,List.not_mem_nil,or_false,not_or,List.nodup_nil,not_false_eq_true,and_true]
   exact⟨⟨x01,x02,x03,x05⟩,⟨x12,x13,x15⟩,⟨x23,x25⟩,x35⟩
noncomputable abbrev qv:Stmt:=top 39
theorem yE:az [] [] (aq qv):=by walk_at "s"
noncomputable def nA:Sp:=fun vs H Q _=>vs=[]/\∀ h a1 a2 a3 a5 m0 n0 H',gq H' h a1 a2 a3 a5 [[]] [[]] [none] 0 [] [m0] [n0]->aE H H'->(∀ a∈[h,a1,a2,a3,a5,m0,n0],H a=none)->Q (.ref h) H'
theorem uM {f:Addr}{fd:FuncData} (F:cG K "_law_start" "_law_start" qv f fd):aS P w K mg base aQ 1 f fd [] nA:=by
 have sc:=yE;walk_at "f"
 ·obtain⟨rfl,_⟩:=h
  rfl
 ·obtain⟨rfl,k⟩:=h
  have hs:=sizeLine_eq;refine⟨_,(ao (aw (yB (fT ar (aT (ag jR ae)) (fT ar (aT (ag jR ae)) (fT ar (aT (ag fP ae)) (fT ar aj (fT ar (aT ae) xq))))) (by rfl) (by rfl) (by intro z;cases z) (by exact Nat.le_of_ble_eq_true rfl)))),?_⟩;walk_at "rd";intro p0 h0;have s0:=(aE.refl H).new (o:=HO.dK []) h0;have f0:upd H p0 (HO.dK []) p0=some (HO.dK []):=aa;generalize upd H p0 (HO.dK [])=G0 at s0 f0 ⊢;intro p1 h1;have s1:=(aE.refl G0).new (o:=HO.dK []) h1;have f1:upd G0 p1 (HO.dK []) p1=some (HO.dK []):=aa;generalize upd G0 p1 (HO.dK [])=G1 at s1 f1 ⊢;refine⟨by omega,?_⟩;intro p2 h2;have s2:=(aE.refl G1).new (o:=HO.lst [V.ref p1]) h2;have f2:upd G1 p2 (HO.lst [V.ref p1]) p2=some (HO.lst [V.ref p1]):=aa;generalize upd G1 p2 (HO.lst [V.ref p1])=G2 at s2 f2 ⊢;intro p3 h3;have s3:=(aE.refl G2).new (o:=HO.dK []) h3;have f3:upd G2 p3 (HO.dK []) p3=some (HO.dK []):=aa;generalize upd G2 p3 (HO.dK [])=G3 at s3 f3 ⊢;refine⟨by omega,?_⟩;intro p4 h4;have s4:=(aE.refl G3).new (o:=HO.lst [V.ref p3]) h4;have f4:upd G3 p4 (HO.lst [V.ref p3]) p4=some (HO.lst [V.ref p3]):=aa;generalize upd G3 p4 (HO.lst [V.ref p3])=G4 at s4 f4 ⊢;refine⟨by omega,?_⟩;intro p5 h5;have s5:=(aE.refl G4).new (o:=HO.lst [V.non]) h5;have f5:upd G4 p5 (HO.lst [V.non]) p5=some (HO.lst [V.non]):=aa;generalize upd G4 p5 (HO.lst [V.non])=G5 at s5 f5 ⊢;refine⟨by omega,?_⟩;intro p6 h6;have s6:=(aE.refl G5).new (o:=HO.lst []) h6;have f6:upd G5 p6 (HO.lst []) p6=some (HO.lst []):=aa;generalize upd G5 p6 (HO.lst [])=G6 at s6 f6 ⊢;have t5:=s6;have t4:=s5.trans t5;have t3:=s4.trans t4;have t2:=s3.trans t3;have t1:=s2.trans t2;have t0:=s1.trans t1;have tH:=s0.trans t0;refine⟨t0 _ _ f0,[(.inr ("maps":Str),.ref p2),(.inr ("nodes":Str),.ref p4),(.inr ("parents":Str),.ref p5),(.inr ("stamp":Str),.int 0),(.inr ("made":Str),.ref p6)],rfl,by show 5<=15;decide,?_⟩;have em:gM [] [(.inr ("maps":Str),.ref p2),(.inr ("nodes":Str),.ref p4),(.inr ("parents":Str),.ref p5),(.inr ("stamp":Str),.int 0),(.inr ("made":Str),.ref p6)]=cf p2 p4 p5 0 p6:=by
   have e1:putK ([]:List (Key×V)) (Sum.inr ("maps":Str)) (.ref p2)=[(.inr ("maps":Str),.ref p2)]:=fA _ rfl;have e2:putK ([(.inr ("maps":Str),.ref p2)]:List (Key×V)) (Sum.inr ("nodes":Str)) (.ref p4)=[(.inr ("maps":Str),.ref p2),(.inr ("nodes":Str),.ref p4)]:=fA _ (by rw[aV Dt];rfl);have e3:putK ([(.inr ("maps":Str),.ref p2),(.inr ("nodes":Str),.ref p4)]:List (Key×V)) (Sum.inr ("parents":Str)) (.ref p5)=[(.inr ("maps":Str),.ref p2),(.inr ("nodes":Str),.ref p4),(.inr ("parents":Str),.ref p5)]:=fA _ (by rw[aV C8,aV DB];rfl);have e4:putK ([(.inr ("maps":Str),.ref p2),(.inr ("nodes":Str),.ref p4),(.inr ("parents":Str),.ref p5)]:List (Key×V)) (Sum.inr ("stamp":Str)) (.int 0)=[(.inr ("maps":Str),.ref p2),(.inr ("nodes":Str),.ref p4),(.inr ("parents":Str),.ref p5),(.inr ("stamp":Str),.int 0)]:=fA _ (by rw[aV A1,aV zO,aV AU];rfl);have e5:putK ([(.inr ("maps":Str),.ref p2),(.inr ("nodes":Str),.ref p4),(.inr ("parents":Str),.ref p5),(.inr ("stamp":Str),.int 0)]:List (Key×V)) (Sum.inr ("made":Str)) (.ref p6)=[(.inr ("maps":Str),.ref p2),(.inr ("nodes":Str),.ref p4),(.inr ("parents":Str),.ref p5),(.inr ("stamp":Str),.int 0),(.inr ("made":Str),.ref p6)]:=fA _ (by rw[aV EB,aV CZ,aV CC,aV Ag];rfl);unfold gM;simp only[List.foldl_cons,List.foldl_nil];rw[e1,e2,e3,e4,e5]
   rfl
  rw[em];have d0:∀ {a:Addr},G0 a=none->a≠p0:=fun h z=>by rw[z,f0] at h;cases h
  have n1:p1≠p0:=d0 h1;have n2:p2≠p0:=d0 (s1.free h2);have n3:p3≠p0:=d0 (s1.free (s2.free h3));have n4:p4≠p0:=d0 (s1.free (s2.free (s3.free h4)));have n5:p5≠p0:=d0 (s1.free (s2.free (s3.free (s4.free h5))));have n6:p6≠p0:=d0 (s1.free (s2.free (s3.free (s4.free (s5.free h6)))));have n24:p2≠p4:=ai f2 (s3.free h4);have n25:p2≠p5:=ai f2 (s3.free (s4.free h5));have n26:p2≠p6:=ai f2 (s3.free (s4.free (s5.free h6)));have n45:p4≠p5:=ai f4 h5;have n46:p4≠p6:=ai f4 (s5.free h6);have n56:p5≠p6:=ai f5 h6;refine k p0 p2 p4 p5 p6 p1 p3 _ ⟨aa,by rw[ah n2];exact t2 _ _ f2,by rw[ah n4];exact t4 _ _ f4,by rw[ah n5];exact t5 _ _ f5,by rw[ah n6];exact f6,rfl,rfl,fun i a m e1 e2=>?_,fun i a m e1 e2=>?_,?_,fun a ha=>by rw[List.mem_singleton.mp ha];exact n1,fun a ha=>by rw[List.mem_singleton.mp ha];exact n3⟩ (fun c o hc=>?_) ?_
  ·have hi:i=0:=by
    have:=(List.getElem?_eq_some_iff.mp e1).1;simp at this;omega
   subst hi
   cases e1;cases e2;rw[ah n1];exact t1 _ _ f1
  ·have hi:i=0:=by
    have:=(List.getElem?_eq_some_iff.mp e1).1;simp at this;omega
   subst hi
   cases e1;cases e2;rw[ah n3];exact t3 _ _ f3
  ·simp only[List.nodup_cons,List.mem_cons,List.not_mem_nil,or_false,not_or,List.nodup_nil,not_false_eq_true,and_true]
   exact⟨⟨Ne.symm n2,Ne.symm n4,Ne.symm n5,Ne.symm n6⟩,⟨n24,n25,n26⟩,⟨n45,n46⟩,n56⟩
  ·rw[ah (ai hc h0)];exact tH _ _ hc
  ·intro a ha
   simp only[List.mem_cons,List.not_mem_nil,or_false] at ha;rcases ha with rfl|rfl|rfl|rfl|rfl|rfl|rfl
   ·exact h0
   ·exact s0.free (s1.free h2)
   ·exact s0.free (s1.free (s2.free (s3.free h4)))
   ·exact s0.free (s1.free (s2.free (s3.free (s4.free h5))))
   ·exact s0.free (s1.free (s2.free (s3.free (s4.free (s5.free h6)))))
   ·exact s0.free h1
   ·exact s0.free (s1.free (s2.free h3))
end
end
section
open PySem L2
theorem kD {β:Type} (m:List (Nm×β)) (b:Nm):(∃ p∈m,b <+: p.1)↔∃ j,(ak m j).isSome=true/\b <+: j:=by
 constructor
 ·rintro ⟨p,hp,h⟩
  exact⟨p.1,(mem_keys m p.1).mp (List.mem_map.mpr ⟨p,hp,rfl⟩),h⟩
 ·rintro ⟨j,hj,h⟩
  obtain⟨p,hp,rfl⟩:=List.mem_map.mp ((mem_keys m j).mpr hj);exact⟨p,hp,h⟩
theorem jy (m:Mp) (b:Nm):(m.all fun p=>!b.isPrefixOf p.1)=true↔¬ ∃ p∈m,b <+: p.1:=by
 rw[List.all_eq_true];constructor
 ·rintro h ⟨p,hp,q⟩
  have:=h p hp;rw[List.isPrefixOf_iff_prefix.mpr q] at this
  cases this
 ·intro h p hp
  cases e:b.isPrefixOf p.1 with
  | false=>rfl
  | true=>exact absurd ⟨p,hp,List.isPrefixOf_iff_prefix.mp e⟩ h
theorem eR {n b:Nm}:b∈bD n↔b <+: n:=by
 unfold bD;rw[List.mem_map];constructor
 ·rintro ⟨k,_,rfl⟩;exact List.take_prefix k n
 ·intro h
  refine⟨b.length,?_,?_⟩
  ·rw[List.mem_range]
   have:=h.length_le;omega
  ·exact (List.prefix_iff_eq_take.mp h).symm
theorem vA {m:Mp}{nd:Nd} (ok:gU m nd) (n:Nm) (to:Option Nm):ak m n≠to->∀ b∈bD n,((bA m n to).all fun p=>!b.isPrefixOf p.1)=true->(ak nd b).isSome=true:=by
 intro hne b hb hall;have hbn:=eR.mp hb;rw[ok b,kD];rw[jy,kD] at hall
 cases e:ak m n with
 | some x=>exact⟨n,by rw[e];rfl,hbn⟩
 | none =>
  exfalso
  apply hall;refine⟨n,?_,hbn⟩;rw[b_,if_pos rfl]
  cases to with
  | none=>exact absurd e hne
  | some v=>rfl
theorem qA (n:Nm):(bD n).Nodup:=by
 unfold bD;rw[List.nodup_iff_pairwise_ne,List.pairwise_map];have h:(List.range (n.length+1)).Pairwise (·<·):=List.pairwise_lt_range;have h2:∀ k∈List.range (n.length+1),k<=n.length:=fun k hk=>by
  have:=List.mem_range.mp hk;omega
 refine List.Pairwise.imp_of_mem (fun {a b} ha hb hab e=>?_) h;have:=congrArg List.length e;rw[List.length_take,List.length_take] at this;have h1:=h2 a ha;have h3:=h2 b hb;omega
theorem sN (M:Mp) (b:Nm):∀ (l:List Nm) (a:Nat×Nat×Nd),l.Nodup->b∈l->((ak (l.foldl (bW M) a).2.2 b).isSome=true↔∃ p∈M,b <+: p.1)
 | [],_,_,h=>nomatch h
 | c::l,a,hn,h=>by
  obtain⟨hc,hn'⟩:=List.nodup_cons.mp hn;rw[List.foldl_cons]
  by_cases e:b=c
  ·subst e
   rw[dZ M b l _ hc];unfold bW
   by_cases em:(M.all fun p=>!b.isPrefixOf p.1)=true
   ·rw[if_pos em]
    dsimp only;rw[gf,if_pos rfl];simp only[Option.isSome_none,Bool.false_eq_true,false_iff];exact (jy M b).mp em
   ·rw[if_neg em]
    dsimp only;rw[iw,if_pos rfl];simp only[Option.isSome_some,true_iff];exact Classical.not_not.mp fun z=>em ((jy M b).mpr z)
  ·exact sN M b l _ hn' ((List.mem_cons.mp h).resolve_left e)
theorem nq {m:Mp}{nd:Nd} (ok:gU m nd) (st:Nat) (n:Nm) (to:Option Nm):gU (bU m nd st n to).m (bU m nd st n to).nd:=by
 unfold bU
 by_cases e:ak m n=to
 ·rw[if_pos e];exact ok
 ·rw[if_neg e]
  intro b
  by_cases hb:b∈bD n
  ·exact sN _ b _ _ (qA n) hb
  ·rw[dZ _ b _ _ hb]
   rw[ok b,kD,kD];have hbn:¬ b <+: n:=fun z=>hb (eR.mpr z);constructor
   ·rintro ⟨j,hj,hp⟩
    refine⟨j,?_,hp⟩;rw[b_,if_neg (fun z:j=n=>hbn (by rw[<- z];exact hp))];exact hj
   ·rintro ⟨j,hj,hp⟩
    refine⟨j,?_,hp⟩;rw[b_,if_neg (fun z:j=n=>hbn (by rw[<- z];exact hp))] at hj;exact hj
theorem jA (m:Mp) (nd:Nd) (st:Nat) (n:Nm) (to:Option Nm) (j:Nm):ak (bU m nd st n to).m j=if j=n then to else ak m j:=by
 unfold bU
 by_cases e:ak m n=to
 ·rw[if_pos e]
  by_cases ej:j=n
  ·rw[if_pos ej,ej];exact e
  ·rw[if_neg ej]
 ·rw[if_neg e];exact b_ m n to j
theorem tI (m:Mp) (nd:Nd) (st:Nat) (n:Nm) (to:Option Nm):(bU m nd st n to).m.length<=m.length+1:=by
 unfold bU
 split
 ·exact Nat.le_succ _
 ·cases to with
  | none=>exact Nat.le_succ_of_le (iA m n)
  | some v=>exact jL m n v
theorem gC (m:Mp) (nd:Nd) (st:Nat) (n:Nm) (to:Option Nm):(bU m nd st n to).nd.length<=nd.length+(n.length+1):=by
 unfold bU
 split
 ·exact Nat.le_add_right _ _
 ·have:=iu (bA m n to) (bD n) (0,st,nd)
  rw[gX] at this;exact this
noncomputable def aB (m:Mp):Prop:=(m.map (·.1)).Nodup
theorem yM {m:Mp} (h:aB m) (n v:Nm):aB (ed m n v):=by
 unfold aB ed at *
 split
 ·have:(m.map fun p=>if p.1=n then (p.1,v) else p).map (·.1)=m.map (·.1):=by
   rw[List.map_map];apply List.map_congr_left;intro p _;simp only[Function.comp]
   split <;> rfl
  rw[this];exact h
 ·rename_i hn
  rw[List.map_append];refine nO h fun z=>hn ?_;obtain⟨p,hp,e⟩:=List.mem_map.mp z;exact List.any_eq_true.mpr ⟨p,hp,decide_eq_true e⟩
theorem wK {m:Mp} (h:aB m) (n:Nm):aB (cZ m n):=by
 unfold aB cZ at *;exact h.sublist (List.Sublist.map _ List.filter_sublist)
theorem sC {m:Mp} (h:aB m) (nd:Nd) (st:Nat) (n:Nm) (to:Option Nm):aB (bU m nd st n to).m:=by
 unfold bU
 split
 ·exact h
 ·cases to with
  | none=>exact wK h n
  | some v=>exact yM h n v
theorem lQ {m1 m2:Mp} (h1:aB m1) (h2:aB m2):(bY m1 m2).Nodup:=by
 unfold bY;rw[List.nodup_append];refine⟨h1,h2.sublist List.filter_sublist,fun a ha b hb e=>?_⟩;subst e;have q:=(List.mem_filter.mp hb).2;have:=(mem_keys m1 a).mp ha;rw[Option.isNone_iff_eq_none] at q;rw[q] at this
 cases this
theorem eY {α:Type} [DecidableEq α]:∀ {l u:List α},l.Nodup->(∀ x∈l,x∈u)->l.length<=u.length
 | [],_,_,_=>Nat.zero_le _
 | a::l,u,hn,hs=>by
  obtain⟨h1,h2⟩:=List.nodup_cons.mp hn;have ha:a∈u:=hs a List.mem_cons_self;have:=eY (l:=l) (u:=u.erase a) h2 fun x hx=>(List.mem_erase_of_ne (fun z:x=a=>h1 (by rw[<- z];exact hx))).mpr (hs x (List.mem_cons_of_mem _ hx));rw[List.length_erase_of_mem ha] at this;have hpos:0<u.length:=List.length_pos_of_mem ha;rw[List.length_cons];omega
theorem gy {m1 m2:Mp}{n:Nm}:n∈bY m1 m2↔(ak m1 n).isSome=true\/(ak m2 n).isSome=true:=by
 unfold bY;rw[List.mem_append,List.mem_filter,mem_keys,mem_keys];constructor
 ·rintro (h|⟨h,_⟩)
  ·exact .inl h
  ·exact .inr h
 ·intro h
  cases e:ak m1 n with
  | some x=>exact .inl rfl
  | none =>
   rw[e] at h;exact .inr ⟨h.resolve_left (by simp),rfl⟩
theorem cT {m1 m2:Mp}{n:Nm}:n∈bw m1 m2↔ak m1 n≠ak m2 n:=by
 unfold bw;rw[List.mem_filter,(aR _).mem_iff,gy,decide_eq_true_eq];constructor
 ·exact fun h=>h.2
 ·intro h
  refine⟨?_,h⟩
  cases e:ak m1 n with
  | some x=>exact .inl rfl
  | none =>
   rw[e] at h
   cases e2:ak m2 n with
   | some y=>exact .inr rfl
   | none=>rw[e2] at h;exact absurd rfl h
end
section
section
noncomputable abbrev Row:=Nm×Option Nm×Option Nm×Option Nm
noncomputable def eZ (mb mo mt:Mp) (n:Nm):Row:=(n,ak mb n,ak mo n,ak mt n)
noncomputable def bQ (mb mo mt:Mp):List Row:=((bw mb mo).filter fun n=>decide (n∈bw mb mt) && decide (ak mo n≠ak mt n)).map (eZ mb mo mt)
noncomputable def aY (mt:Mp) (a:LR) (n:Nm):LR:=⟨a.made+(bU a.m a.nd a.st n (ak mt n)).made,(bU a.m a.nd a.st n (ak mt n)).st,(bU a.m a.nd a.st n (ak mt n)).m,(bU a.m a.nd a.st n (ak mt n)).nd⟩
noncomputable def bF (mb mo mt:Mp) (nd:Nd) (st:Nat):LR:=(bw mb mt).foldl (aY mt) ⟨0,st,mo,nd⟩
noncomputable def eF (r:Row):List V:=[sV r.1,oV r.2.1,oV r.2.2.1,oV r.2.2.2]
noncomputable def gA (F:Addr->Prop) (H:Hp) (v:V) (rows:List Row):Prop:=∃ (t r:Addr) (rs:List Addr),v=.ref t/\F r/\H t=some (.tup [.str ("clash":Str),.ref r])/\H r=some (.lst (rs.map V.ref))/\Paired (fun a row=>H a=some (.tup (eF row))) rs rows
theorem E4 (a b c d:V):gp [a,b,c,d] (some 1) none=[b,c,d]:=rfl
theorem tW:¬ (HT.cL 4 0 (some 1)=0/\HT.cL 4 4 none=4):=by decide
theorem yo (n:Nm) (l:List Nm):Cj (sV n) (l.map sV)=decide (n∈l):=by
 unfold Cj;rw[List.any_map,Bool.eq_iff_iff,List.any_eq_true,decide_eq_true_eq];constructor
 ·rintro ⟨y,hy,e⟩
  have e:(tx y == tx n)=true:=e;rw[beq_iff_eq,ng] at e;exact e ▸ hy
 ·intro h
  exact⟨n,h,by show (tx n == tx n)=true;simp⟩
theorem uL (l:List Nm):(l.map sV).all fE=true:=by
 rw[List.all_map];simp[fE,sV,Function.comp]
noncomputable def yS (mas:List Addr):V->Option V
 | .int i=>some (.ref (mas.getD i.toNat 0))
 | _=>none
structure Hg (H5:Hp) (ls:List (Option V)) (pr:Addr) (rows:List Row) (σ:L2.St) (H2:Hp):Prop where
 ls:∃ nm,σ=ls++[some (.ref pr),nm,none,none,none]
 rs:∃ rs:List Addr,H2 pr=some (.lst (rs.map V.ref))/\Paired (fun a row=>H2 a=some (.tup (eF row))) rs rows
 kp:Kp H5 H2 [pr]
structure Hk (G:Hp) (ls:List (Option V)) (h a1 a2 a3 a5 pv pn:Addr) (acc:LR) (σ:L2.St) (H2:Hp):Prop where
 ls:∃ nm,σ=ls++[nm,some (.ref pv),some (.ref pn),some (nV acc.made)]
 hh:H2 h=some (.dK (cf a1 a2 a3 acc.st a5))
 hv:H2 pv=some (.dK (aP sV acc.m))
 hn:H2 pn=some (.dK (aP nV acc.nd))
 kp:Kp G H2 [h,pv,pn]
theorem ox {mt:Mp}{mo:Mp}{nd:Nd}{st:Nat} (ok:gU mo nd):∀ (l:List Nm),(∀ n∈l,n.length<=1000)->gU (l.foldl (aY mt) ⟨0,st,mo,nd⟩).m (l.foldl (aY mt) ⟨0,st,mo,nd⟩).nd /\
  (l.foldl (aY mt) ⟨0,st,mo,nd⟩).m.length<=mo.length+l.length/\(l.foldl (aY mt) ⟨0,st,mo,nd⟩).nd.length<=nd.length+1001 * l.length:=by
 intro l;have go:∀ (l:List Nm) (a:LR),gU a.m a.nd->(∀ n∈l,n.length<=1000)->gU (l.foldl (aY mt) a).m (l.foldl (aY mt) a).nd/\(l.foldl (aY mt) a).m.length<=a.m.length+l.length/\(l.foldl (aY mt) a).nd.length<=a.nd.length+1001 * l.length:=by
  intro l
  induction l with
  | nil=>intro a h _;exact⟨h,Nat.le_refl _,Nat.le_refl _⟩
  | cons n l ih =>
   intro a h hl;rw[List.foldl_cons];obtain⟨i1,i2,i3⟩:=ih (aY mt a n) (nq h _ _ _) fun x hx=>hl x (List.mem_cons_of_mem _ hx);have q1:=tI a.m a.nd a.st n (ak mt n);have q2:=gC a.m a.nd a.st n (ak mt n);have q3:=hl n List.mem_cons_self;have e1:(aY mt a n).m=(bU a.m a.nd a.st n (ak mt n)).m:=rfl;have e2:(aY mt a n).nd=(bU a.m a.nd a.st n (ak mt n)).nd:=rfl;rw[e1] at i2;rw[e2] at i3;rw[List.length_cons];exact⟨i1,by omega,by omega⟩
 exact fun hl=>go l _ ok hl
noncomputable abbrev rV:Stmt:=top 44
noncomputable abbrev NJ:List Str:=["_law_hall","_law_deed","_law_base","_law_one","_law_two","_law_left","_law_right","_law_rows","_law_name","_law_values","_law_nodes","_law_made"]
theorem Ap:az NJ ["_law_hall","_law_deed"] (aq rV):=by walk_at "s"
theorem jc:(["_law_version","_law_hall"]:List Str).Nodup:=by decide +kernel
noncomputable def rC:Sp:=fun vs H Q _=>∃ (h a1 a2 a3 a5 d:Addr) (ms:List Mp) (ns:List Nd) (par:List (Option Nat)) (st:Nat) (made:List Nat) (mas nas:List Addr) (b o t:Nat) (mb mo mt:Mp) (nd:Nd),vs=[.ref h,.ref d] /\
 gq H h a1 a2 a3 a5 ms ns par st made mas nas/\H d=some (.tup [.str ("join":Str),.int b,.int o,.int t])/\ms[b]?=some mb/\ms[o]?=some mo/\ms[t]?=some mt/\ns[o]?=some nd /\
 ms.length<=1000/\ns.length<=1000/\par.length<=1000/\made.length<=1000/\mb.length<=100/\mo.length<=100/\mt.length<=100/\nd.length<=500000/\gU mo nd/\(bY mb mo).length<64/\(bY mb mt).length<64/\(∀ n∈bw mb mt,n.length<=1000) /\
 (bQ mb mo mt≠[]->∀ v H',gq H' h a1 a2 a3 a5 ms ns par st (made++[0]) mas nas->gA (fun r=>H r=none) H' v (bQ mb mo mt)->Kp H H' [a5]->Q v H') /\
 (bQ mb mo mt=[]->∀ va na H',gq H' h a1 a2 a3 a5 (ms++[(bF mb mo mt nd st).m]) (ns++[(bF mb mo mt nd st).nd]) (par++[some o]) (bF mb mo mt nd st).st (made++[(bF mb mo mt nd st).made]) (mas++[va]) (nas++[na])->Kp H H' [h,a1,a2,a3,a5]->Q (nV ms.length) H')
theorem xZ {f:Addr}{fd:FuncData} (B:Bl mg) (c_law_changes:bM P w K mg base aQ 2 "_law_changes" ["_law_old","_law_new"] om) (c_law_set:bM P w K mg base aQ 2 "_law_set" ["_law_hall","_law_values","_law_nodes","_law_name","_law_to"] so)
  (c_law_note:bM P w K mg base aQ 2 "_law_note" ["_law_hall","_law_values","_law_nodes","_law_parent"] mv) (F:cG K "_law_joining" "_law_joining" rV f fd):aS P w K mg base aQ 3 f fd ["_law_hall","_law_deed"] rC:=by
 have sc:=Ap;walk_at "f"
 ·obtain⟨_,_,_,_,_,_,_,_,_,_,_,_,_,_,_,_,_,_,_,_,rfl,_⟩:=h
  rfl
 ·obtain⟨h,a1,a2,a3,a5,d,ms,ns,par,st,made,mas,nas,b,o,t,mb,mo,mt,nd,rfl,HL,hd,eb,eo,et,en,l1,l2,l3,l4,l5,l6,l7,l8,nok,u1,u2,u3,k1,k2⟩:=h
  have hu0:=hr.cu;have hu:=dk hr;have hs:=sizeLine_eq;refine⟨_,(af (cH (uQ (cx (N':=["_law_version","_law_hall"]) (ix:=[none,some 0]) rfl ?S1 (nY K (dq (ny K) (pv 1) (dD aj) fe)) (fun cl C fp s H=>(aM (i:=0) jc rfl (by walk_at "o"))) (fun cl C fp s H=>di) (fun cl C fp s H=>(aG (aI K) (bu hu (pv 1) ar (fun _ _=>rfl)) (pv 0) (fun _ _=>rfl)))) (xH K (n:=3) rfl (cN (aM (i:=2) sc.nd rfl (by walk_at "o")) (cN (aM (i:=3) sc.nd rfl (by walk_at "o")) (cN (aM (i:=4) sc.nd rfl (by walk_at "o")) jj))))))
   (af (cH (au (i:=5) sc.nd rfl (by walk_at "o") (bh c_law_changes hr (ag (pv 2) (ag (pv 3) ae)))))
   (af (cH (au (i:=6) sc.nd rfl (by walk_at "o") (bh c_law_changes hr (ag (pv 2) (ag (pv 4) ae)))))
   (af (au (i:=7) sc.nd rfl (by walk_at "o") (aT ae))
   (af (dt PassesOwn.never rfl (bq K (pv 5)) (aM (i:=8) sc.nd rfl (by walk_at "o")) (ao (a_ (PW.pt (jN (aF (qS K) (pv 8) (pv 6) (by with_unfolding_all rfl)) (jt (aF dS (bV hu (pv 3) (pv 8) ⟨rfl,rfl,rfl,rfl⟩) (bV hu (pv 4) (pv 8) ⟨rfl,rfl,rfl,rfl⟩) (aK _))))) (ao (ba (dF K PySem.F.plainAttrs_list PySem.F.slot_list_append PySem.F.type_list_append bf (pv 7) (ag (bH (ag (pv 8) (ag (bV hu (pv 2) (pv 8) ⟨rfl,rfl,rfl,rfl⟩) (ag (bV hu (pv 3) (pv 8) ⟨rfl,rfl,rfl,rfl⟩) (ag (bV hu (pv 4) (pv 8) ⟨rfl,rfl,rfl,rfl⟩) ae))))) ae)))) aJ)))
   (af (cH (a_ (aF (nD K hu0) (pv 7) (aT ae) (aK _)) (af (ba (dF K PySem.F.plainAttrs_list PySem.F.slot_list_append PySem.F.type_list_append bf (bu hu (pv 0) ar (fun _ _=>rfl)) (ag aj ae)))
    (ao (aw (bH (ag ar (ag (pv 7) ae)))))) aJ))
   (af (au (i:=9) sc.nd rfl (by walk_at "o") (cS eW rfl B.dct boot_dict (ag (pv 3) ae)))
   (af (au (i:=10) sc.nd rfl (by walk_at "o") (cS eW rfl B.dct boot_dict (ag (aG (aI K) (bu hu (pv 0) ar (fun _ _=>rfl)) (aG (aH K) (pv 1) aj (fun _ _=>rfl)) (fun _ _=>rfl)) ae)))
   (af (au (i:=11) sc.nd rfl (by walk_at "o") aj)
   (af (dt PassesOwn.never rfl (bq K (pv 6)) (aM (i:=8) sc.nd rfl (by walk_at "o")) (ao (au (i:=11) sc.nd rfl (by walk_at "o") (aA dO (pv 11) (bh c_law_set hr (ag (pv 0) (ag (pv 9) (ag (pv 10) (ag (pv 8) (ag (bV hu (pv 4) (pv 8) ⟨rfl,rfl,rfl,rfl⟩) ae))))))))))
   (af (ba (dF K PySem.F.plainAttrs_list PySem.F.slot_list_append PySem.F.type_list_append bf (bu hu (pv 0) ar (fun _ _=>rfl)) (ag (pv 11) ae)))
   (ao (aw (bh c_law_note hr (ag (pv 0) (ag (pv 9) (ag (pv 10) (ag (aG (aH K) (pv 1) aj (fun _ _=>rfl)) ae)))))))))))))))))),?_⟩
  case S1=>exact kG.is (N:=NJ) (osc:=aq rV) (by decide +kernel)
  walk_at "rd";have HL0:=HL;obtain⟨hh,h1,h2,h3,h5,lm,ln,mm,nn,ne,am,an⟩:=HL;have gm:∀ {i:Nat}{m:Mp},ms[i]?=some m->mas[i]?=some (mas.getD i 0)/\H (mas.getD i 0)=some (.dK (aP sV m)):=fun {i m} e=>by
   have hi:i<mas.length:=by rw[lm];exact (List.getElem?_eq_some_iff.mp e).1
   have e1:mas[i]?=some (mas.getD i 0):=by simp[List.getD,hi]
   exact⟨e1,mm i _ m e1 e⟩
  obtain⟨eb1,hb⟩:=gm eb;obtain⟨eo1,ho⟩:=gm eo;obtain⟨et1,ht⟩:=gm et;intro I hI;refine⟨_,cI.of hd,tW,fun p hp=>⟨⟨_,cI.of aa⟩,?_⟩⟩;rw[E4];have s0:=(aE.refl H).new (o:=.tup [.int b,.int o,.int t]) hp;have f0:upd H p (.tup [.int b,.int o,.int t]) p=some (.tup [.int b,.int o,.int t]):=aa;generalize upd H p (.tup [.int b,.int o,.int t])=G0 at s0 f0 ⊢;refine pM (yS mas) (cI.of f0) (by show 3<=sizeLine;omega) (fun x hx R R' g1 g2=>?_) ?_
  ·have hx':∃ i:Nat,x=.int (i:Int)/\mas[i]?=some (mas.getD i 0):=by
    simp only[List.mem_cons,List.not_mem_nil,or_false] at hx;rcases hx with rfl|rfl|rfl
    ·exact⟨b,rfl,eb1⟩
    ·exact⟨o,rfl,eo1⟩
    ·exact⟨t,rfl,et1⟩
   obtain⟨i,rfl,ei⟩:=hx';refine⟨Wk.set rfl,?_⟩;walk_at "rd";exact⟨_,bE.k' (k:=.inr ("maps":Str)) (s0 _ _ hh) (bS _ _ _ _ _),a1,rfl,_,aO.of (s0 _ _ h1),_,bX (by rw[List.getElem?_map,ei];rfl),g1 _ (by show some (V.ref (mas.getD ((i:Int)).toNat 0))=_;rw[Int.toNat_natCast])⟩
  ·intro p1 hp1
   have e3:[V.int (b:Int),.int o,.int t].filterMap (yS mas)=[.ref (mas.getD b 0),.ref (mas.getD o 0),.ref (mas.getD t 0)]:=by
    show [V.ref (mas.getD ((b:Int)).toNat 0),.ref (mas.getD ((o:Int)).toNat 0),.ref (mas.getD ((t:Int)).toNat 0)]=_;simp only[Int.toNat_natCast]
   rw[e3];have s1:=s0.trans ((aE.refl G0).new (o:=.lst [.ref (mas.getD b 0),.ref (mas.getD o 0),.ref (mas.getD t 0)]) hp1);have f1:upd G0 p1 (.lst [.ref (mas.getD b 0),.ref (mas.getD o 0),.ref (mas.getD t 0)]) p1=some (.lst [.ref (mas.getD b 0),.ref (mas.getD o 0),.ref (mas.getD t 0)]):=aa;generalize upd G0 p1 (.lst [.ref (mas.getD b 0),.ref (mas.getD o 0),.ref (mas.getD t 0)])=G1 at s1 f1 ⊢;refine⟨_,aO.of f1,rfl,_,_,rfl,_,_,rfl,_,_,rfl,rfl,?_⟩;refine hI.go ?_;walk_at "rd";intro I hI;refine⟨_,_,mb,mo,rfl,s1 _ _ hb,s1 _ _ ho,by omega,by omega,u1,fun p2 G2 hp2 f2 kp2=>?_⟩;refine hI.go ?_;walk_at "rd";have s2:aE H G2:=fun c oo hc=>kp2 c oo (s1 c oo hc) (by simp);intro I hI;refine⟨_,_,mb,mt,rfl,s2 _ _ hb,s2 _ _ ht,by omega,by omega,u2,fun p3 G3 hp3 f3 kp3=>?_⟩;refine hI.go ?_;walk_at "rd";have s3:aE G2 G3:=fun c oo hc=>kp3 c oo hc (by simp);refine⟨by omega,fun p4 hp4=>⟨⟨_,aO.of (by rw[ah (ai (s3 _ _ f2) hp4)];exact s3 _ _ f2)⟩,?_⟩⟩;have s4:=(s2.trans s3).trans ((aE.refl G3).new (o:=.lst []) hp4);have s4':=(aE.refl G3).new (o:=.lst []) hp4;have f4:upd G3 p4 (.lst []) p4=some (.lst []):=aa;have n4:H p4=none:=(s2.trans s3).free hp4;have f2':=s4' _ _ (s3 _ _ f2);have f3':=s4' _ _ f3;generalize upd G3 p4 (.lst [])=G4 at s4 s4' f4 f2' f3' ⊢;have nlist:∀ {c:Addr}{oo:HO},H c=some oo->c∉[p4]:=fun hc=>by
    simp only[List.mem_cons,List.not_mem_nil,or_false];exact ai hc n4
   have np2:p2∉[p4]:=by
    simp only[List.mem_cons,List.not_mem_nil,or_false];exact ai (s3 _ _ f2) hp4
   have np3:p3∉[p4]:=by
    simp only[List.mem_cons,List.not_mem_nil,or_false];exact ai f3 hp4
   refine cq (K:=K) (a:=p2) (xs:=(bw mb mo).map sV) (fun i σ H2=>Hg G4 [some (.ref h),some (.ref d),some (.ref (mas.getD b 0)),some (.ref (mas.getD o 0)),some (.ref (mas.getD t 0)),some (.ref p2),some (.ref p3)] p4
    ((((bw mb mo).take i).filter fun n=>decide (n∈bw mb mt) && decide (ak mo n≠ak mt n)).map (eZ mb mo mt)) σ H2) ⟨⟨none,rfl⟩,⟨[],f4,.nil⟩,Kp.refl _ _⟩ (fun i σ H2 I=>aO.of (I.kp _ _ f2' np2)) ?_ ?_
   ·rintro i y σ H2 hi ⟨⟨nm,rfl⟩,⟨rs,hrs,prs⟩,kp⟩
    rw[List.getElem?_map] at hi
    cases en':(bw mb mo)[i]? with
    | none=>rw[en'] at hi;cases hi
    | some n =>
     rw[en'] at hi;have hy:y=sV n:=(Option.some.inj hi).symm;subst hy;have hb2:=kp _ _ (s4 _ _ hb) (nlist hb);have ho2:=kp _ _ (s4 _ _ ho) (nlist ho);have ht2:=kp _ _ (s4 _ _ ht) (nlist ht);have hp32:=kp _ _ f3' np3;walk_at "rd";have enx:((bw mb mo).take (i+1)).filter (fun n=>decide (n∈bw mb mt) && decide (ak mo n≠ak mt n))=((bw mb mo).take i).filter (fun n=>decide (n∈bw mb mt) && decide (ak mo n≠ak mt n))++(if (decide (n∈bw mb mt) && decide (ak mo n≠ak mt n))=true then [n] else []):=by
      rw[List.take_add_one,en',List.filter_append];congr 1
      cases hq:(decide (n∈bw mb mt) && decide (ak mo n≠ak mt n)) with
      | true=>simp only[Option.toList,List.filter_cons,hq,if_true,List.filter_nil]
      | false=>simp only[Option.toList,List.filter_cons,hq,Bool.false_eq_true,if_false,List.filter_nil]
     refine⟨_,.inl (aO.of hp32),rfl,uL _,?_⟩;rw[yo]
     by_cases c1:n∈bw mb mt
     ·rw[if_pos (decide_eq_true c1)]
      refine⟨.inl ⟨_,.inl ho2⟩,_,bE.k (k:=.inr (tx n)) ho2,.inl ⟨_,.inl ht2⟩,_,bE.k (k:=.inr (tx n)) ht2,?_⟩;rw[bR,bR,dw,dw];refine⟨gL _ _,?_⟩
      by_cases c2:ak mo n=ak mt n
      ·rw[if_neg (by simp[c2])]
       rw[enx,if_neg (by simp[c2]),List.append_nil];exact⟨⟨_,rfl⟩,⟨rs,hrs,prs⟩,kp⟩
      ·rw[if_pos (by simp[dW,c2])]
       refine⟨.inl ⟨rfl,_,aO.of hrs⟩,.inl ⟨_,.inl hb2⟩,_,bE.k (k:=.inr (tx n)) hb2,.inl ⟨_,.inl ho2⟩,_,bE.k (k:=.inr (tx n)) ho2,.inl ⟨_,.inl ht2⟩,_,bE.k (k:=.inr (tx n)) ht2,by omega,fun p5 hp5=>⟨_,by rw[ah (ai hrs hp5)];exact hrs,?_,?_⟩⟩
       ·have q1:=Paired.length prs
        have q2:=List.length_filter_le (fun n=>decide (n∈bw mb mt) && decide (ak mo n≠ak mt n)) ((bw mb mo).take i);have q3:(bw mb mo).length<=(bY mb mo).length:=by
         unfold bw;refine Nat.le_trans (List.length_filter_le _ _) ?_;rw[(aR _).length_eq];exact Nat.le_refl _
        rw[List.length_map] at q1;rw[List.length_take] at q2;rw[List.length_map];omega
       ·rw[enx,if_pos (by simp[c1,c2]),List.map_append,bR,bR,bR,dw,dw,dw]
        have g5:∀ c oo,H2 c=some oo->c≠p4->upd (upd H2 p5 (.tup [sV n,oV (ak mb n),oV (ak mo n),oV (ak mt n)])) p4 (.lst (rs.map V.ref++[.ref p5])) c=some oo:=fun c oo hc hne=>by
         rw[ah hne,ah (ai hc hp5)];exact hc
        refine⟨⟨_,rfl⟩,⟨rs++[p5],by rw[aa,List.map_append];rfl,?_⟩,fun c oo hc hn=>?_⟩
        ·refine Paired.snoc (Paired.imp' (fun c row hc=>g5 c _ hc (bO hc hrs (by intro z;cases z))) prs) ?_
         rw[ah (Ne.symm (ai hrs hp5)),aa]
         rfl
        ·exact g5 c oo (kp c oo hc hn) (by simpa using hn)
     ·rw[if_neg (by simp[c1])]
      rw[enx,if_neg (by simp[c1]),List.append_nil];exact⟨⟨_,rfl⟩,⟨rs,hrs,prs⟩,kp⟩
   ·rintro σ H2 ⟨⟨nm,rfl⟩,⟨rs,hrs,prs⟩,kp⟩
    rw[List.length_map,List.take_length] at prs;have prs:Paired (fun a row=>H2 a=some (.tup (eF row))) rs (bQ mb mo mt):=prs;have sH:aE H H2:=fun c oo hc=>kp c oo (s4 c oo hc) (nlist hc);walk_at "rd";intro I hI;refine⟨by omega,fun p6 hp6=>⟨_,aO.of (by rw[ah (ai hrs hp6)];exact hrs),aO.of aa,?_⟩⟩;have s6:=(aE.refl H2).new (o:=.lst []) hp6;have HL6:=HL0.same (sH.trans s6);have hrs6:=s6 _ _ hrs;have prs6:=Paired.imp' (fun c row hc=>s6 c _ hc) prs;have hp36:=s6 _ _ (kp _ _ f3' np3);have sH6:=sH.trans s6;have hd6:=sH6 _ _ hd;generalize upd H2 p6 (.lst [])=G6 at s6 HL6 hrs6 prs6 hp36 sH6 hd6 ⊢;have erow:rs.map V.ref=[]↔bQ mb mo mt=[]:=by
     have:=Paired.length prs;rw[List.map_eq_nil_iff,<- List.length_eq_zero_iff,<- List.length_eq_zero_iff,this]
    obtain⟨hh6,h16,h26,h36,h56,_,_,mm6,nn6,ne6,_,_⟩:=HL6;simp only[List.nodup_cons,List.mem_cons,List.not_mem_nil,or_false,not_or,List.nodup_nil,not_false_eq_true,and_true] at ne;obtain⟨⟨x01,x02,x03,x05⟩,⟨x12,x13,x15⟩,⟨x23,x25⟩,x35⟩:=ne
    by_cases er:bQ mb mo mt=[]
    ·rw[if_neg (by simp[erow.mpr er])]
     refine hI.go ?_;walk_at "rd";have gn:nas[o]?=some (nas.getD o 0):=by
      have hi:o<nas.length:=by rw[ln];exact (List.getElem?_eq_some_iff.mp en).1
      simp[List.getD,hi]
     have hn0:=nn6 o _ nd gn en;refine⟨_,.inl (sH6 _ _ ho),fun p7 hp7=>?_⟩;have s7:=(aE.refl G6).new (o:=.dK (aP sV mo)) hp7;have f7:upd G6 p7 (.dK (aP sV mo)) p7=some (.dK (aP sV mo)):=aa;generalize upd G6 p7 (.dK (aP sV mo))=G7 at s7 f7 ⊢;refine⟨_,bE.k' (k:=.inr ("nodes":Str)) (s7 _ _ hh6) (gH _ _ _ _ _),_,cI.of (s7 _ _ hd6),.int (o:Int),rfl,a2,rfl,_,(o:Int),rfl,aO.of (s7 _ _ h26),.ref (nas.getD o 0),bX (by rw[List.getElem?_map,gn];rfl),_,rfl,_,.inl (s7 _ _ hn0),fun p8 hp8=>?_⟩;have s8:=(aE.refl G7).new (o:=.dK (aP nV nd)) hp8;have f8:upd G7 p8 (.dK (aP nV nd)) p8=some (.dK (aP nV nd)):=aa;have f78:=s8 _ _ f7;have n78:p7≠p8:=ai f7 hp8;generalize upd G7 p8 (.dK (aP nV nd))=G8 at s8 f8 f78 ⊢;have s68:=s7.trans s8;have sH8:=sH6.trans s68;have n7H:∀ {c:Addr}{oo:HO},G6 c=some oo->c≠p7:=fun hc=>ai hc hp7;have n8H:∀ {c:Addr}{oo:HO},G6 c=some oo->c≠p8:=fun hc=>ai (s7 _ _ hc) hp8;have nin:∀ {c:Addr}{oo:HO},G6 c=some oo->c≠h->c∉[h,p7,p8]:=fun hc hne=>by
      simp only[List.mem_cons,List.not_mem_nil,or_false,not_or];exact⟨hne,n7H hc,n8H hc⟩
     have dkt:∀ {c:Addr}{vs:List V},G6 c=some (.lst vs)->c≠h:=fun hc=>bO hc hh6 (by intro z;cases z);have n8:p8≠h:=Ne.symm (n8H hh6);have n7:p7≠h:=Ne.symm (n7H hh6);have lr:(bw mb mt).length<64:=by
      refine Nat.lt_of_le_of_lt ?_ u2;unfold bw;refine Nat.le_trans (List.length_filter_le _ _) ?_;rw[(aR _).length_eq];exact Nat.le_refl _
     have fb:∀ i,gU (((bw mb mt).take i).foldl (aY mt) ⟨0,st,mo,nd⟩).m (((bw mb mt).take i).foldl (aY mt) ⟨0,st,mo,nd⟩).nd/\(((bw mb mt).take i).foldl (aY mt) ⟨0,st,mo,nd⟩).m.length<=200/\(((bw mb mt).take i).foldl (aY mt) ⟨0,st,mo,nd⟩).nd.length<=600000:=fun i=>by
      obtain⟨q1,q2,q3⟩:=ox (mt:=mt) (st:=st) nok ((bw mb mt).take i) fun n hn=>u3 n (List.mem_of_mem_take hn);have q4:((bw mb mt).take i).length<=64:=by rw[List.length_take];omega
      exact⟨q1,by omega,by omega⟩
     have hp38:=s68 _ _ hp36;have ht8:=sH8 _ _ ht;have np:∀ {c:Addr}{oo:HO},H c=some oo->c≠h->c∉[h,p7,p8]:=fun hc hne=>nin (sH6 _ _ hc) hne;refine⟨⟨_,aO.of hp38⟩,?_⟩;refine cq (K:=K) (a:=p3) (xs:=(bw mb mt).map sV) (fun i σ H2=>Hk G8 [some (.ref h),some (.ref d),some (.ref (mas.getD b 0)),some (.ref (mas.getD o 0)),some (.ref (mas.getD t 0)),some (.ref p2),some (.ref p3),some (.ref p4)] h a1 a2 a3 a5 p7 p8 (((bw mb mt).take i).foldl (aY mt) ⟨0,st,mo,nd⟩) σ H2)
      ⟨⟨nm,rfl⟩,s68 _ _ hh6,f78,f8,Kp.refl _ _⟩ (fun i σ H2 I=>aO.of (I.kp _ _ hp38 (nin hp36 (dkt hp36)))) ?_ ?_
     ·rintro i y σ H9 hi ⟨⟨nm',rfl⟩,hh9,hv9,hn9,kp9⟩
      rw[List.getElem?_map] at hi
      cases en':(bw mb mt)[i]? with
      | none=>rw[en'] at hi;cases hi
      | some n =>
       rw[en'] at hi;have hy:y=sV n:=(Option.some.inj hi).symm;subst hy;obtain⟨q1,q2,q3⟩:=fb i;have enx:((bw mb mt).take (i+1)).foldl (aY mt) ⟨0,st,mo,nd⟩=aY mt (((bw mb mt).take i).foldl (aY mt) ⟨0,st,mo,nd⟩) n:=by
        rw[List.take_add_one,en',List.foldl_append]
        rfl
       generalize ((bw mb mt).take i).foldl (aY mt) ⟨0,st,mo,nd⟩=acc at hh9 hv9 hn9 q1 q2 q3 enx ⊢;have tne:mas.getD t 0≠h:=am _ (List.mem_of_getElem? et1);have ht9:=kp9 _ _ ht8 (np ht tne);walk_at "rd";refine⟨.inl ⟨_,.inl ht9⟩,_,bE.k (k:=.inr (tx n)) ht9,?_⟩;rw[bR,dw];refine⟨h,p7,p8,a1,a2,a3,a5,acc.m,acc.nd,acc.st,n,ak mt n,rfl,hh9,hv9,hn9,Ne.symm n7,Ne.symm n8,n78,u3 n (List.mem_of_getElem? en'),by omega,by omega,vA q1 n _,fun H' e1 e2 e3 kp'=>?_⟩;refine⟨(acc.made:Int),rfl,_,rfl,?_⟩;rw[enx];exact⟨⟨_,rfl⟩,e1,e2,e3,kp9.trans kp'⟩
     ·rintro σ H9 ⟨⟨nm',rfl⟩,hh9,hv9,hn9,kp9⟩
      rw[List.length_map,List.take_length] at hh9 hv9 hn9 ⊢;have k2:=k2 er;have ej:(bw mb mt).foldl (aY mt) ⟨0,st,mo,nd⟩=bF mb mo mt nd st:=rfl;rw[ej] at hh9 hv9 hn9 ⊢;have h59:=kp9 _ _ (s68 _ _ h56) (nin h56 (dkt h56));have h19:=kp9 _ _ (s68 _ _ h16) (nin h16 (dkt h16));have h29:=kp9 _ _ (s68 _ _ h26) (nin h26 (dkt h26));have h39:=kp9 _ _ (s68 _ _ h36) (nin h36 (dkt h36));have hd9:=kp9 _ _ (s68 _ _ hd6) (nin hd6 (bO hd6 hh6 (by intro z;cases z)));walk_at "rd";refine⟨_,bE.k' (k:=.inr ("made":Str)) hh9 (eQ _ _ _ _ _),.inl ⟨rfl,_,aO.of h59⟩,a5,rfl,_,h59,by rw[List.length_map];omega,_,cI.of (by rw[ah (bO hd9 h59 (by intro z;cases z))];exact hd9),.int (o:Int),rfl,?_⟩;have c9:∀ c oo,H9 c=some oo->c≠a5->upd H9 a5 (.lst (made.map nV++[nV (bF mb mo mt nd st).made])) c=some oo:=fun c oo hc hne=>by rw[ah hne];exact hc
      have dk5:∀ {c:Addr}{kvs:List (Key×V)},H9 c=some (.dK kvs)->c≠a5:=fun hc=>bO hc h59 (by intro z;cases z);have mm9:∀ (i:Nat) a m,mas[i]?=some a->ms[i]?=some m->H9 a=some (.dK (aP sV m)):=fun i a m e1 e2=>kp9 _ _ (s68 _ _ (mm6 i a m e1 e2)) (nin (mm6 i a m e1 e2) (am a (List.mem_of_getElem? e1)));have nn9:∀ (i:Nat) a m,nas[i]?=some a->ns[i]?=some m->H9 a=some (.dK (aP nV m)):=fun i a m e1 e2=>kp9 _ _ (s68 _ _ (nn6 i a m e1 e2)) (nin (nn6 i a m e1 e2) (an a (List.mem_of_getElem? e1)));refine⟨h,a1,a2,a3,a5,p7,p8,ms,ns,par,(bF mb mo mt nd st).st,made++[(bF mb mo mt nd st).made],mas,nas,(bF mb mo mt nd st).m,(bF mb mo mt nd st).nd,some o,rfl,
       ⟨c9 _ _ hh9 x05,c9 _ _ h19 x15,c9 _ _ h29 x25,c9 _ _ h39 x35,by rw[aa,List.map_append];rfl,lm,ln,fun i a m e1 e2=>c9 _ _ (mm9 i a m e1 e2) (dk5 (mm9 i a m e1 e2)),fun i a m e1 e2=>c9 _ _ (nn9 i a m e1 e2) (dk5 (nn9 i a m e1 e2)),HL0.ne,am,an⟩,
       c9 _ _ hv9 (dk5 hv9),c9 _ _ hn9 (dk5 hn9),n7,n8,by omega,by omega,by omega,fun H' HL' kp'=>?_⟩
      refine k2 p7 p8 H' HL' fun c oo hc hn=>?_;simp only[List.mem_cons,List.not_mem_nil,or_false,not_or] at hn;refine kp' c oo (c9 c oo (kp9 c oo (sH8 c oo hc) (np hc hn.1)) hn.2.2.2.2) ?_;simp only[List.mem_cons,List.not_mem_nil,or_false,not_or];exact⟨hn.2.1,hn.2.2.1,hn.2.2.2.1⟩
    ·rw[if_pos (by simp[erow,er])]
     refine⟨_,bE.k' (k:=.inr ("made":Str)) hh6 (eQ _ _ _ _ _),.inl ⟨rfl,_,aO.of h56⟩,a5,rfl,_,h56,by rw[List.length_map];omega,by omega,fun p7 hp7=>?_⟩;have s7:∀ c oo,G6 c=some oo->c≠a5->upd (upd G6 a5 (.lst (made.map nV++[.int 0]))) p7 (.tup [.str ("clash":Str),.ref p4]) c=some oo:=fun c oo hc hne=>by
      have x1:upd G6 a5 (.lst (made.map nV++[.int 0])) c=some oo:=by rw[ah hne];exact hc
      rw[ah (ai x1 hp7)];exact x1
     have f7:upd (upd G6 a5 (.lst (made.map nV++[.int 0]))) p7 (.tup [.str ("clash":Str),.ref p4]) a5=some (.lst ((made++[0]).map nV)):=by
      rw[ah (ai aa hp7),aa,List.map_append];rfl
     have dka:∀ {c:Addr}{kvs:List (Key×V)},G6 c=some (.dK kvs)->c≠a5:=fun hc=>bO hc h56 (by intro z;cases z);refine k1 er _ _ ⟨s7 _ _ hh6 x05,s7 _ _ h16 x15,s7 _ _ h26 x25,s7 _ _ h36 x35,f7,lm,ln,fun i a m e1 e2=>s7 _ _ (mm6 i a m e1 e2) (dka (mm6 i a m e1 e2)),fun i a m e1 e2=>s7 _ _ (nn6 i a m e1 e2) (dka (nn6 i a m e1 e2)),HL0.ne,am,an⟩ ⟨p7,p4,rs,rfl,n4,aa,s7 _ _ hrs6 (fun z=>nlist h5 (by rw[<- z];simp)),Paired.imp' (fun c row hc=>s7 c _ hc (bO hc h56 (by intro z;cases z))) prs6⟩ fun c oo hc hn=>s7 c oo (sH6 c oo hc) (by simpa using hn)
end
end
section
section
inductive cb where
 | put (v:Int) (n x:Nm)
 | take (v:Int) (n:Nm)
 | join (b o t:Int)
noncomputable def bT:cb->List V
 | .put v n x=>[.str ("put":Str),.int v,sV n,sV x]
 | .take v n=>[.str ("take":Str),.int v,sV n]
 | .join b o t=>[.str ("join":Str),.int b,.int o,.int t]
noncomputable def bI:cb->List Int
 | .put v _ _=>[v]
 | .take v _=>[v]
 | .join b o t=>[b,o,t]
noncomputable def ky:cb->Option Nm
 | .put _ n _=>some n
 | .take _ n=>some n
 | .join _ _ _=>none
inductive xO where
 | ver (n:Nat)
 | noV
 | noN
 | clash (rows:List Row)
noncomputable def cC (F:Addr->Prop) (H:Hp) (v:V):xO->Prop
 | .ver n=>v=nV n
 | .noV=>v=.str ("no version":Str)
 | .noN=>v=.str ("no name":Str)
 | .clash rows=>gA F H v rows
structure LS where
 ms:List Mp
 ns:List Nd
 par:List (Option Nat)
 st:Nat
 made:List Nat
noncomputable def e_ (S:LS) (d:cb):Bool:=(bI d).any fun i=>decide (i<0) || decide ((S.ms.length:Int)<=i)
noncomputable def fJ (d:cb):Bool:=match ky d with
 | some n=>!isNm n
 | none=>false
noncomputable def pz (S:LS) (v:Nat) (n:Nm) (to:Option Nm):LS :=
 let r:=bU (S.ms.getD v []) (S.ns.getD v []) S.st n to
 ⟨S.ms++[r.m],S.ns++[r.nd],S.par++[some v],r.st,S.made++[r.made]⟩
noncomputable def aC (S:LS) (d:cb):xO×LS :=
 if e_ S d=true then (.noV,{ S with made:=S.made++[0] }) else
 if fJ d=true then (.noN,{ S with made:=S.made++[0] }) else
 match d with
 | .put v n x=>(.ver S.ms.length,pz S v.toNat n (some x))
 | .take v n=>(.ver S.ms.length,pz S v.toNat n none)
 | .join b o t =>
  let mb:=S.ms.getD b.toNat []
  let mo:=S.ms.getD o.toNat []
  let mt:=S.ms.getD t.toNat []
  if bQ mb mo mt=[] then
   let r:=bF mb mo mt (S.ns.getD o.toNat []) S.st
   (.ver S.ms.length,⟨S.ms++[r.m],S.ns++[r.nd],S.par++[some o.toNat],r.st,S.made++[r.made]⟩)
  else (.clash (bQ mb mo mt),{ S with made:=S.made++[0] })
structure Eb (S:LS):Prop where
 l1:S.ms.length<=900
 l2:S.ns.length=S.ms.length
 l3:S.par.length=S.ms.length
 l4:S.made.length<=900
 mp:∀ (i:Nat) m,S.ms[i]?=some m->m.length<=100/\∀ n,(ak m n).isSome=true->n.length<=1000
 nd:∀ (i:Nat) m n,S.ms[i]?=some m->S.ns[i]?=some n->gU m n/\n.length<=500000
 un:∀ (i j:Nat) m m',S.ms[i]?=some m->S.ms[j]?=some m'->(bY m m').length<64
noncomputable abbrev EF:Stmt:=top 46
noncomputable abbrev NP:List Str:=["_law_hall","_law_deed","_law_versions","_law_word","_law_version","_law_values","_law_nodes","_law_to"]
theorem Gm:az NP ["_law_hall","_law_deed"] (aq EF):=by walk_at "s"
theorem xC:(["_law_part"]:List Str).Nodup:=by decide +kernel
noncomputable def A9:Sp:=fun vs H Q _=>∃ (h a1 a2 a3 a5 d:Addr) (S:LS) (mas nas:List Addr) (D:cb),vs=[.ref h,.ref d] /\
 gq H h a1 a2 a3 a5 S.ms S.ns S.par S.st S.made mas nas/\H d=some (.tup (bT D))/\Eb S/\(∀ n,ky D=some n->n.length<=1000) /\
 ∀ v mas' nas' H',cC (fun r=>H r=none) H' v (aC S D).1->gq H' h a1 a2 a3 a5 (aC S D).2.ms (aC S D).2.ns (aC S D).2.par (aC S D).2.st (aC S D).2.made mas' nas'->Kp H H' [h,a1,a2,a3,a5]->Q v H'
theorem DM (D:cb):gp (bT D) (some 1) none=(bT D).tail:=by cases D <;> rfl
theorem xD (D:cb):¬ (HT.cL (bT D).length 0 (some 1)=0/\HT.cL (bT D).length (bT D).length none=(bT D).length):=by
 have e1:¬ (HT.cL 4 0 (some 1)=0/\HT.cL 4 4 none=4):=by decide
 have e2:¬ (HT.cL 3 0 (some 1)=0/\HT.cL 3 3 none=3):=by decide
 cases D
 ·exact e1
 ·exact e2
 ·exact e1
noncomputable def GI:V->Option V
 | .str _=>none
 | x=>some x
theorem Dc (D:cb):(bT D).tail.filterMap GI=(bI D).map V.int:=by cases D <;> rfl
noncomputable def wj (b:Bool):V:=if b=true then .str ("no version":Str) else .str ("":Str)
noncomputable def hE (S:LS) (i:Int):Bool:=decide (i<0) || decide ((S.ms.length:Int)<=i)
theorem jl (S:LS) (D:cb):e_ S D=(bI D).any (hE S):=rfl
structure GV (H1:Hp) (h d pv:Addr) (b:Bool) (σ:L2.St) (H2:Hp):Prop where
 ls:∃ x,σ=[some (.ref h),some (.ref d),some (.ref pv),some (wj b),x,none,none,none]
 hp:H2=H1
theorem Ds:¬ (("no version":Str)=("":Str)):=by decide +kernel
theorem F9:¬ (("no name":Str)=("":Str)):=by decide +kernel
theorem Fx:¬ (("put":Str)=("join":Str)):=by decide +kernel
theorem E6:¬ (("take":Str)=("join":Str)):=by decide +kernel
theorem Gs:¬ (("take":Str)=("put":Str)):=by decide +kernel
noncomputable def zg (S:LS) (D:cb):Str:=if e_ S D=true then "no version" else if fJ D=true then "no name" else ""
theorem mr (S:LS) (D:cb):(∃ b o t,D=.join b o t)\/∃ (tag:Str) (v:Int) (n:Nm) (to:Option Nm),mj (bT D) 0=some (.str tag)/\mj (bT D) 1=some (.int v)/\mj (bT D) 2=some (sV n)/\ky D=some n/\v∈bI D/\¬ tag="join" /\
  (tag="put"/\(∃ x,to=some x/\mj (bT D) 3=some (sV x))\/¬ tag="put"/\to=none)/\(e_ S D=false->fJ D=false->aC S D=(.ver S.ms.length,pz S v.toNat n to)):=by
 cases D with
 | put v n x=>exact .inr ⟨"put",v,n,some x,rfl,rfl,rfl,rfl,by simp[bI],Fx,.inl ⟨rfl,x,rfl,rfl⟩,fun e1 e2=>by unfold aC;rw[if_neg (by simp[e1]),if_neg (by simp[e2])]⟩
 | take v n=>exact .inr ⟨"take",v,n,none,rfl,rfl,rfl,rfl,by simp[bI],E6,.inr ⟨Gs,rfl⟩,fun e1 e2=>by unfold aC;rw[if_neg (by simp[e1]),if_neg (by simp[e2])]⟩
 | join b o t=>exact .inl ⟨b,o,t,rfl⟩
theorem C_ {f:Addr}{fd:FuncData} (B:Bl mg) (c_law_is_name:bM P w K mg base aQ 3 "_law_is_name" ["_law_name"] vM) (c_law_joining:bM P w K mg base aQ 3 "_law_joining" ["_law_hall","_law_deed"] rC) (c_law_set:bM P w K mg base aQ 3 "_law_set" ["_law_hall","_law_values","_law_nodes","_law_name","_law_to"] so)
  (c_law_note:bM P w K mg base aQ 3 "_law_note" ["_law_hall","_law_values","_law_nodes","_law_parent"] mv) (F:cG K "_law_plainly" "_law_plainly" EF f fd):aS P w K mg base aQ 4 f fd ["_law_hall","_law_deed"] A9:=by
 have sc:=Gm;walk_at "f"
 ·obtain⟨_,_,_,_,_,_,_,_,_,_,rfl,_⟩:=h
  rfl
 ·obtain⟨h,a1,a2,a3,a5,d,S,mas,nas,D,rfl,HL,hd,pre,ln,k⟩:=h
  have hu0:=hr.cu;have hu:=dk hr;have hs:=sizeLine_eq;refine⟨_,(af (gY (i:=2) (N':=["_law_part"]) (ix:=[none]) sc.nd rfl rfl rfl ?S1 (nY K (dq (ny K) (pv 1) (dD aj) fe)) (fun cl C fp s H=>(aM (i:=0) xC rfl (by walk_at "o"))) (fun cl C fp s H=>(dA (eM (cK (br (bL K) rfl B.isi boot_isinstance (ag (pv 0) (ag (cv (v:=.ty "str") rfl B.str boot_str rfl) ae))))))) (fun cl C fp s H=>(pv 0)))
   (af (au (i:=3) sc.nd rfl (by walk_at "o") ar)
   (af (dt PassesOwn.never rfl (bq K (pv 2)) (aM (i:=4) sc.nd rfl (by walk_at "o")) (ao (a_ (PW.pt (hJ (aF oS (pv 4) aj (aK _)) (fU (aF za (pv 4) (br (bc K) rfl B.len boot_len (ag (bu hu (pv 0) ar (fun _ _=>rfl)) ae)) (aK _))))) (ao (au (i:=3) sc.nd rfl (by walk_at "o") ar)) aJ)))
   (af (eE (a_ (PW.pt (jN (aF dj (pv 3) ar (aK _)) (jN (aF dS (aG (aH K) (pv 1) aj (fun _ _=>rfl)) ar (aK _)) (jt (eM (cK (bh c_law_is_name hr (ag (aG (aH K) (pv 1) aj (fun _ _=>rfl)) ae)))))))) (ao (au (i:=3) sc.nd rfl (by walk_at "o") ar)) aJ))
   (af (a_ (aF dS (pv 3) ar (aK _)) (af (ba (dF K PySem.F.plainAttrs_list PySem.F.slot_list_append PySem.F.type_list_append bf (bu hu (pv 0) ar (fun _ _=>rfl)) (ag aj ae)))
    (ao (aw (pv 3)))) aJ)
   (af (a_ (aF dj (aG (aH K) (pv 1) aj (fun _ _=>rfl)) ar (aK _)) (ao (aw (bh c_law_joining hr (ag (pv 0) (ag (pv 1) ae))))) aJ)
   (af (au (i:=5) sc.nd rfl (by walk_at "o") (cS eW rfl B.dct boot_dict (ag (aG (aI K) (bu hu (pv 0) ar (fun _ _=>rfl)) (aG (aH K) (pv 1) aj (fun _ _=>rfl)) (fun _ _=>rfl)) ae)))
   (af (au (i:=6) sc.nd rfl (by walk_at "o") (cS eW rfl B.dct boot_dict (ag (aG (aI K) (bu hu (pv 0) ar (fun _ _=>rfl)) (aG (aH K) (pv 1) aj (fun _ _=>rfl)) (fun _ _=>rfl)) ae)))
   (af (au (i:=7) sc.nd rfl (by walk_at "o") fP)
   (af (eE (a_ (aF dj (aG (aH K) (pv 1) aj (fun _ _=>rfl)) ar (aK _)) (ao (au (i:=7) sc.nd rfl (by walk_at "o") (aG (aH K) (pv 1) aj (fun _ _=>rfl)))) aJ))
   (af (ba (dF K PySem.F.plainAttrs_list PySem.F.slot_list_append PySem.F.type_list_append bf (bu hu (pv 0) ar (fun _ _=>rfl)) (ag (bh c_law_set hr (ag (pv 0) (ag (pv 5) (ag (pv 6) (ag (aG (aH K) (pv 1) aj (fun _ _=>rfl)) (ag (pv 7) ae)))))) ae)))
   (ao (aw (bh c_law_note hr (ag (pv 0) (ag (pv 5) (ag (pv 6) (ag (aG (aH K) (pv 1) aj (fun _ _=>rfl)) ae)))))))))))))))))),?_⟩
  case S1=>exact kG.is (N:=NP) (osc:=aq EF) (by decide +kernel)
  walk_at "rd";have HL0:=HL;obtain⟨hh,h1,h2,h3,h5,lm,lnn,mm,nn,ne,am,an⟩:=HL;refine⟨_,cI.of hd,xD D,fun p hp=>⟨⟨_,cI.of aa⟩,?_⟩⟩;rw[DM];have s0:=(aE.refl H).new (o:=.tup (bT D).tail) hp;have f0:upd H p (.tup (bT D).tail) p=some (.tup (bT D).tail):=aa;generalize upd H p (.tup (bT D).tail)=G0 at s0 f0 ⊢;refine pM GI (cI.of f0) (by cases D <;> (simp[bT];omega)) (fun x hx R R' g1 g2=>?_) ?_
  ·refine⟨Wk.set rfl,?_⟩
   have hx':(∃ y,x=.str y)\/∃ i,x=.int i:=by
    cases D <;> simp only[bT,List.tail_cons,List.mem_cons,List.not_mem_nil,or_false] at hx
    ·rcases hx with rfl|rfl|rfl
     ·exact .inr ⟨_,rfl⟩
     ·exact .inl ⟨_,rfl⟩
     ·exact .inl ⟨_,rfl⟩
    ·rcases hx with rfl|rfl
     ·exact .inr ⟨_,rfl⟩
     ·exact .inl ⟨_,rfl⟩
    ·rcases hx with rfl|rfl|rfl <;> exact .inr ⟨_,rfl⟩
   walk_at "rd";rcases hx' with ⟨y,rfl⟩|⟨i,rfl⟩
   ·refine⟨_,"str",⟨rfl,rfl⟩,true,_,cJ.str y,rfl,?_⟩
    exact Fy (g2 rfl)
   ·refine⟨_,"str",⟨rfl,rfl⟩,false,_,cJ.int i,rfl,?_⟩
    exact Fn (g1 _ rfl)
  ·intro p1 hp1
   rw[Dc];have s1:=s0.trans ((aE.refl G0).new (o:=.lst ((bI D).map V.int)) hp1);have f1:upd G0 p1 (.lst ((bI D).map V.int)) p1=some (.lst ((bI D).map V.int)):=aa;generalize upd G0 p1 (.lst ((bI D).map V.int))=G1 at s1 f1 ⊢;refine⟨⟨_,aO.of f1⟩,?_⟩;refine cq (K:=K) (a:=p1) (xs:=(bI D).map V.int) (fun i σ H2=>GV G1 h d p1 (((bI D).take i).any (hE S)) σ H2) ⟨⟨_,rfl⟩,rfl⟩ (fun i σ H2 I=>by rw[I.hp];exact aO.of f1) ?_ ?_
   ·rintro i y σ H2 hi ⟨⟨x,rfl⟩,rfl⟩
    rw[List.getElem?_map] at hi
    cases en':(bI D)[i]? with
    | none=>rw[en'] at hi;cases hi
    | some z =>
     rw[en'] at hi;have hy:y=.int z:=(Option.some.inj hi).symm;subst hy;walk_at "rd";have enx:((bI D).take (i+1)).any (hE S)=(((bI D).take i).any (hE S) || hE S z):=by
      rw[List.take_add_one,en',List.any_append];simp[Option.toList]
     rw[enx]
     by_cases c1:z<0
     ·rw[if_pos (decide_eq_true c1)]
      have e:hE S z=true:=by unfold hE;simp[c1]
      rw[e,Bool.or_true];exact⟨⟨_,rfl⟩,rfl⟩
     ·rw[if_neg (by simp[c1])]
      refine⟨_,bE.k' (k:=.inr ("maps":Str)) (s1 _ _ hh) (bS _ _ _ _ _),_,.inl ⟨_,aO.of (s1 _ _ h1),rfl⟩,?_⟩;rw[List.length_map,lm]
      by_cases c2:(S.ms.length:Int)<=z
      ·rw[if_pos (decide_eq_true c2)]
       have e:hE S z=true:=by unfold hE;simp[c2]
       rw[e,Bool.or_true];exact⟨⟨_,rfl⟩,rfl⟩
      ·rw[if_neg (by simp[c2])]
       have e:hE S z=false:=by unfold hE;simp[c1,c2]
       rw[e,Bool.or_false];exact⟨⟨_,rfl⟩,rfl⟩
   ·rintro σ H2 ⟨⟨x,rfl⟩,rfl⟩
    rw[List.length_map,List.take_length,<- jl];simp only[List.nodup_cons,List.mem_cons,List.not_mem_nil,or_false,not_or,List.nodup_nil,not_false_eq_true,and_true] at ne;obtain⟨⟨x01,x02,x03,x05⟩,⟨x12,x13,x15⟩,⟨x23,x25⟩,x35⟩:=ne;have refuse:∀ (G:Hp) (a:xO) (v:V),aE H G->(aC S D)=(a,{ S with made:=S.made++[0] })->(∀ G',cC (fun r=>H r=none) G' v a)->Q v (upd G a5 (.lst (S.made.map nV++[.int 0]))):=fun G a v sG el ha=>by
     have dk5:∀ {c:Addr}{kvs:List (Key×V)},H c=some (.dK kvs)->c≠a5:=fun hc=>bO hc h5 (by intro z;cases z);have g5:∀ c oo,H c=some oo->c≠a5->upd G a5 (.lst (S.made.map nV++[.int 0])) c=some oo:=fun c oo hc hne=>by rw[ah hne];exact sG c oo hc
     rw[el] at k;exact k v mas nas _ (ha _) ⟨g5 _ _ hh x05,g5 _ _ h1 x15,g5 _ _ h2 x25,g5 _ _ h3 x35,by rw[aa,List.map_append];rfl,lm,lnn,fun i a m e1 e2=>g5 _ _ (mm i a m e1 e2) (dk5 (mm i a m e1 e2)),fun i a m e1 e2=>g5 _ _ (nn i a m e1 e2) (dk5 (nn i a m e1 e2)),HL0.ne,am,an⟩ fun c oo hc hn=>by
      simp only[List.mem_cons,List.not_mem_nil,or_false,not_or] at hn;exact g5 c oo hc hn.2.2.2.2
    walk_at "rd";refine⟨fun σ' G=>aE H G/\σ'=[some (.ref h),some (.ref d),some (.ref p1),some (.str (zg S D)),x,none,none,none],?_,?_⟩
    ·cases eb:e_ S D with
     | true =>
      refine⟨rfl,?_⟩;rw[if_neg (by simp[wj,Ds])];exact⟨s1,by unfold zg;rw[eb];rfl⟩
     | false =>
      refine⟨rfl,?_⟩;rw[if_pos (by simp[wj])];refine⟨_,cI.of (s1 _ _ hd),?_⟩;rcases mr S D with ⟨b,o,t,rfl⟩|⟨tag,v,n,to,g0,_,g2,hdn,_,hj,_⟩
      ·refine⟨_,rfl,rfl,?_⟩
       rw[if_neg (by simp)];exact⟨s1,by unfold zg;rw[eb];rfl⟩
      ·refine⟨.str tag,g0,rfl,?_⟩
       rw[if_pos (by simp[hj])];refine⟨_,cI.of (s1 _ _ hd),sV n,g2,n,rfl,ln n hdn,fun H3 kp3=>⟨_,rfl,?_⟩⟩;have s3:aE H H3:=fun c oo hc=>kp3 c oo (s1 c oo hc) (by simp)
       cases ei:isNm n with
       | false =>
        rw[if_pos (by rfl)];exact⟨s3,by unfold zg;rw[eb,if_neg (by simp),if_pos (by unfold fJ;rw[hdn];dsimp only;rw[ei];rfl)]⟩
       | true =>
        rw[if_neg (by simp)];exact⟨s3,by unfold zg;rw[eb,if_neg (by simp),if_neg (by unfold fJ;rw[hdn];dsimp only;rw[ei];simp)];rfl⟩
    rintro _ G ⟨sG,rfl⟩;walk_at "rd"
    cases eb:e_ S D with
    | true =>
     rw[show zg S D="no version" from if_pos eb];refine⟨rfl,?_⟩;rw[if_pos (by simp[Ds])];refine⟨_,bE.k' (k:=.inr ("made":Str)) (sG _ _ hh) (eQ _ _ _ _ _),.inl ⟨rfl,_,aO.of (sG _ _ h5)⟩,a5,rfl,_,sG _ _ h5,by rw[List.length_map];have:=pre.l4;omega,?_⟩;exact refuse _ .noV _ sG (by unfold aC;rw[if_pos eb]) fun _=>rfl
    | false =>
     cases en0:fJ D with
     | true =>
      rw[show zg S D="no name" from (if_neg (by rw[eb];simp)).trans (if_pos en0)];refine⟨rfl,?_⟩;rw[if_pos (by simp[F9])];refine⟨_,bE.k' (k:=.inr ("made":Str)) (sG _ _ hh) (eQ _ _ _ _ _),.inl ⟨rfl,_,aO.of (sG _ _ h5)⟩,a5,rfl,_,sG _ _ h5,by rw[List.length_map];have:=pre.l4;omega,?_⟩;exact refuse _ .noN _ sG (by unfold aC;rw[if_neg (by simp[eb]),if_pos en0]) fun _=>rfl
     | false =>
      rw[show zg S D="" from (if_neg (by rw[eb];simp)).trans (if_neg (by rw[en0];simp))];refine⟨rfl,?_⟩;rw[if_neg (by simp)];refine⟨_,cI.of (sG _ _ hd),?_⟩;have gi:∀ {z:Int},z∈bI D->∃ i:Nat,z=(i:Int)/\i<S.ms.length:=fun {z} hz=>by
       rw[jl] at eb;have:=List.any_eq_false.mp eb z hz;unfold hE at this;simp only[Bool.or_eq_true,decide_eq_true_eq,not_or] at this;exact⟨z.toNat,by omega,by omega⟩
      rcases mr S D with ⟨zb,zo,zt,rfl⟩|⟨tag,v,n,to,g0,g1,g2,hdn,hvd,hj,hto,hel⟩
      ·obtain⟨b,rfl,hb⟩:=gi (z:=zb) (by simp[bI])
       obtain⟨o,rfl,ho⟩:=gi (z:=zo) (by simp[bI]);obtain⟨t,rfl,ht⟩:=gi (z:=zt) (by simp[bI]);have gm:∀ {i:Nat},i<S.ms.length->S.ms[i]?=some (S.ms.getD i []):=fun {i} hi=>by simp[List.getD,hi]
       have en:S.ns[o]?=some (S.ns.getD o []):=by have:=pre.l2;simp[List.getD,show o<S.ns.length by omega]
       refine⟨_,rfl,rfl,?_⟩;rw[if_pos (by simp)];have b1:=pre.l1;have b2:=pre.l2;have b3:=pre.l3;have b4:=pre.l4;have qb:=pre.mp b _ (gm hb);have qo:=pre.mp o _ (gm ho);have qt:=pre.mp t _ (gm ht);have qn:=pre.nd o _ _ (gm ho) en;have el0:aC S (.join (b:Int) (o:Int) (t:Int))=if bQ (S.ms.getD b []) (S.ms.getD o []) (S.ms.getD t [])=[] then
         (.ver S.ms.length,⟨S.ms++[(bF (S.ms.getD b []) (S.ms.getD o []) (S.ms.getD t []) (S.ns.getD o []) S.st).m],S.ns++[(bF (S.ms.getD b []) (S.ms.getD o []) (S.ms.getD t []) (S.ns.getD o []) S.st).nd],S.par++[some o],(bF (S.ms.getD b []) (S.ms.getD o []) (S.ms.getD t []) (S.ns.getD o []) S.st).st,S.made++[(bF (S.ms.getD b []) (S.ms.getD o []) (S.ms.getD t []) (S.ns.getD o []) S.st).made]⟩)
         else (.clash (bQ (S.ms.getD b []) (S.ms.getD o []) (S.ms.getD t [])),{ S with made:=S.made++[0] }):=by
        unfold aC;rw[if_neg (by simp[eb]),if_neg (by simp[fJ,ky])];simp only[Int.toNat_natCast]
       refine⟨h,a1,a2,a3,a5,d,S.ms,S.ns,S.par,S.st,S.made,mas,nas,b,o,t,S.ms.getD b [],S.ms.getD o [],S.ms.getD t [],S.ns.getD o [],rfl,HL0.same sG,sG _ _ hd,gm hb,gm ho,gm ht,en,by omega,by omega,by omega,by omega,qb.1,qo.1,qt.1,qn.2,qn.1,pre.un _ _ _ _ (gm hb) (gm ho),pre.un _ _ _ _ (gm hb) (gm ht),fun n hn=>?_,fun er v H' HL' ra kp'=>?_,fun er va na H' HL' kp'=>?_⟩
       ·have:=cT.mp hn
        by_cases e1:(ak (S.ms.getD b []) n).isSome=true
        ·exact qb.2 n e1
        ·refine qt.2 n ?_
         cases e2:ak (S.ms.getD t []) n with
         | some _=>rfl
         | none =>
          rw[Option.not_isSome_iff_eq_none] at e1;exact absurd (e1.trans e2.symm) this
       ·rw[el0,if_neg er] at k
        obtain⟨y1,y2,y3,y4,y5,y6⟩:=ra;exact k v mas nas H' ⟨y1,y2,y3,y4,sG.free y5,y6⟩ HL' fun c oo hc hn=>kp' c oo (sG c oo hc) fun z=>hn (by
         simp only[List.mem_cons,List.not_mem_nil,or_false] at z ⊢;exact .inr (.inr (.inr (.inr z))))
       ·rw[el0,if_pos er] at k
        exact k _ _ _ H' rfl HL' fun c oo hc hn=>kp' c oo (sG c oo hc) hn
      ·refine⟨.str tag,g0,rfl,?_⟩
       rw[if_neg (by simp[hj])];obtain⟨i,rfl,hi⟩:=gi (z:=v) hvd;have em:S.ms[i]?=some (S.ms.getD i []):=by simp[List.getD,hi]
       have en:S.ns[i]?=some (S.ns.getD i []):=by have:=pre.l2;simp[List.getD,show i<S.ns.length by omega]
       have ea:mas[i]?=some (mas.getD i 0):=by simp[List.getD,show i<mas.length by omega]
       have eq:nas[i]?=some (nas.getD i 0):=by have:=pre.l2;simp[List.getD,show i<nas.length by omega]
       have hm0:=mm i _ _ ea em;have hn0:=nn i _ _ eq en;refine⟨_,bE.k' (k:=.inr ("maps":Str)) (sG _ _ hh) (bS _ _ _ _ _),_,cI.of (sG _ _ hd),.int (i:Int),g1,a1,rfl,_,(i:Int),rfl,aO.of (sG _ _ h1),.ref (mas.getD i 0),bX (by rw[List.getElem?_map,ea];rfl),_,rfl,_,.inl (sG _ _ hm0),fun p7 hp7=>?_⟩;have s7:=(aE.refl G).new (o:=.dK (aP sV (S.ms.getD i []))) hp7;have f7:upd G p7 (.dK (aP sV (S.ms.getD i []))) p7=some (.dK (aP sV (S.ms.getD i []))):=aa;generalize upd G p7 (.dK (aP sV (S.ms.getD i [])))=G7 at s7 f7 ⊢;have t7:=sG.trans s7;refine⟨_,bE.k' (k:=.inr ("nodes":Str)) (t7 _ _ hh) (gH _ _ _ _ _),_,cI.of (t7 _ _ hd),.int (i:Int),g1,a2,rfl,_,(i:Int),rfl,aO.of (t7 _ _ h2),.ref (nas.getD i 0),bX (by rw[List.getElem?_map,eq];rfl),_,rfl,_,.inl (t7 _ _ hn0),fun p8 hp8=>?_⟩;have s8:=(aE.refl G7).new (o:=.dK (aP nV (S.ns.getD i []))) hp8;have f8:upd G7 p8 (.dK (aP nV (S.ns.getD i []))) p8=some (.dK (aP nV (S.ns.getD i []))):=aa;have f78:=s8 _ _ f7;have n78:p7≠p8:=ai f7 hp8;have n7:∀ {c:Addr}{oo:HO},H c=some oo->c≠p7:=fun hc=>ai (sG _ _ hc) hp7;have n8:∀ {c:Addr}{oo:HO},H c=some oo->c≠p8:=fun hc=>ai (t7 _ _ hc) hp8;generalize upd G7 p8 (.dK (aP nV (S.ns.getD i [])))=G8 at s8 f8 f78 ⊢;have t8:=t7.trans s8;refine⟨fun σ' G'=>G8=G'/\σ'=[some (.ref h),some (.ref d),some (.ref p1),some (.str (Str.ofString "")),x,some (.ref p7),some (.ref p8),some (oV to)],?_,?_⟩
       ·refine⟨_,cI.of (t8 _ _ hd),.str tag,g0,rfl,?_⟩
        rcases hto with ⟨rfl,xx,rfl,g3⟩|⟨ht,rfl⟩
        ·rw[if_pos (by simp)]
         exact⟨_,cI.of (t8 _ _ hd),sV xx,g3,rfl,rfl⟩
        ·rw[if_neg (by simp[ht])]
         exact⟨rfl,rfl⟩
       rintro _ _ ⟨rfl,rfl⟩;walk_at "rd";have el:=hel eb en0;rw[Int.toNat_natCast] at el;have q1:=pre.mp i _ em;have q2:=pre.nd i _ _ em en;refine⟨_,bE.k' (k:=.inr ("made":Str)) (t8 _ _ hh) (eQ _ _ _ _ _),.inl ⟨rfl,_,aO.of (t8 _ _ h5)⟩,_,cI.of (t8 _ _ hd),sV n,g2,h,p7,p8,a1,a2,a3,a5,S.ms.getD i [],S.ns.getD i [],S.st,n,to,rfl,t8 _ _ hh,f78,f8,n7 hh,n8 hh,n78,ln n hdn,by omega,by omega,vA q2.1 n _,fun H9 hh9 hv9 hn9 kp9=>?_⟩;have c8:∀ c oo,H c=some oo->c≠h->H9 c=some oo:=fun c oo hc hne=>kp9 c oo (t8 c oo hc) (by
        simp only[List.mem_cons,List.not_mem_nil,or_false,not_or];exact⟨hne,n7 hc,n8 hc⟩)
       have h59:=c8 _ _ h5 (Ne.symm x05);have hd9:=c8 _ _ hd (bO hd hh (by intro z;cases z));generalize er:bU (S.ms.getD i []) (S.ns.getD i []) S.st n to=r at hh9 hv9 hn9 ⊢;refine⟨a5,rfl,_,h59,by rw[List.length_map];have:=pre.l4;omega,_,cI.of (by rw[ah (bO hd9 h59 (by intro z;cases z))];exact hd9),.int (i:Int),g1,?_⟩;have c9:∀ c oo,H9 c=some oo->c≠a5->upd H9 a5 (.lst (S.made.map nV++[nV r.made])) c=some oo:=fun c oo hc hne=>by rw[ah hne];exact hc
       have dk5:∀ {c:Addr}{kvs:List (Key×V)},H9 c=some (.dK kvs)->c≠a5:=fun hc=>bO hc h59 (by intro z;cases z);have mm9:∀ (i:Nat) a m,mas[i]?=some a->S.ms[i]?=some m->H9 a=some (.dK (aP sV m)):=fun i a m e1 e2=>c8 _ _ (mm i a m e1 e2) (am a (List.mem_of_getElem? e1));have nn9:∀ (i:Nat) a m,nas[i]?=some a->S.ns[i]?=some m->H9 a=some (.dK (aP nV m)):=fun i a m e1 e2=>c8 _ _ (nn i a m e1 e2) (an a (List.mem_of_getElem? e1));have b1:=pre.l1;have b2:=pre.l2;have b3:=pre.l3;refine⟨h,a1,a2,a3,a5,p7,p8,S.ms,S.ns,S.par,r.st,S.made++[r.made],mas,nas,r.m,r.nd,some i,rfl,
        ⟨c9 _ _ hh9 x05,c9 _ _ (c8 _ _ h1 (Ne.symm x01)) x15,c9 _ _ (c8 _ _ h2 (Ne.symm x02)) x25,c9 _ _ (c8 _ _ h3 (Ne.symm x03)) x35,by rw[aa,List.map_append];rfl,lm,lnn,fun i a m e1 e2=>c9 _ _ (mm9 i a m e1 e2) (dk5 (mm9 i a m e1 e2)),fun i a m e1 e2=>c9 _ _ (nn9 i a m e1 e2) (dk5 (nn9 i a m e1 e2)),HL0.ne,am,an⟩,
        c9 _ _ hv9 (dk5 hv9),c9 _ _ hn9 (dk5 hn9),Ne.symm (n7 hh),Ne.symm (n8 hh),by omega,by omega,by omega,fun H' HL' kp'=>?_⟩
       rw[el] at k;unfold pz at k;rw[er] at k;refine k _ (mas++[p7]) (nas++[p8]) H' rfl HL' fun c oo hc hn=>?_;simp only[List.mem_cons,List.not_mem_nil,or_false,not_or] at hn;refine kp' c oo (c9 c oo (c8 c oo hc hn.1) hn.2.2.2.2) ?_;simp only[List.mem_cons,List.not_mem_nil,or_false,not_or];exact⟨hn.2.1,hn.2.2.1,hn.2.2.2.1⟩
end
end
section
section
noncomputable abbrev Fc:Stmt:=top 47
noncomputable abbrev Hd:List Str:=["_law_seed","_law_far","_law_spot","_law_first"]
theorem FI:az Hd ["_law_seed"] (aq Fc):=by walk_at "s"
noncomputable def AG:Sp:=fun vs H Q _=>∃ s:Nat,vs=[.int (s:Int)]/\s<2 ^ 64/\∀ (x:Str) H',x.length<=90->isNm x.cps.toList=true->Kp H H' []->Q (.str x) H'
theorem jX (a b:List Nat):isNm (a++b)=(isNm a && isNm b):=List.all_append
theorem kq {a b:List Nat} (h:isNm b=true) (hs:∀ c∈a,c∈b):isNm a=true:=by
 unfold isNm at *;rw[List.all_eq_true] at *;exact fun c hc=>h c (hs c hc)
theorem ef (a b:Str):(a++b).cps.toList=a.cps.toList++b.cps.toList:=by
 show (a.cps++b.cps).toList=_;simp
theorem mR (l:List Str) (n:Nat) (hl:(l.all fun x=>decide (x.length<=n) && isNm x.cps.toList)=true) (i:Int) (h0:0<=i) (h1:i<(l.length:Int)):∃ x:Str,mj (l.map V.str) i=some (.str x)/\x.length<=n/\isNm x.cps.toList=true:=by
 obtain⟨j,rfl⟩:=Int.eq_ofNat_of_zero_le h0;have hj:j<l.length:=by omega
 have q:=List.all_eq_true.mp hl _ (List.getElem_mem hj);rw[Bool.and_eq_true] at q;exact⟨l[j],bX (by rw[List.getElem?_map,List.getElem?_eq_getElem hj];rfl),of_decide_eq_true q.1,q.2⟩
theorem vz (x:Str) (i:Int) (h0:0<=i) (h1:i<=(x.length:Int)) (hx:isNm x.cps.toList=true):isNm (StrLaws.sliceText x none (some i)).cps.toList=true:=by
 obtain⟨j,rfl⟩:=Int.eq_ofNat_of_zero_le h0;have:j<=x.cps.toList.length:=by
  have e:x.length=x.cps.toList.length:=by simp[Str.length]
  rw[e] at h1;omega
 have h:=jB this;rw[<- gx x] at h;rw[h,dM];exact kq hx fun c hc=>List.mem_of_mem_take hc
theorem qU (x:Str) (i:Int) (h0:0<=i) (h1:i<=(x.length:Int)) (hx:isNm x.cps.toList=true):isNm (StrLaws.sliceText x (some i) none).cps.toList=true:=by
 obtain⟨j,rfl⟩:=Int.eq_ofNat_of_zero_le h0;have:j<=x.cps.toList.length:=by
  have e:x.length=x.cps.toList.length:=by simp[Str.length]
  rw[e] at h1;omega
 have h:=ke this;rw[<- gx x] at h;rw[h,dM];exact kq hx fun c hc=>List.mem_of_mem_drop hc
theorem wz (l:List Str) (n:Nat) (hl:(l.all fun x=>decide (x.length<=n))=true) (i:Int) (h0:0<=i) (h1:i<(l.length:Int)):∃ x:Str,mj (l.map V.str) i=some (.str x)/\x.length<=n:=by
 obtain⟨j,rfl⟩:=Int.eq_ofNat_of_zero_le h0;have hj:j<l.length:=by omega
 refine⟨l[j],bX (by rw[List.getElem?_map,List.getElem?_eq_getElem hj];rfl),?_⟩;exact of_decide_eq_true (List.all_eq_true.mp hl _ (List.getElem_mem hj))
theorem jk {α:Type} (l:List α) (i:Int) (h0:0<=i) (h1:i<(l.length:Int)):∃ x,mj l i=some x/\x∈l:=by
 obtain⟨j,rfl⟩:=Int.eq_ofNat_of_zero_le h0;have hj:j<l.length:=by omega
 exact⟨l[j],bX (List.getElem?_eq_getElem hj),List.getElem_mem hj⟩
theorem yO:(Str.ofString "abcdefghijklmnopqrstuvwxyzabcdefghijklmn").length=40:=by decide +kernel
theorem xS:(Str.ofString "abcdefghijklmnopqrstuvwxyz").length=26:=by decide +kernel
theorem tQ (x:Str) (i:Int) (h0:0<=i) (h1:i<=(x.length:Int)):(StrLaws.sliceText x none (some i)).length<=x.length:=by
 obtain⟨j,rfl⟩:=Int.eq_ofNat_of_zero_le h0;have:j<=x.cps.toList.length:=by
  have e:x.length=x.cps.toList.length:=by simp[Str.length]
  rw[e] at h1;omega
 have h:=jB this;rw[<- gx x] at h;rw[h,fz,List.length_take];have e:x.length=x.cps.toList.length:=by simp[Str.length]
 rw[e];exact Nat.min_le_right _ _
theorem oR (x:Str) (i:Int) (h0:0<=i) (h1:i<=(x.length:Int)):(StrLaws.sliceText x (some i) none).length<=x.length:=by
 obtain⟨j,rfl⟩:=Int.eq_ofNat_of_zero_le h0;have:j<=x.cps.toList.length:=by
  have e:x.length=x.cps.toList.length:=by simp[Str.length]
  rw[e] at h1;omega
 have h:=ke this;rw[<- gx x] at h;rw[h,fz,List.length_drop];have e:x.length=x.cps.toList.length:=by simp[Str.length]
 rw[e];exact Nat.sub_le _ _
theorem CL {f:Addr}{fd:FuncData} (B:Bl mg) (F:cG K "_law_name_by" "_law_name_by" Fc f fd):aS P w K mg base aQ 1 f fd ["_law_seed"] AG:=by
 have sc:=FI;walk_at "f"
 ·obtain⟨_,rfl,_⟩:=h
  rfl
 ·obtain⟨s,rfl,hs0,k⟩:=h
  have hu0:=hr.cu;have hu:=dk hr;have hs:=sizeLine_eq;refine⟨_,(af (a_ (aF dj (aA bp (pv 0) aj) aj (aK _)) (af (au (i:=1) sc.nd rfl (by walk_at "o") ar)
    (af (au (i:=2) sc.nd rfl (by walk_at "o") (aA bp (aA bZ (pv 0) aj) aj))
    (ao (aw (aA cA (aA cA (dq qB (pv 1) fe (dD (pv 2))) (aG (aI K) (aT (ag ar (ag ar ae))) (aA bp (aA bZ (pv 0) aj) aj) (fun _ _=>rfl))) (dq qB (pv 1) (dD (aA dO (pv 2) aj)) fe)))))) aJ)
   (af (a_ (aF dj (aA bp (pv 0) aj) aj (aK _)) (af (au (i:=3) sc.nd rfl (by walk_at "o") (aG qM ar (aA bp (aA bZ (pv 0) aj) aj) (fun _ _=>rfl)))
    (ao (aw (aA cA (pv 3) (aG (aI K) (aT (ag ar (ag ar (ag ar (ag ar ae))))) (aA bp (aA bZ (pv 0) aj) aj) (fun _ _=>rfl)))))) aJ)
   (ao (aw (aG (aI K) (aT (ag ar (ag ar (ag ar (ag ar (ag ar (ag ar (ag ar (ag ar (ag ar (ag ar (ag ar ae)))))))))))) (aA bp (pv 0) aj) (fun _ _=>rfl)))))),?_⟩
  walk_at "rd";have far:=yO;refine⟨by omega,rfl,?_⟩
  by_cases c1:(s:Int) % 23=7
  ·rw[if_pos (decide_eq_true c1)]
   have t1:=tQ (Str.ofString "abcdefghijklmnopqrstuvwxyzabcdefghijklmn") ((s:Int) / 23 % 40) (by omega) (by omega);have fn:isNm (Str.ofString "abcdefghijklmnopqrstuvwxyzabcdefghijklmn").cps.toList=true:=by decide +kernel
   have u1:=vz (Str.ofString "abcdefghijklmnopqrstuvwxyzabcdefghijklmn") ((s:Int) / 23 % 40) (by omega) (by omega) fn;have u2:=qU (Str.ofString "abcdefghijklmnopqrstuvwxyzabcdefghijklmn") ((s:Int) / 23 % 40+1) (by omega) (by omega) fn;have t2:=oR (Str.ofString "abcdefghijklmnopqrstuvwxyzabcdefghijklmn") ((s:Int) / 23 % 40+1) (by omega) (by omega);refine⟨by omega,by omega,by omega,by omega,fun p hp=>⟨by omega,by omega,_,aO.of aa,?_⟩⟩;obtain⟨x,e1,e2,e4⟩:=mR ["a","z"] 1 (by decide +kernel) ((s:Int) / 920 % 2) (by omega) (by simp;omega);refine⟨_,e1,x,rfl,by omega,by omega,by rw[Str.length_append];omega,k _ _ ?_ ?_ ((Kp.refl H []).new hp)⟩
   ·rw[Str.length_append,Str.length_append]
    omega
   ·rw[ef,ef,jX,jX,u1,e4,u2];rfl
  ·rw[if_neg (by simp[c1])]
   refine⟨by omega,rfl,?_⟩
   by_cases c2:(s:Int) % 6=4
   ·rw[if_pos (decide_eq_true c2)]
    have ab:=xS;obtain⟨c,e0,ec⟩:=jk (Str.ofString "abcdefghijklmnopqrstuvwxyz").cps.toList ((s:Int) / 6 % 26) (by omega) (by
     have:(Str.ofString "abcdefghijklmnopqrstuvwxyz").length=(Str.ofString "abcdefghijklmnopqrstuvwxyz").cps.toList.length:=by simp[Str.length]
     omega)
    refine⟨by omega,by omega,by omega,c,e0,by omega,fun p hp=>⟨by omega,by omega,_,aO.of aa,?_⟩⟩;obtain⟨x,e1,e2,e4⟩:=mR ["","a","qu","abc"] 3 (by decide +kernel) ((s:Int) / 156 % 4) (by omega) (by simp;omega);have e3:(⟨#[c]⟩:Str).length=1:=rfl;refine⟨_,e1,x,rfl,by omega,k _ _ ?_ ?_ ((Kp.refl H []).new hp)⟩
    ·rw[Str.length_append]
     omega
    ·rw[ef,jX,e4,Bool.and_true]
     exact kq (b:=(Str.ofString "abcdefghijklmnopqrstuvwxyz").cps.toList) (by decide +kernel) fun d hd=>by
      rw[show d=c by simpa using hd];exact ec
   ·rw[if_neg (by simp[c2])]
    refine⟨by omega,fun p hp=>⟨by omega,_,aO.of aa,?_⟩⟩;obtain⟨x,e1,e2,e4⟩:=mR ["a","ab","","b","abc","aa","z","abca","a","ab","bz"] 4 (by decide +kernel) ((s:Int) % 11) (by omega) (by simp;omega);exact⟨_,e1,k _ _ (by omega) e4 ((Kp.refl H []).new hp)⟩
noncomputable abbrev Gv:Stmt:=top 48
noncomputable abbrev GZ:List Str:=["_law_seed","_law_count","_law_version","_law_name","_law_words","_law_base","_law_other"]
theorem FW:az GZ ["_law_seed","_law_count"] (aq Gv):=by walk_at "s"
noncomputable def cW (d:cb):Prop:=(∀ n,ky d=some n->n.length<=90/\∀ c∈n,c<128)/\(∀ v n x,d=.put v n x->x.length<=90)/\∀ i∈bI d,i.natAbs<=10 ^ 31
noncomputable def BZ:Sp:=fun vs H Q _=>∃ s c:Nat,vs=[.int (s:Int),.int (c:Int)]/\s<2 ^ 40/\0<c/\c<1000/\∀ (D:cb) (p:Addr) H',cW D->H p=none->H' p=some (.tup (bT D))->Kp H H' []->Q (.ref p) H'
theorem Ee {f:Addr}{fd:FuncData} (B:Bl mg) (c_law_name_by:bM P w K mg base aQ 1 "_law_name_by" ["_law_seed"] AG) (F:cG K "_law_deed_by" "_law_deed_by" Gv f fd):aS P w K mg base aQ 2 f fd ["_law_seed","_law_count"] BZ:=by
 have sc:=FW;walk_at "f"
 ·obtain⟨_,_,rfl,_⟩:=h
  rfl
 ·obtain⟨s,c,rfl,hs0,hc0,hc1,k⟩:=h
  have hu0:=hr.cu;have hu:=dk hr;have hs:=sizeLine_eq;refine⟨_,(af (au (i:=2) sc.nd rfl (by walk_at "o") (br (kY rfl) rfl B.mx boot_max (ag aj (ag (aA fc (aA fc (pv 1) aj) (aA bp (pv 0) aj)) ae))))
   (af (eE (a_ (aF dj (aA bp (pv 0) aj) aj (aK _)) (ao (au (i:=2) sc.nd rfl (by walk_at "o") (aA fc (aA bp (aA bZ (pv 0) aj) (aA dO (pv 1) aj)) aj))) aJ))
   (af (eE (a_ (aF dj (aA bp (pv 0) aj) aj (aK _)) (ao (au (i:=2) sc.nd rfl (by walk_at "o") (aA qz aj aj))) aJ))
   (af (au (i:=3) sc.nd rfl (by walk_at "o") (bh c_law_name_by hr (ag (aA bZ (pv 0) aj) ae)))
   (af (eE (a_ (PW.pt (hJ (aF dj (aA bp (pv 0) aj) aj (aK _)) (fU (PW.pt (jN (aF dj (aA bp (pv 0) aj) aj (aK _)) (jt (aF dj (aA bp (aA bZ (pv 0) aj) aj) aj (aK _)))))))) (ao (au (i:=3) sc.nd rfl (by walk_at "o") (aG qM ar (aA bp (aA bZ (pv 0) aj) aj) (fun _ _=>rfl)))) aJ))
   (af (a_ (aF oS (aA bp (aA bZ (pv 0) aj) aj) aj (aK _)) (af (au (i:=4) sc.nd rfl (by walk_at "o") (aA cA (aA cA ar (cS mH rfl B.str boot_str (ag (aA bp (pv 0) aj) ae))) ar))
    (ao (aw (bH (ag ar (ag (pv 2) (ag (pv 3) (ag (aG (aI K) (aT (ag ar (ag ar (ag ar (ag (pv 4) ae))))) (aA bp (aA bZ (pv 0) aj) aj) (fun _ _=>rfl)) ae)))))))) aJ)
   (af (a_ (aF oS (aA bp (aA bZ (pv 0) aj) aj) aj (aK _)) (ao (aw (bH (ag ar (ag (pv 2) (ag (pv 3) ae)))))) aJ)
   (af (au (i:=5) sc.nd rfl (by walk_at "o") (aA bp (aA bZ (pv 0) aj) (pv 1)))
   (af (au (i:=6) sc.nd rfl (by walk_at "o") (aA bp (aA bZ (pv 0) (aA mW aj (pv 1))) (pv 1)))
   (af (eE (a_ (aF dj (aA bp (pv 0) aj) aj (aK _)) (ao (au (i:=5) sc.nd rfl (by walk_at "o") (aG (aI K) (aT (ag (dr cF aj) (ag (pv 1) (ag (dr cF aj) (ag (aA dO (pv 1) aj) (ag (aA qz aj aj) ae)))))) (aA bp (aA bZ (pv 0) aj) aj) (fun _ _=>rfl)))) aJ))
   (af (eE (a_ (aF dj (aA bp (pv 0) aj) aj (aK _)) (ao (au (i:=6) sc.nd rfl (by walk_at "o") (aG (aI K) (aT (ag (dr cF aj) (ag (pv 1) (ag (dr cF aj) (ag (aA dO (pv 1) aj) (ag (aA qz aj aj) ae)))))) (aA bp (aA bZ (pv 0) aj) aj) (fun _ _=>rfl)))) aJ))
   (ao (aw (bH (ag ar (ag (pv 5) (ag (pv 2) (ag (pv 6) ae)))))))))))))))))),?_⟩
  walk_at "rd";have sc0:=Int.emod_nonneg ((s:Int) / 13) (show (c:Int)+2≠0 by omega);have sc1:=Int.emod_lt_of_pos ((s:Int) / 13) (show 0<(c:Int)+2 by omega);refine⟨by omega,_,_,⟨rfl,rfl⟩,fun σ' H'=>∃ v:Int,v.natAbs<=10 ^ 31/\σ'=[some (.int s),some (.int c),some (.int v),none,none,none,none]/\H=H',⟨by omega,rfl,?_⟩,?_⟩
  ·by_cases c1:(s:Int) % 13=5
   ·rw[if_pos (decide_eq_true c1)]
    exact⟨by omega,by omega,_,by omega,rfl,rfl⟩
   ·rw[if_neg (by simp[c1])]
    exact⟨_,by split <;> omega,rfl,rfl⟩
  rintro _ _ ⟨v1,b1,rfl,rfl⟩;refine⟨fun σ' H1=>∃ v:Int,v.natAbs<=10 ^ 31/\σ'=[some (.int s),some (.int c),some (.int v),none,none,none,none]/\H=H1,⟨_,rfl,_,rfl,by omega,rfl,?_⟩,?_⟩
  ·by_cases c1:(s:Int) % 41=7
   ·rw[if_pos (decide_eq_true c1)]
    exact⟨⟨by omega,by omega,by decide⟩,_,by decide,rfl,rfl⟩
   ·rw[if_neg (by simp[c1])]
    exact⟨_,b1,rfl,rfl⟩
  rintro _ _ ⟨v,bv,rfl,rfl⟩;walk_at "rd";refine⟨by omega,s / 3,by rw[Int.natCast_ediv];rfl,by omega,fun x H1 lx nx kp1=>?_⟩;have ax:∀ c∈x.cps.toList,c<128:=fun c hc=>by
   have:=of_decide_eq_true (List.all_eq_true.mp nx c hc);omega
  refine⟨fun σ' H2=>∃ n:Str,n.length<=90/\(∀ c∈n.cps.toList,c<128)/\σ'=[some (.int s),some (.int c),some (.int v),some (.str n),none,none,none]/\H1=H2,⟨by omega,rfl,?_⟩,?_⟩
  ·have odd:(Str.ofString "ABCMZ 019-_.,:;!?{}[]()<>/`~@#&*+=").length=34:=by decide +kernel
   obtain⟨y,e0,my⟩:=jk (Str.ofString "ABCMZ 019-_.,:;!?{}[]()<>/`~@#&*+=").cps.toList ((s:Int) / 37 % 34) (by omega) (by
     have:(Str.ofString "ABCMZ 019-_.,:;!?{}[]()<>/`~@#&*+=").length=(Str.ofString "ABCMZ 019-_.,:;!?{}[]()<>/`~@#&*+=").cps.toList.length:=by simp[Str.length]
     omega)
   have e3:(⟨#[y]⟩:Str).length=1:=rfl;have ay:∀ c∈(⟨#[y]⟩:Str).cps.toList,c<128:=fun c hc=>by
    have e:c=y:=by simpa using hc
    have all:((Str.ofString "ABCMZ 019-_.,:;!?{}[]()<>/`~@#&*+=").cps.toList.all fun c=>decide (c<128))=true:=by decide +kernel
    exact e ▸ of_decide_eq_true (List.all_eq_true.mp all y my)
   by_cases c1:(s:Int) % 37=9
   ·rw[if_pos (decide_eq_true c1)]
    exact⟨by omega,by omega,by omega,y,e0,_,by omega,ay,rfl,rfl⟩
   ·rw[if_neg (by simp[c1])]
    refine⟨by omega,rfl,?_⟩
    by_cases c2:(s:Int) % 13=5
    ·rw[if_pos (decide_eq_true c2)]
     refine⟨by omega,by omega,rfl,?_⟩
     by_cases c3:(s:Int) / 13 % 3=1
     ·rw[if_pos (decide_eq_true c3)]
      exact⟨by omega,by omega,by omega,y,e0,_,by omega,ay,rfl,rfl⟩
     ·rw[if_neg (by simp[c3])]
      exact⟨_,lx,ax,rfl,rfl⟩
    ·rw[if_neg (by simp[c2])]
     exact⟨_,lx,ax,rfl,rfl⟩
  rintro _ _ ⟨n,ln,an,rfl,rfl⟩;walk_at "rd";have nl:n.cps.toList.length=n.length:=by simp[Str.length]
  have sn:V.str n=sV n.cps.toList:=congrArg V.str (gx n);have q1:H1=H1:=rfl;refine⟨by omega,by omega,?_⟩
  by_cases c1:(s:Int) / 33 % 8<4
  ·rw[if_pos (decide_eq_true c1)]
   have w1:∀ j:Nat,j<9->(Str.ofString (toString (j:Int))).length<=5/\((j:Int)).natAbs.log2<1920:=by decide +kernel
   obtain⟨w2,w3⟩:=w1 (s % 9) (Nat.mod_lt _ (by omega));have w4:((s % 9:Nat):Int)=(s:Int) % 9:=by omega
   rw[w4] at w2 w3;have w5:(Str.ofString "No. ").length=4:=by decide +kernel
   have w6:(Str.ofString " of X").length=5:=by decide +kernel
   have w7:(Str.ofString "No. "++Str.ofString (toString ((s:Int) % 9))++Str.ofString " of X").length<=14:=by
    rw[Str.length_append,Str.length_append];omega
   generalize Str.ofString (toString ((s:Int) % 9))=wd at w2 w7 ⊢;refine⟨by omega,w3,by omega,by rw[Str.length_append];omega,by omega,fun p hp=>⟨by omega,by omega,_,aO.of aa,?_⟩⟩;generalize Str.ofString "No. "++wd++Str.ofString " of X"=wo at w7 ⊢;obtain⟨x,e1,e2⟩:=wz ["x","y","",wo] 14 (by
    rw[List.all_cons,List.all_cons,List.all_cons,List.all_cons];have:decide (wo.length<=14)=true:=decide_eq_true w7;rw[this]
    decide +kernel) ((s:Int) / 7 % 4) (by omega) (by simp;omega)
   refine⟨_,e1,by omega,fun p1 hp1=>?_⟩;have xl:x.cps.toList.length=x.length:=by simp[Str.length]
   have f1:H p1=none:=(kp1.trans ((Kp.refl H1 []).new hp)).free hp1 (by simp);refine k (.put v n.cps.toList x.cps.toList) p1 _ ⟨fun m hm=>?_,fun _ _ _ h=>?_,fun i hi=>?_⟩ f1 ?_ ((kp1.new (kp1.free hp (by simp))).new f1)
   ·rw[<- Option.some.inj hm];exact⟨by omega,an⟩
   ·cases h;omega
   ·rw[show i=v by simpa [bI] using hi];exact bv
   ·rw[aa,sn,show V.str x=sV x.cps.toList from congrArg V.str (gx x)]
    rfl
  ·rw[if_neg (by simp[c1])]
   refine⟨by omega,by omega,?_⟩
   by_cases c2:(s:Int) / 33 % 8<6
   ·rw[if_pos (decide_eq_true c2)]
    refine⟨by omega,fun p1 hp1=>?_⟩;have f1:H p1=none:=kp1.free hp1 (by simp);refine k (.take v n.cps.toList) p1 _ ⟨fun m hm=>?_,fun _ _ _ h=>?_,fun i hi=>?_⟩ f1 ?_ (kp1.new f1)
    ·rw[<- Option.some.inj hm];exact⟨by omega,an⟩
    ·cases h
    ·rw[show i=v by simpa [bI] using hi];exact bv
    ·rw[aa,sn]
     rfl
   ·rw[if_neg (by simp[c2])]
    have d0:=Int.emod_nonneg ((s:Int) / 5) (show (c:Int)≠0 by omega);have d1:=Int.emod_lt_of_pos ((s:Int) / 5) (show 0<(c:Int) by omega);have d2:=Int.emod_nonneg ((s:Int) / (5 * c)) (show (c:Int)≠0 by omega);have d3:=Int.emod_lt_of_pos ((s:Int) / (5 * c)) (show 0<(c:Int) by omega);have few:∀ z:Int,z∈[-1,(c:Int),-2,(c:Int)+1,10 ^ 30]->z.natAbs<=10 ^ 31:=fun z hz=>by
     simp only[List.mem_cons,List.not_mem_nil,or_false] at hz;rcases hz with rfl|rfl|rfl|rfl|rfl <;> omega
    have pk:∀ i:Int,0<=i->i<5->∃ z:Int,mj [V.int (-1),V.int (c:Int),V.int (-2),V.int ((c:Int)+1),V.int (10 ^ Int.toNat 30)] i=some (.int z)/\z.natAbs<=10 ^ 31:=fun i h0 h1=>by
     obtain⟨y,e1,e2⟩:=jk [V.int (-1),V.int (c:Int),V.int (-2),V.int ((c:Int)+1),V.int (10 ^ Int.toNat 30)] i h0 (by simp;omega);simp only[List.mem_cons,List.not_mem_nil,or_false] at e2;rcases e2 with rfl|rfl|rfl|rfl|rfl
     ·exact⟨_,e1,few _ (by simp)⟩
     ·exact⟨_,e1,few _ (by simp)⟩
     ·exact⟨_,e1,few _ (by simp)⟩
     ·exact⟨_,e1,few _ (by simp)⟩
     ·exact⟨_,e1,few _ (by simp)⟩
    refine⟨by omega,by omega,.inl (by omega),by omega,by omega,fun σ' H2=>∃ z:Int,z.natAbs<=10 ^ 31/\σ'=[some (.int s),some (.int c),some (.int v),some (.str n),none,some (.int z),some (.int ((s:Int) / (5 * c) % c))]/\Kp H H2 [],⟨by omega,rfl,?_⟩,?_⟩
    ·by_cases c3:(s:Int) % 17=3
     ·rw[if_pos (decide_eq_true c3)]
      refine⟨⟨by omega,by omega,by decide⟩,by omega,fun p hp=>⟨by omega,by omega,_,aO.of aa,?_⟩⟩;obtain⟨z,e1,e2⟩:=pk ((s:Int) / 17 % 5) (by omega) (by omega);exact⟨_,e1,z,e2,rfl,kp1.new (kp1.free hp (by simp))⟩
     ·rw[if_neg (by simp[c3])]
      exact⟨_,by omega,rfl,kp1⟩
    rintro _ H2 ⟨z,bz,rfl,kp2⟩;refine⟨fun σ' H3=>∃ t:Int,t.natAbs<=10 ^ 31/\σ'=[some (.int s),some (.int c),some (.int v),some (.str n),none,some (.int z),some (.int t)]/\Kp H H3 [],?_,?_⟩
    ·walk_at "rd"
     refine⟨by omega,rfl,?_⟩
     by_cases c3:(s:Int) % 19=4
     ·rw[if_pos (decide_eq_true c3)]
      refine⟨⟨by omega,by omega,by decide⟩,by omega,fun p hp=>⟨by omega,by omega,_,aO.of aa,?_⟩⟩;obtain⟨t,e1,e2⟩:=pk ((s:Int) / 19 % 5) (by omega) (by omega);exact⟨_,e1,t,e2,rfl,kp2.new (kp2.free hp (by simp))⟩
     ·rw[if_neg (by simp[c3])]
      exact⟨_,by omega,rfl,kp2⟩
    rintro _ H3 ⟨t,bt,rfl,kp3⟩;walk_at "rd";refine⟨by omega,fun p1 hp1=>?_⟩;have f1:H p1=none:=kp3.free hp1 (by simp);refine k (.join z v t) p1 _ ⟨fun m hm=>?_,fun _ _ _ h=>?_,fun i hi=>?_⟩ f1 aa (kp3.new f1)
    ·cases hm
    ·cases h
    ·simp only[bI,List.mem_cons,List.not_mem_nil,or_false] at hi
     rcases hi with rfl|rfl|rfl <;> assumption
end
end
section
open PySem L2
structure dX (k:Nat) (S:LS):Prop where
 l0:0<S.ms.length
 l1:S.ms.length<=k+1
 l2:S.ns.length=S.ms.length
 l3:S.par.length=S.ms.length
 l4:S.made.length=k
 us:∃ U:List Nm,U.length<=k/\(∀ u∈U,u.length<=90)/\∀ (i:Nat) m,S.ms[i]?=some m->aB m/\∀ n,(ak m n).isSome=true->n∈U
 nd:∀ (i:Nat) m n,S.ms[i]?=some m->S.ns[i]?=some n->gU m n/\n.length<=k * 6000
noncomputable def S0:LS:=⟨[[]],[[]],[none],0,[]⟩
theorem ip {α:Type}{a b:α}{i:Nat} (h:[a][i]?=some b):b=a:=by
 cases i with
 | zero=>exact (Option.some.inj h).symm
 | succ n=>cases h
theorem yK:dX 0 S0:=by
 refine⟨Nat.one_pos,Nat.le_refl _,rfl,rfl,rfl,⟨[],Nat.le_refl _,by simp,fun i m h=>?_⟩,fun i m n h1 h2=>?_⟩
 ·rw[ip h]
  exact⟨List.nodup_nil,fun n hn=>by cases hn⟩
 ·rw[ip h1,ip h2]
  refine⟨fun b=>Iff.intro (fun h=>?_) ?_,Nat.le_refl _⟩
  ·cases h
  ·rintro ⟨p,hp,_⟩;cases hp
theorem dX.pre {k:Nat}{S:LS} (D:dX k S) (hk:k<=63):Eb S:=by
 obtain⟨U,u1,u2,u3⟩:=D.us;have l1:=D.l1;have l4:=D.l4;have le:∀ {i:Nat}{m:Mp},S.ms[i]?=some m->m.length<=U.length:=fun {i m} h=>by
  obtain⟨q1,q2⟩:=u3 i m h;have:=eY q1 (u:=U) fun x hx=>q2 x ((mem_keys m x).mp hx)
  rwa [List.length_map] at this
 refine⟨by omega,D.l2,D.l3,by omega,fun i m h=>⟨by have:=le h;omega,fun n hn=>?_⟩,fun i m n h1 h2=>⟨(D.nd i m n h1 h2).1,?_⟩,fun i j m m' h1 h2=>?_⟩
 ·have:=u2 n ((u3 i m h).2 n hn)
  omega
 ·have:=(D.nd i m n h1 h2).2
  have:k * 6000<=63 * 6000:=Nat.mul_le_mul_right _ hk;omega
 ·have:=eY (lQ (u3 i m h1).1 (u3 j m' h2).1) (u:=U) fun x hx=>by
   rcases gy.mp hx with q|q
   ·exact (u3 i m h1).2 x q
   ·exact (u3 j m' h2).2 x q
  omega
theorem fM {α:Type}{l:List α}{a b:α}{i:Nat} (h:(l++[a])[i]?=some b):(i<l.length/\l[i]?=some b)\/(i=l.length/\b=a):=by
 by_cases hi:i<l.length
 ·rw[List.getElem?_append_left hi] at h;exact .inl ⟨hi,h⟩
 ·have hi:l.length<=i:=by omega
  rw[List.getElem?_append_right hi] at h;have:=ip h
  cases hj:i - l.length with
  | zero=>exact .inr ⟨by omega,this⟩
  | succ n=>rw[hj] at h;cases h
theorem mi {mt:Mp}{U:List Nm}:∀ (l:List Nm) (a:LR),gU a.m a.nd->aB a.m->(∀ n,(ak a.m n).isSome=true->n∈U)->(∀ n∈l,n∈U)->(∀ u∈U,u.length<=90) ->
  gU (l.foldl (aY mt) a).m (l.foldl (aY mt) a).nd/\aB (l.foldl (aY mt) a).m/\(∀ n,(ak (l.foldl (aY mt) a).m n).isSome=true->n∈U)/\(l.foldl (aY mt) a).nd.length<=a.nd.length+91 * l.length
 | [],a,h1,h2,h3,_,_=>⟨h1,h2,h3,Nat.le_refl _⟩
 | n::l,a,h1,h2,h3,h4,h5=>by
  rw[List.foldl_cons];have hn:=h4 n List.mem_cons_self;obtain⟨i1,i2,i3,i4⟩:=mi (mt:=mt) (U:=U) l (aY mt a n) (nq h1 _ _ _) (sC h2 _ _ _ _) (fun j hj=>by
   have e:ak (aY mt a n).m j=if j=n then ak mt n else ak a.m j:=jA a.m a.nd a.st n (ak mt n) j
   rw[e] at hj
   by_cases ej:j=n
   ·rw[ej];exact hn
   ·rw[if_neg ej] at hj;exact h3 j hj) (fun x hx=>h4 x (List.mem_cons_of_mem _ hx)) h5
  refine⟨i1,i2,i3,?_⟩;have q2:=gC a.m a.nd a.st n (ak mt n);have e2:(aY mt a n).nd=(bU a.m a.nd a.st n (ak mt n)).nd:=rfl;rw[e2] at i4;have q3:=h5 n hn;rw[List.length_cons];omega
theorem dX.more {k:Nat}{S:LS} (D:dX k S) {U':List Nm} (hu:∀ (i:Nat) m,S.ms[i]?=some m->aB m/\∀ n,(ak m n).isSome=true->n∈U') (hl:U'.length<=k+1) (h90:∀ u∈U',u.length<=90)
  {m:Mp}{nd:Nd} (ok:gU m nd) (len:nd.length<=(k+1) * 6000) (kn:aB m) (ku:∀ n,(ak m n).isSome=true->n∈U') (p:Option Nat) (st made:Nat) :
  dX (k+1) ⟨S.ms++[m],S.ns++[nd],S.par++[p],st,S.made++[made]⟩:=by
 have l1:=D.l1;have l2:=D.l2;have l3:=D.l3;have l4:=D.l4;refine⟨by rw[List.length_append,List.length_singleton];omega,?_,?_,?_,?_,⟨U',hl,h90,fun i m' h=>?_⟩,fun i m' n' h1 h2=>?_⟩
 ·show (S.ms++[m]).length<=_
  rw[List.length_append,List.length_singleton];omega
 ·show (S.ns++[nd]).length=(S.ms++[m]).length
  rw[List.length_append,List.length_append,l2];rfl
 ·show (S.par++[p]).length=(S.ms++[m]).length
  rw[List.length_append,List.length_append,l3];rfl
 ·show (S.made++[made]).length=_
  rw[List.length_append,l4];rfl
 ·rcases fM h with ⟨_,h⟩|⟨_,rfl⟩
  ·exact hu i m' h
  ·exact⟨kn,ku⟩
 ·rcases fM h1 with ⟨hi,h1⟩|⟨hi,rfl⟩
  ·rcases fM h2 with ⟨_,h2⟩|⟨hj,_⟩
   ·have:=D.nd i m' n' h1 h2
    exact⟨this.1,Nat.le_trans this.2 (Nat.mul_le_mul_right _ (Nat.le_succ _))⟩
   ·omega
  ·rcases fM h2 with ⟨hj,_⟩|⟨_,rfl⟩
   ·omega
   ·exact⟨ok,len⟩
theorem dX.same {k:Nat}{S:LS} (D:dX k S):dX (k+1) { S with made:=S.made++[0] }:=by
 have l1:=D.l1;have l4:=D.l4;obtain⟨U,u1,u2,u3⟩:=D.us;refine⟨D.l0,?_,D.l2,D.l3,?_,⟨U,by omega,u2,u3⟩,fun i m n h1 h2=>?_⟩
 ·show S.ms.length<=_;omega
 ·show (S.made++[0]).length=_
  rw[List.length_append,l4];rfl
 ·have:=D.nd i m n h1 h2
  exact⟨this.1,Nat.le_trans this.2 (Nat.mul_le_mul_right _ (Nat.le_succ _))⟩
theorem dX.get {k:Nat}{S:LS} (D:dX k S) {i:Nat} (h:i<S.ms.length):S.ms[i]?=some (S.ms.getD i [])/\S.ns[i]?=some (S.ns.getD i []):=by
 have:=D.l2;exact⟨by simp[List.getD,h],by simp[List.getD,show i<S.ns.length by omega]⟩
theorem dX.one {k:Nat}{S:LS} (D:dX k S) {i:Nat} (h:i<S.ms.length) {n:Nm} (hn:n.length<=90) (to:Option Nm):dX (k+1) (pz S i n to):=by
 obtain⟨U,u1,u2,u3⟩:=D.us;obtain⟨g1,g2⟩:=D.get h;have q:=D.nd i _ _ g1 g2;obtain⟨q1,q2⟩:=u3 i _ g1;refine D.more (U':=n::U) (fun j m hm=>⟨(u3 j m hm).1,fun x hx=>List.mem_cons_of_mem _ ((u3 j m hm).2 x hx)⟩) (by rw[List.length_cons];omega) (fun u hu=>?_) (nq q.1 _ _ _) ?_ (sC q1 _ _ _ _) (fun x hx=>?_) _ _ _
 ·rcases List.mem_cons.mp hu with rfl|hu
  ·exact hn
  ·exact u2 u hu
 ·have:=gC (S.ms.getD i []) (S.ns.getD i []) S.st n to
  have q3:=q.2;rw[Nat.add_mul];omega
 ·rw[jA] at hx
  by_cases e:x=n
  ·rw[e];exact List.mem_cons_self
  ·rw[if_neg e] at hx;exact List.mem_cons_of_mem _ (q2 x hx)
theorem dX.join {k:Nat}{S:LS} (D:dX k S) (hk:k<=63) {b o t:Nat} (hb:b<S.ms.length) (ho:o<S.ms.length) (ht:t<S.ms.length) (p:Option Nat) :
  dX (k+1) ⟨S.ms++[(bF (S.ms.getD b []) (S.ms.getD o []) (S.ms.getD t []) (S.ns.getD o []) S.st).m],S.ns++[(bF (S.ms.getD b []) (S.ms.getD o []) (S.ms.getD t []) (S.ns.getD o []) S.st).nd],S.par++[p],
   (bF (S.ms.getD b []) (S.ms.getD o []) (S.ms.getD t []) (S.ns.getD o []) S.st).st,S.made++[(bF (S.ms.getD b []) (S.ms.getD o []) (S.ms.getD t []) (S.ns.getD o []) S.st).made]⟩:=by
 obtain⟨U,u1,u2,u3⟩:=D.us;have ub:=u3 b _ (D.get hb).1;have uo:=u3 o _ (D.get ho).1;have ut:=u3 t _ (D.get ht).1;have qo:=D.nd o _ _ (D.get ho).1 (D.get ho).2;have hc:∀ n∈bw (S.ms.getD b []) (S.ms.getD t []),n∈U:=fun n hn=>by
  have:=cT.mp hn
  by_cases e1:(ak (S.ms.getD b []) n).isSome=true
  ·exact ub.2 n e1
  ·refine ut.2 n ?_
   cases e2:ak (S.ms.getD t []) n with
   | some _=>rfl
   | none =>
    rw[Option.not_isSome_iff_eq_none] at e1;exact absurd (e1.trans e2.symm) this
 obtain⟨i1,i2,i3,i4⟩:=mi (mt:=S.ms.getD t []) (U:=U) (bw (S.ms.getD b []) (S.ms.getD t [])) ⟨0,S.st,S.ms.getD o [],S.ns.getD o []⟩ qo.1 uo.1 uo.2 hc u2;refine D.more (U':=U) u3 (by omega) u2 i1 ?_ i2 i3 _ _ _;have lc:(bw (S.ms.getD b []) (S.ms.getD t [])).length<64:=by
  refine Nat.lt_of_le_of_lt ?_ ((D.pre hk).un b t _ _ (D.get hb).1 (D.get ht).1);unfold bw;refine Nat.le_trans (List.length_filter_le _ _) ?_;rw[(aR _).length_eq];exact Nat.le_refl _
 have q3:=qo.2;rw[Nat.add_mul];refine Nat.le_trans i4 ?_;show (S.ns.getD o []).length+91 * _<=_;omega
theorem dX.step {k:Nat}{S:LS} (D:dX k S) (hk:k<=63) {d:cb} (ok:cW d):dX (k+1) (aC S d).2:=by
 unfold aC
 by_cases eb:e_ S d=true
 ·rw[if_pos eb];exact D.same
 ·rw[if_neg eb]
  by_cases en:fJ d=true
  ·rw[if_pos en];exact D.same
  ·rw[if_neg en]
   have gi:∀ {z:Int},z∈bI d->z.toNat<S.ms.length:=fun {z} hz=>by
    rw[jl,Bool.not_eq_true] at eb;have:=List.any_eq_false.mp eb z hz;unfold hE at this;simp only[Bool.or_eq_true,decide_eq_true_eq,not_or] at this;omega
   cases d with
   | put v n x=>exact D.one (gi (by simp[bI])) (ok.1 n rfl).1 _
   | take v n=>exact D.one (gi (by simp[bI])) (ok.1 n rfl).1 _
   | join b o t =>
    dsimp only
    split
    ·exact D.join hk (gi (by simp[bI])) (gi (by simp[bI])) (gi (by simp[bI])) _
    ·exact D.same
noncomputable def aU:List cb->LS->List xO×LS
 | [],S=>([],S)
 | d::r,S=>((aC S d).1::(aU r (aC S d).2).1,(aU r (aC S d).2).2)
theorem dc (l:List cb) (d:cb):∀ S,aU (l++[d]) S=((aU l S).1++[(aC (aU l S).2 d).1],(aC (aU l S).2 d).2):=by
 induction l with
 | nil=>intro S;rfl
 | cons e r ih =>
  intro S;rw[List.cons_append];show ((aC S e).1::(aU (r++[d]) (aC S e).2).1,(aU (r++[d]) (aC S e).2).2)=_;rw[ih]
  rfl
theorem mQ:∀ (l:List cb) {k:Nat}{S:LS},dX k S->k+l.length<=64->(∀ d∈l,cW d)->dX (k+l.length) (aU l S).2
 | [],_,_,D,_,_=>D
 | d::r,k,S,D,hk,ok=>by
  rw[List.length_cons] at hk;have:=mQ r (D.step (by omega) (ok d List.mem_cons_self)) (by omega) fun x hx=>ok x (List.mem_cons_of_mem _ hx);rw[List.length_cons];have e:k+(r.length+1)=k+1+r.length:=by omega
  rw[e];exact this
end
section
section
theorem gq.kp {H H':Hp}{h a1 a2 a3 a5:Addr}{ms:List Mp}{ns:List Nd}{par:List (Option Nat)}{st:Nat}{made:List Nat}{mas nas:List Addr}{L:List Addr} (A:gq H h a1 a2 a3 a5 ms ns par st made mas nas) (e:Kp H H' L)
  (hL:∀ c∈[h,a1,a2,a3,a5],c∉L) (hk:∀ c kv,H c=some (.dK kv)->c∉L):gq H' h a1 a2 a3 a5 ms ns par st made mas nas :=
 ⟨e _ _ A.hh (hL _ (by simp)),e _ _ A.h1 (hL _ (by simp)),e _ _ A.h2 (hL _ (by simp)),e _ _ A.h3 (hL _ (by simp)),e _ _ A.h5 (hL _ (by simp)),A.lm,A.ln,fun i a m x y=>e _ _ (A.mm i a m x y) (hk _ _ (A.mm i a m x y)),fun i a m x y=>e _ _ (A.nn i a m x y) (hk _ _ (A.nn i a m x y)),A.ne,A.am,A.an⟩
theorem gA.kp {F F':Addr->Prop}{H H':Hp}{L:List Addr}{v:V}{rows:List Row} (r:gA F H v rows) (e:Kp H H' L) (hF:∀ r,(∃ o,H r=some o)->F r->F' r) (hF':∀ r,(∃ o,H r=some o)->F r->r∉L) (ht:∀ c xs,H c=some (.tup xs)->c∉L):gA F' H' v rows:=by
 obtain⟨t,l,rs,rfl,f,h1,h2,h3⟩:=r;exact⟨t,l,rs,rfl,hF l ⟨_,h2⟩ f,e _ _ h1 (ht _ _ h1),e _ _ h2 (hF' l ⟨_,h2⟩ f),Paired.imp' (fun a row h=>e _ _ h (ht _ _ h)) h3⟩
theorem cC.kp {F F':Addr->Prop}{H H':Hp}{L:List Addr}{v:V}{a:xO} (r:cC F H v a) (e:Kp H H' L) (hF:∀ r,(∃ o,H r=some o)->F r->F' r) (hF':∀ r,(∃ o,H r=some o)->F r->r∉L) (ht:∀ c xs,H c=some (.tup xs)->c∉L):cC F' H' v a:=by
 cases a with
 | ver n=>exact r
 | noV=>exact r
 | noN=>exact r
 | clash rows=>exact gA.kp r e hF hF' ht
structure fk (H:Hp) (dl tl h a1 a2 a3 a5:Addr) (ds:List cb) (das:List Addr) (tvs:List V) (mas nas:List Addr):Prop where
 ne:[dl,tl,h,a1,a2,a3,a5].Nodup
 hd:H dl=some (.lst (das.map V.ref))
 pd:Paired (fun a d=>H a=some (.tup (bT d))) das ds
 ht:H tl=some (.lst tvs)
 pt:Paired (cC (fun r=>r∉[dl,tl,h,a1,a2,a3,a5]) H) tvs (aU ds S0).1
 hl:gq H h a1 a2 a3 a5 (aU ds S0).2.ms (aU ds S0).2.ns (aU ds S0).2.par (aU ds S0).2.st (aU ds S0).2.made mas nas
theorem fk.same {H H':Hp}{dl tl h a1 a2 a3 a5:Addr}{ds:List cb}{das:List Addr}{tvs:List V}{mas nas:List Addr} (A:fk H dl tl h a1 a2 a3 a5 ds das tvs mas nas) (e:aE H H'):fk H' dl tl h a1 a2 a3 a5 ds das tvs mas nas:=by
 have kp:Kp H H' []:=fun c o hc _=>e c o hc;exact⟨A.ne,e _ _ A.hd,Paired.imp' (fun a d q=>e _ _ q) A.pd,e _ _ A.ht,Paired.imp' (fun a d q=>cC.kp q kp (fun _ _ f=>f) (fun _ _ _=>by simp) fun _ _ _=>by simp) A.pt,A.hl.same e⟩
structure DI (H:Hp) (cl dl tl h a1 a2 a3 a5:Addr) (i:Nat) (σ:L2.St) (H2:Hp):Prop where
 ex:∃ k d ds das tvs mas nas,σ=[some (.ref cl),some (.ref h),some (.ref dl),some (.ref tl),k,d]/\ds.length=i/\(∀ d∈ds,cW d)/\fk H2 dl tl h a1 a2 a3 a5 ds das tvs mas nas
 kp:Kp H H2 []
noncomputable abbrev Aa:Stmt:=top 49
noncomputable abbrev Hu:List Str:=["_law_cells","_law_hall","_law_deeds","_law_told","_law_k","_law_deed"]
theorem Dd:az Hu ["_law_cells"] (aq Aa):=by walk_at "s"
noncomputable def wF:Sp:=fun vs H Q _=>∃ (cl:Addr) (cells:List Int),vs=[.ref cl]/\H cl=some (.lst (cells.map V.int))/\cells.length<=63 /\
 ∀ p dl tl h a1 a2 a3 a5 ds das tvs mas nas H',ds.length=cells.length->(∀ d∈ds,cW d)->H' p=some (.tup [.ref dl,.ref tl,.ref h])->fk H' dl tl h a1 a2 a3 a5 ds das tvs mas nas->Kp H H' []->Q (.ref p) H'
theorem AR {f:Addr}{fd:FuncData} (B:Bl mg) (c_law_start:bM P w K mg base aQ 4 "_law_start" [] nA) (c_law_deed_by:bM P w K mg base aQ 4 "_law_deed_by" ["_law_seed","_law_count"] BZ) (c_law_plainly:bM P w K mg base aQ 4 "_law_plainly" ["_law_hall","_law_deed"] A9)
  (F:cG K "_law_day" "_law_day" Aa f fd):aS P w K mg base aQ 5 f fd ["_law_cells"] wF:=by
 have sc:=Dd;walk_at "f"
 ·obtain⟨_,_,rfl,_⟩:=h
  rfl
 ·obtain⟨cl,cells,rfl,hcl,lc,k⟩:=h
  have hu0:=hr.cu;have hu:=dk hr;have hs:=sizeLine_eq;refine⟨_,(af (au (i:=1) sc.nd rfl (by walk_at "o") (Bd c_law_start hr))
   (af (au (i:=2) sc.nd rfl (by walk_at "o") (aT ae))
   (af (au (i:=3) sc.nd rfl (by walk_at "o") (aT ae))
   (af (dt PassesOwn.never rfl (iF rfl B.rng (ag (br (bc K) rfl B.len boot_len (ag (pv 0) ae)) ae)) (aM (i:=4) sc.nd rfl (by walk_at "o")) (af (au (i:=5) sc.nd rfl (by walk_at "o") (bh c_law_deed_by hr (ag (aA dO (aA bp (aG (aI K) (pv 0) (pv 4) (fun _ _=>rfl)) aj) (aA mW aj (pv 4))) (ag (br (bc K) rfl B.len boot_len (ag (bu hu (pv 1) ar (fun _ _=>rfl)) ae)) ae))))
    (af (ba (dF K PySem.F.plainAttrs_list PySem.F.slot_list_append PySem.F.type_list_append bf (pv 2) (ag (pv 5) ae)))
    (ao (ba (dF K PySem.F.plainAttrs_list PySem.F.slot_list_append PySem.F.type_list_append bf (pv 3) (ag (bh c_law_plainly hr (ag (pv 1) (ag (pv 5) ae))) ae)))))))
   (ao (aw (bH (ag (pv 2) (ag (pv 3) (ag (pv 1) ae)))))))))),?_⟩
  walk_at "rd";refine⟨rfl,fun h a1 a2 a3 a5 m0 n0 G0 HL0 s0 fr0=>?_⟩;refine⟨by omega,fun dl hdl=>?_⟩;have s1:=(aE.refl G0).new (o:=.lst []) hdl;have f1:upd G0 dl (.lst []) dl=some (.lst []):=aa;generalize upd G0 dl (.lst [])=G1 at s1 f1 ⊢;refine⟨by omega,fun tl htl=>?_⟩;have s2:=(aE.refl G1).new (o:=.lst []) htl;have f2:upd G1 tl (.lst []) tl=some (.lst []):=aa;have f12:=s2 _ _ f1;have ndt:dl≠tl:=ai f1 htl;generalize upd G1 tl (.lst [])=G2 at s2 f2 f12 ⊢;have sH:=(s0.trans s1).trans s2;have hcl2:=sH _ _ hcl;have HL2:=HL0.same (s1.trans s2);have d0:∀ {c:Addr}{o:HO},G0 c=some o->dl≠c:=fun hc=>Ne.symm (ai hc hdl);have t0:∀ {c:Addr}{o:HO},G0 c=some o->tl≠c:=fun hc=>Ne.symm (ai (s1 _ _ hc) htl);have ne0:[dl,tl,h,a1,a2,a3,a5].Nodup:=by
   rw[List.nodup_cons,List.nodup_cons];refine⟨?_,?_,HL0.ne⟩
   ·simp only[List.mem_cons,List.not_mem_nil,or_false,not_or]
    exact⟨ndt,d0 HL0.hh,d0 HL0.h1,d0 HL0.h2,d0 HL0.h3,d0 HL0.h5⟩
   ·simp only[List.mem_cons,List.not_mem_nil,or_false,not_or]
    exact⟨t0 HL0.hh,t0 HL0.h1,t0 HL0.h2,t0 HL0.h3,t0 HL0.h5⟩
  have frA:∀ c∈[dl,tl,h,a1,a2,a3,a5],H c=none:=fun c hc=>by
   simp only[List.mem_cons,List.not_mem_nil,or_false] at hc;rcases hc with rfl|rfl|rfl|rfl|rfl|rfl|rfl
   ·exact s0.free hdl
   ·exact (s0.trans s1).free htl
   all_goals exact fr0 _ (by simp)
  refine⟨_,.inl ⟨_,aO.of hcl2,rfl⟩,by omega,by rw[List.length_map];omega,?_⟩;rw[Int.toNat_natCast,List.length_map];refine wy (fun i σ H2=>DI H cl dl tl h a1 a2 a3 a5 i σ H2) ⟨⟨none,none,[],[],[],[m0],[n0],rfl,rfl,by simp,⟨ne0,f12,.nil,f2,.nil,HL2⟩⟩,fun c o hc _=>sH c o hc⟩ ?_ ?_
  ·rintro i σ H2 hi ⟨⟨kk,dd,ds,das,tvs,mas,nas,rfl,ld,okd,DA⟩,kp2⟩
   walk_at "rd";have hcl3:=kp2 _ _ hcl (by simp);have ci:(cells.map V.int)[i]?=some (.int (cells[i])):=by rw[List.getElem?_map,List.getElem?_eq_getElem hi];rfl
   refine⟨_,aO.of hcl3,_,bX ci,_,rfl,by omega,.inl (by omega),_,bE.k' (k:=.inr ("maps":Str)) DA.hl.hh (bS _ _ _ _ _),_,.inl ⟨_,aO.of DA.hl.h1,rfl⟩,?_⟩;have DS:=mQ ds yK (by omega) okd;rw[Nat.zero_add] at DS;rw[List.length_map,DA.hl.lm];have l0:=DS.l0;have l1:=DS.l1;have m0:=Int.emod_nonneg (cells[i]) (show (1000000:Int)≠0 by omega);have m1:=Int.emod_lt_of_pos (cells[i]) (show 0<(1000000:Int) by omega);refine⟨((cells[i]) % 1000000).toNat+29 * i,(aU ds S0).2.ms.length,?_,by omega,l0,by omega,fun D p H3 okD hp hp3 kp3=>?_⟩
   ·have e1:(cells[i]) % 1000000+29 * (i:Int)=((((cells[i]) % 1000000).toNat+29 * i:Nat):Int):=by omega
    rw[e1]
   have s3:aE H2 H3:=fun c o hc=>kp3 c o hc (by simp);have DA3:=DA.same s3;refine⟨.inl ⟨rfl,_,aO.of DA3.hd⟩,_,DA3.hd,?_,?_⟩
   ·rw[List.length_map,Paired.length DA.pd];omega
   have ndl:∀ {c:Addr}{oo:HO},H3 c=some oo->(∀ xs,oo≠.lst xs)->c≠dl:=fun hc hne z=>by
    rw[z,DA3.hd] at hc;exact hne _ (Option.some.inj hc).symm
   have ntl:∀ {c:Addr}{oo:HO},H3 c=some oo->(∀ xs,oo≠.lst xs)->c≠tl:=fun hc hne z=>by
    rw[z,DA3.ht] at hc;exact hne _ (Option.some.inj hc).symm
   have k4:Kp H3 (upd H3 dl (.lst (das.map V.ref++[.ref p]))) [dl]:=(Kp.refl H3 [dl]).set (by simp);have f4:upd H3 dl (.lst (das.map V.ref++[.ref p])) dl=some (.lst (das.map V.ref++[.ref p])):=aa;generalize upd H3 dl (.lst (das.map V.ref++[.ref p]))=H4 at k4 f4 ⊢;have c4:∀ {c:Addr}{oo:HO},H3 c=some oo->c≠dl->H4 c=some oo:=fun hc hne=>k4 _ _ hc (by simpa using hne);have neL:=DA.ne;rw[List.nodup_cons,List.nodup_cons] at neL;obtain⟨n1,n2,n3⟩:=neL;simp only[List.mem_cons,List.not_mem_nil,or_false,not_or] at n1 n2;obtain⟨x1,x2,x3,x4,x5,x6⟩:=n1;obtain⟨y2,y3,y4,y5,y6⟩:=n2;have HL4:gq H4 h a1 a2 a3 a5 _ _ _ _ _ mas nas:=DA3.hl.kp k4 (fun c hc=>by
    simp only[List.mem_cons,List.not_mem_nil,or_false] at hc ⊢;rcases hc with rfl|rfl|rfl|rfl|rfl
    ·exact Ne.symm x2
    ·exact Ne.symm x3
    ·exact Ne.symm x4
    ·exact Ne.symm x5
    ·exact Ne.symm x6) fun c kv hc=>by simpa using ndl hc (by intro xs z;cases z)
   refine⟨.inl ⟨rfl,_,aO.of (c4 DA3.ht (Ne.symm x1))⟩,h,a1,a2,a3,a5,p,(aU ds S0).2,mas,nas,D,rfl,HL4,c4 hp3 (ndl hp3 (by intro xs z;cases z)),DS.pre (by omega),fun n hn=>by have:=okD.1 n hn;omega,fun v mas' nas' H5 av HL5 kp5=>?_⟩;have c5:∀ {c:Addr}{oo:HO},H4 c=some oo->c∉[h,a1,a2,a3,a5]->H5 c=some oo:=fun hc hn=>kp5 _ _ hc hn;have ht5:H5 tl=some (.lst tvs):=c5 (c4 DA3.ht (Ne.symm x1)) (by
    simp only[List.mem_cons,List.not_mem_nil,or_false,not_or];exact⟨y2,y3,y4,y5,y6⟩)
   have hd5:H5 dl=some (.lst (das.map V.ref++[.ref p])):=c5 f4 (by
    simp only[List.mem_cons,List.not_mem_nil,or_false,not_or];exact⟨x2,x3,x4,x5,x6⟩)
   have ltv:tvs.length=ds.length:=by
    have e1:=Paired.length DA.pt;rw[e1];have:∀ (l:List cb) (S:LS),(aU l S).1.length=l.length:=fun l=>by
     induction l with
     | nil=>intro S;rfl
     | cons d r ih=>intro S;show (_::_).length=_;rw[List.length_cons,ih,List.length_cons]
    exact this ds S0
   refine⟨_,ht5,by omega,?_⟩;have tupL:∀ {c:Addr}{xs:List V},H3 c=some (.tup xs)->c∉[dl,tl,h,a1,a2,a3,a5]:=fun {c xs} hc=>by
    have go:∀ {b:Addr}{o:HO},H3 b=some o->(∀ ys,o≠.tup ys)->c≠b:=fun hb hne z=>by
     rw[<- z,hc] at hb;exact hne _ (Option.some.inj hb).symm
    simp only[List.mem_cons,List.not_mem_nil,or_false,not_or];exact⟨go DA3.hd (by intro _ z;cases z),go DA3.ht (by intro _ z;cases z),go DA3.hl.hh (by intro _ z;cases z),go DA3.hl.h1 (by intro _ z;cases z),go DA3.hl.h2 (by intro _ z;cases z),go DA3.hl.h3 (by intro _ z;cases z),go DA3.hl.h5 (by intro _ z;cases z)⟩
   have k6:Kp H3 (upd H5 tl (.lst (tvs++[v]))) [dl,tl,h,a1,a2,a3,a5]:=fun c oo hc hn=>by
    simp only[List.mem_cons,List.not_mem_nil,or_false,not_or] at hn;rw[ah hn.2.1];exact c5 (c4 hc hn.1) (by
     simp only[List.mem_cons,List.not_mem_nil,or_false,not_or];exact hn.2.2)
   have k7:Kp H5 (upd H5 tl (.lst (tvs++[v]))) [tl]:=(Kp.refl H5 [tl]).set (by simp);have tt:∀ c xs,H5 c=some (.tup xs)->c∉[tl]:=fun c xs hc=>by
    simp only[List.mem_cons,List.not_mem_nil,or_false];exact bO hc ht5 (by intro z;cases z)
   have new7:∀ r,H4 r=none->r∉[dl,tl,h,a1,a2,a3,a5]:=fun r hr'=>by
    have go:∀ {b:Addr}{o:HO},H4 b=some o->r≠b:=fun hb z=>by
     rw[<- z,hr'] at hb;cases hb
    simp only[List.mem_cons,List.not_mem_nil,or_false,not_or];exact⟨go f4,go (c4 DA3.ht (Ne.symm x1)),go HL4.hh,go HL4.h1,go HL4.h2,go HL4.h3,go HL4.h5⟩
   refine⟨⟨_,_,ds++[D],das++[p],tvs++[v],mas',nas',rfl,by rw[List.length_append,ld];rfl,fun d hd=>?_,⟨DA.ne,?_,?_,aa,?_,?_⟩⟩,fun c o hc _=>?_⟩
   ·rcases List.mem_append.mp hd with hd|hd
    ·exact okd d hd
    ·rw[List.mem_singleton.mp hd];exact okD
   ·rw[ah x1,List.map_append];exact hd5
   ·refine Paired.snoc (Paired.imp' (fun a d q=>k6 _ _ q (tupL q)) DA3.pd) ?_
    exact k6 _ _ hp3 (tupL hp3)
   ·rw[dc]
    refine Paired.snoc (Paired.imp' (fun a d q=>cC.kp q k6 (fun _ _ f=>f) (fun _ _ f=>f) fun c xs hc=>tupL hc) DA3.pt) ?_;exact cC.kp av k7 (fun r _ f=>new7 r f) (fun r _ f=>by
     have:=new7 r f;simp only[List.mem_cons,List.not_mem_nil,or_false,not_or] at this ⊢;exact this.2.1) tt
   ·rw[dc]
    refine HL5.kp k7 (fun c hc=>?_) fun c kv hc=>?_
    ·simp only[List.mem_cons,List.not_mem_nil,or_false] at hc ⊢
     rcases hc with rfl|rfl|rfl|rfl|rfl
     ·exact Ne.symm y2
     ·exact Ne.symm y3
     ·exact Ne.symm y4
     ·exact Ne.symm y5
     ·exact Ne.symm y6
    ·simp only[List.mem_cons,List.not_mem_nil,or_false]
     exact bO hc ht5 (by intro z;cases z)
   ·exact k6 c o (s3 c o (kp2 c o hc (by simp))) fun z=>by
     rw[frA c z] at hc;cases hc
  ·rintro σ H2 ⟨⟨kk,dd,ds,das,tvs,mas,nas,rfl,ld,okd,DA⟩,kp2⟩
   walk_at "rd";refine⟨by omega,fun p hp=>?_⟩;exact k p dl tl h a1 a2 a3 a5 ds das tvs mas nas _ ld okd aa (DA.same ((aE.refl H2).new hp)) (kp2.new (kp2.free hp (by simp)))
end
end
section
inductive eS (H:Hp):Nat->List V->List V->Prop
 | nil:eS H 0 [] []
 | int {n:Nat}{xs ys:List V} (i:Int):eS H n xs ys->eS H (n+1) (.int i::xs) (.int i::ys)
 | str {n:Nat}{xs ys:List V} (x:Str):eS H n xs ys->eS H (n+1) (.str x::xs) (.str x::ys)
 | non {n:Nat}{xs ys:List V}:eS H n xs ys->eS H (n+1) (.non::xs) (.non::ys)
 | lst {n m:Nat}{xs ys as bs:List V}{a b:Addr}:H a=some (.lst as)->H b=some (.lst bs)->eS H m as bs->eS H n xs ys->eS H (m+n+1) (.ref a::xs) (.ref b::ys)
 | tup {n m:Nat}{xs ys as bs:List V}{a b:Addr}:H a=some (.tup as)->H b=some (.tup bs)->eS H m as bs->eS H n xs ys->eS H (m+n+1) (.ref a::xs) (.ref b::ys)
noncomputable def Du:Bool->List V->HO
 | true,xs=>.lst xs
 | false,xs=>.tup xs
noncomputable def GP:Bool->Value
 | true=>.type "list"
 | false=>.type "tuple"
section
variable {K:PySem.W.Frag}{H:Hp}{a:Addr}{xs:List V}{b:Bool}
theorem oE (h:H a=some (Du b xs)):cJ K H (.ref a) (GP b):=by
 cases b
 ·exact cJ.tup h
 ·exact cJ.lst h
theorem yU (h:H a=some (Du b xs)):aO K H a xs\/cI K H a xs:=by
 cases b
 ·exact .inr (cI.of h)
 ·exact .inl (aO.of h)
theorem wN (h:H a=some (Du b xs)):(∃ ys,aO K H a ys/\xs.length=ys.length)\/∃ ys,cI K H a ys/\xs.length=ys.length:=by
 cases b
 ·exact .inr ⟨_,cI.of h,rfl⟩
 ·exact .inl ⟨_,aO.of h,rfl⟩
end
theorem eS.view {H:Hp}{m:Nat}{x y:V}{xs ys:List V} (h:eS H m (x::xs) (y::ys)):(∃ m',m'<m/\eS H m' xs ys/\((∃ i,x=.int i/\y=.int i)\/(∃ s,x=.str s/\y=.str s)\/x=.non/\y=.non)) \/
  ∃ (b:Bool) (n1 m1:Nat) (as bs:List V) (a c:Addr),x=.ref a/\y=.ref c/\H a=some (Du b as)/\H c=some (Du b bs)/\eS H n1 as bs/\eS H m1 xs ys/\n1+m1+1=m:=by
 cases h with
 | int i h=>exact .inl ⟨_,Nat.lt_succ_self _,h,.inl ⟨i,rfl,rfl⟩⟩
 | str s h=>exact .inl ⟨_,Nat.lt_succ_self _,h,.inr (.inl ⟨s,rfl,rfl⟩)⟩
 | non h=>exact .inl ⟨_,Nat.lt_succ_self _,h,.inr (.inr ⟨rfl,rfl⟩)⟩
 | lst ha hb h1 h=>exact .inr ⟨true,_,_,_,_,_,_,rfl,rfl,ha,hb,h1,h,rfl⟩
 | tup ha hb h1 h=>exact .inr ⟨false,_,_,_,_,_,_,rfl,rfl,ha,hb,h1,h,rfl⟩
theorem eS.AL {H:Hp}{n m:Nat}{xs ys:List V} (h:eS H n xs ys) (e:n=m):eS H m xs ys:=e ▸ h
theorem eS.len {H:Hp}{n:Nat}{xs ys:List V} (h:eS H n xs ys):xs.length=ys.length/\xs.length<=n:=by
 induction h with
 | nil=>exact⟨rfl,Nat.le_refl _⟩
 | int _ _ ih=>rw[List.length_cons,List.length_cons];omega
 | str _ _ ih=>rw[List.length_cons,List.length_cons];omega
 | non _ ih=>rw[List.length_cons,List.length_cons];omega
 | lst _ _ _ _ _ ih=>rw[List.length_cons,List.length_cons];omega
 | tup _ _ _ _ _ ih=>rw[List.length_cons,List.length_cons];omega
theorem eS.rev {H:Hp}{m:Nat}{as bs:List V} (h:eS H m as bs):∀ {n:Nat}{xs ys:List V},eS H n xs ys->eS H (m+n) (as.reverse++xs) (bs.reverse++ys):=by
 induction h with
 | nil=>intro n xs ys q;rw[Nat.zero_add];exact q
 | int i _ ih=>intro n xs ys q;rw[List.reverse_cons,List.reverse_cons,List.append_assoc,List.append_assoc];exact (ih (.int i q)).AL (by omega)
 | str i _ ih=>intro n xs ys q;rw[List.reverse_cons,List.reverse_cons,List.append_assoc,List.append_assoc];exact (ih (.str i q)).AL (by omega)
 | non _ ih=>intro n xs ys q;rw[List.reverse_cons,List.reverse_cons,List.append_assoc,List.append_assoc];exact (ih (.non q)).AL (by omega)
 | lst h1 h2 h3 _ _ ih=>intro n xs ys q;rw[List.reverse_cons,List.reverse_cons,List.append_assoc,List.append_assoc];exact (ih (.lst h1 h2 h3 q)).AL (by omega)
 | tup h1 h2 h3 _ _ ih=>intro n xs ys q;rw[List.reverse_cons,List.reverse_cons,List.append_assoc,List.append_assoc];exact (ih (.tup h1 h2 h3 q)).AL (by omega)
theorem eS.wq {H:Hp} (o:Option Nm) {n:Nat}{xs ys:List V} (h:eS H n xs ys):eS H (n+1) (oV o::xs) (oV o::ys):=by
 cases o with
 | none=>exact .non h
 | some x=>exact .str _ h
noncomputable def ig (H:Hp) (l:Addr) (das:List Addr) (ds:List cb):Prop:=H l=some (.lst (das.map V.ref))/\Paired (fun a d=>H a=some (.tup (bT d))) das ds/\ds.length<=130/\∀ d∈ds,cW d
theorem jD {H:Hp}:∀ {rs rs':List Addr}{rows:List Row},Paired (fun a row=>H a=some (.tup (eF row))) rs rows->Paired (fun a row=>H a=some (.tup (eF row))) rs' rows->eS H (5 * rows.length) (rs.map V.ref) (rs'.map V.ref)
 | _,_,_,.nil,.nil=>.nil
 | _,_,_,.cons h t,.cons h' t'=>(eS.tup h h' (.str _ (.wq _ (.wq _ (.wq _ .nil)))) (jD t t')).AL (by rw[List.length_cons];omega)
theorem jJ:∀ (l:List cb) (S:LS),(aU l S).1.length=l.length
 | [],_=>rfl
 | d::r,S=>by show (_::_).length=_;rw[List.length_cons,jJ r,List.length_cons]
theorem Bz (xs:List V) (h:xs.length<=500):gp xs none (some 500)=xs:=by
 unfold gp;have e:HT.cL xs.length xs.length (some 500)=min 500 xs.length:=HT.nP xs.length xs.length 500;rw[e,HT.uz,List.drop_zero,Nat.sub_zero,List.take_of_length_le (by omega)]
end
section
section
noncomputable abbrev yQ:Stmt:=top 55
theorem Eu:az ["_law_script"] ["_law_script"] (aq yQ):=by walk_at "s"
theorem oK:(["_law_k","_law_script"]:List Str).Nodup:=by decide +kernel
noncomputable def mix (x:Int) (k:Nat):Nat:=((x+7919 * k) * 48271 % 1000003).toNat
noncomputable def wJ:Sp:=fun vs H Q _=>∃ (l:Addr) (xs:List Int),vs=[.ref l]/\H l=some (.lst (xs.map V.int))/\xs.length<=1000/\∀ (p:Addr) (ns:List Nat),H p=none->ns.length=xs.length->(∀ n∈ns,n<1000003)->Q (.ref p) (upd H p (.lst (ns.map nV)))
theorem Cf {f:Addr}{fd:FuncData} (B:Bl mg) (F:cG K "_law_mixed" "_law_mixed" yQ f fd):aS P w K mg base aQ 1 f fd ["_law_script"] wJ:=by
 have sc:=Eu;walk_at "f"
 ·obtain⟨_,_,rfl,_⟩:=h
  rfl
 ·obtain⟨l,xs,rfl,hl,lx,k⟩:=h
  have hu0:=hr.cu;have hu:=dk hr;have hs:=sizeLine_eq;refine⟨_,(ao (aw (cx (N':=["_law_k","_law_script"]) (ix:=[none,some 0]) rfl ?S1 (iF rfl B.rng (ag (br (bc K) rfl B.len boot_len (ag (pv 0) ae)) ae)) (fun cl C fp s H=>(aM (i:=0) oK rfl (by walk_at "o"))) (fun cl C fp s H=>di) (fun cl C fp s H=>(aA bp (aA mW (aA dO (aG (aI K) (pv 1) (pv 0) (fun _ _=>rfl)) (aA mW aj (pv 0))) aj) aj))))),?_⟩
  case S1=>exact kG.is (N:=["_law_script"]) (osc:=aq yQ) (by decide +kernel)
  walk_at "rd";refine⟨_,.inl ⟨_,aO.of hl,rfl⟩,by omega,by rw[List.length_map];omega,?_⟩;rw[List.length_map,Int.toNat_natCast];refine pe (fun i=>some (nV (mix (xs.getD i 0) i))) (by omega) (fun i hi R R' h1 h2=>?_) ?_
  ·refine⟨Wk.set rfl,?_⟩
   walk_at "rd";have ei:(xs.map V.int)[i]?=some (.int (xs.getD i 0)):=by rw[List.getElem?_map];simp[List.getD,hi]
   refine⟨_,aO.of hl,_,bX ei,?_⟩;refine⟨.inl (by omega),_,rfl,.inr (by omega),by omega,h1 _ ?_⟩;have:=Int.emod_nonneg ((xs.getD i 0+7919 * (i:Int)) * 48271) (show (1000003:Int)≠0 by omega);show some (V.int (((xs.getD i 0+7919 * (i:Int)) * 48271 % 1000003).toNat:Int))=_;rw[Int.toNat_of_nonneg this]
  ·intro d hd
   rw[List.filterMap_eq_map'];have e:(List.range xs.length).map (fun i=>nV (mix (xs.getD i 0) i))=((List.range xs.length).map fun i=>mix (xs.getD i 0) i).map nV:=by rw[List.map_map];rfl
   rw[e];refine k d _ hd (by rw[List.length_map,List.length_range]) fun n hn=>?_;obtain⟨i,_,rfl⟩:=List.mem_map.mp hn;have:=Int.emod_lt_of_pos ((xs.getD i 0+7919 * (i:Int)) * 48271) (show 0<(1000003:Int) by omega);have:=Int.emod_nonneg ((xs.getD i 0+7919 * (i:Int)) * 48271) (show (1000003:Int)≠0 by omega);unfold mix;omega
end
end
section
section
noncomputable abbrev Gd:Stmt:=top 38
theorem FL:az ["_law_script","_law_k"] ["_law_script","_law_k"] (aq Gd):=by walk_at "s"
noncomputable def Aj:Sp:=fun vs H Q _=>∃ (l:Addr) (ns:List Nat) (i:Nat),vs=[.ref l,.int (i:Int)]/\H l=some (.lst (ns.map nV))/\(∀ n∈ns,n<1000003)/\∀ r:Nat,r<1000003->Q (nV r) H
theorem Eg {f:Addr}{fd:FuncData} (B:Bl mg) (F:cG K "_law_at" "_law_at" Gd f fd):aS P w K mg base aQ 1 f fd ["_law_script","_law_k"] Aj:=by
 have sc:=FL;walk_at "f"
 ·obtain⟨_,_,_,rfl,_⟩:=h
  rfl
 ·obtain⟨l,ns,i,rfl,hl,hn,k⟩:=h
  have hu0:=hr.cu;have hs:=sizeLine_eq;refine⟨_,(af (a_ (aF oS (pv 1) (br (bc K) rfl B.len boot_len (ag (pv 0) ae)) (aK _)) (ao (aw (aG (aI K) (pv 0) (pv 1) (fun _ _=>rfl)))) aJ)
   (ao (aw aj))),?_⟩
  walk_at "rd";refine⟨_,.inl ⟨_,aO.of hl,rfl⟩,?_⟩;rw[List.length_map]
  by_cases c:(i:Int)<(ns.length:Int)
  ·rw[if_pos (decide_eq_true c)]
   have hi:i<ns.length:=by omega
   exact⟨_,aO.of hl,nV ns[i],bX (by rw[List.getElem?_map,List.getElem?_eq_getElem hi];rfl),k _ (hn _ (List.getElem_mem hi))⟩
  ·rw[if_neg (by simpa using c)]
   exact k 0 (by omega)
noncomputable abbrev wX:Stmt:=top 51
theorem BB:az ["_law_hall","_law_seed","_law_count"] ["_law_hall","_law_seed"] (aq wX):=by walk_at "s"
noncomputable def qQ:Sp:=fun vs H Q _=>∃ (h a1 a2 a3 a5:Addr) (st:Nat) (mas:List Addr) (r:Nat),vs=[.ref h,nV r]/\H h=some (.dK (cf a1 a2 a3 st a5))/\H a1=some (.lst (mas.map V.ref))/\0<mas.length/\∀ (v:Nat) H',v<mas.length->Kp H H' []->Q (nV v) H'
theorem xj {f:Addr}{fd:FuncData} (B:Bl mg) (F:cG K "_law_pick" "_law_pick" wX f fd):aS P w K mg base aQ 1 f fd ["_law_hall","_law_seed"] qQ:=by
 have sc:=BB;walk_at "f"
 ·obtain⟨_,_,_,_,_,_,_,_,rfl,_⟩:=h
  rfl
 ·obtain⟨h,a1,a2,a3,a5,st,mas,r,rfl,hh,h1,l0,k⟩:=h
  have hu0:=hr.cu;have hu:=dk hr;have hs:=sizeLine_eq;refine⟨_,(af (au (i:=2) sc.nd rfl (by walk_at "o") (br (bc K) rfl B.len boot_len (ag (bu hu (pv 0) ar (fun _ _=>rfl)) ae)))
   (ao (aw (aG (aI K) (aT (ag (aA bp (pv 1) (pv 2)) (ag (aA fc (pv 2) aj) (ag (br (kY rfl) rfl B.mx boot_max (ag aj (ag (aA fc (aA fc (pv 2) aj) (aA bp (pv 1) aj)) ae))) ae)))) (aA bp (aA bZ (pv 1) aj) aj) (fun _ _=>rfl))))),?_⟩
  walk_at "rd";refine⟨_,bE.k' (k:=.inr ("maps":Str)) hh (bS _ _ _ _ _),_,.inl ⟨_,aO.of h1,rfl⟩,?_⟩;rw[List.length_map];have d0:=Int.emod_nonneg (r:Int) (show (mas.length:Int)≠0 by omega);have d1:=Int.emod_lt_of_pos (r:Int) (show 0<(mas.length:Int) by omega);refine⟨_,rfl,by omega,_,rfl,by omega,_,_,⟨rfl,rfl⟩,by omega,fun p hp=>⟨_,rfl,by omega,by omega,_,aO.of aa,?_⟩⟩;obtain⟨x,e1,e2⟩:=jk [V.int ((r:Int) % mas.length),V.int ((mas.length:Int) - 1),V.int (if (mas.length:Int) - 1 - (r:Int) % 4 > 0 then (mas.length:Int) - 1 - (r:Int) % 4 else 0)] ((r:Int) / 64 % 3) (by omega) (by simp;omega);refine⟨x,e1,?_⟩;have fin:∀ z:Int,0<=z->z<(mas.length:Int)->∀ H',Kp H H' []->Q (.int z) H':=fun z h0 h1 H' kp=>by
   have:=k z.toNat H' (by omega) kp;unfold nV at this
   rwa [Int.toNat_of_nonneg h0] at this
  simp only[List.mem_cons,List.not_mem_nil,or_false] at e2;rcases e2 with rfl|rfl|rfl
  ·exact fin _ d0 d1 _ ((Kp.refl H []).new hp)
  ·exact fin _ (by omega) (by omega) _ ((Kp.refl H []).new hp)
  ·exact fin _ (by split <;> omega) (by split <;> omega) _ ((Kp.refl H []).new hp)
end
end
section
theorem xK {α:Type}{l r:List α} (h:l <+: r) {i:Nat}{a:α} (e:l[i]?=some a):r[i]?=some a:=by
 obtain⟨t,rfl⟩:=h;rw[List.getElem?_append_left (List.getElem?_eq_some_iff.mp e).1];exact e
theorem cg {α β:Type}{R:α->β->Prop}:∀ {xs:List α}{ys:List β},Paired R xs ys->∀ {i:Nat}{x:α},xs[i]?=some x->∃ y,ys[i]?=some y/\R x y
 | _,_,.nil,i,x,h=>by cases i <;> cases h
 | _,_,.cons h t,0,x,e=>⟨_,rfl,by cases e;exact h⟩
 | _,_,.cons h t,i+1,x,e=>cg t (i:=i) e
theorem yd {α:Type} (g:α->V) (l:List α) (lo hi:Option Int):∃ l':List α,gp (l.map g) lo hi=l'.map g/\l'.length<=l.length:=by
 refine⟨(l.drop (HT.cL (l.map g).length 0 lo)).take (HT.cL (l.map g).length (l.map g).length hi - HT.cL (l.map g).length 0 lo),?_,?_⟩
 ·unfold gp
  rw[List.map_take,List.map_drop]
 ·rw[List.length_take,List.length_drop]
  omega
noncomputable def bo (m:Mp):List Nm:=dN (m.map (·.1))
noncomputable def gQ (H:Hp) (p:Addr) (m:Mp) (ns:List Nm):Prop:=∃ rs:List Addr,H p=some (.lst (rs.map V.ref))/\Paired (fun a n=>∃ v,ak m n=some v/\H a=some (.tup [sV n,sV v])) rs ns
theorem sr {H:Hp}{m m':Mp}:∀ (ns:List Nm) {rs rs':List Addr},(∀ n∈ns,ak m n=ak m' n)->Paired (fun a n=>∃ v,ak m n=some v/\H a=some (.tup [sV n,sV v])) rs ns->Paired (fun a n=>∃ v,ak m' n=some v/\H a=some (.tup [sV n,sV v])) rs' ns->eS H (3 * ns.length) (rs.map V.ref) (rs'.map V.ref)
 | [],rs,rs',_,h,h'=>by
  cases h;cases h';exact .nil
 | n::ns,rs,rs',he,h,h'=>by
  cases h with
  | cons h t =>
   cases h' with
   | cons h' t' =>
    obtain⟨v,e,h⟩:=h;obtain⟨v',e',h'⟩:=h';rw[he n List.mem_cons_self,e'] at e
    cases e;exact (eS.tup h h' (.str _ (.str _ .nil)) (sr ns (fun x hx=>he x (List.mem_cons_of_mem _ hx)) t t')).AL (by rw[List.length_cons];omega)
theorem gQ.same {H H':Hp} (e:aE H H') {p:Addr}{m:Mp}{ns:List Nm} (h:gQ H p m ns):gQ H' p m ns:=by
 obtain⟨rs,h1,h2⟩:=h;exact⟨rs,e _ _ h1,Paired.imp' (fun a n ⟨v,e1,e2⟩=>⟨v,e1,e _ _ e2⟩) h2⟩
noncomputable def iD:Sp:=fun vs H Q _=>∃ (l:Addr) (das:List Addr) (ds:List cb) (v:Nat) (m:Mp),vs=[.ref l,.int (v:Int)]/\ig H l das ds/\ds.length<=63/\(aU ds S0).2.ms[v]?=some m /\
 ∀ (p:Addr) H',gQ H' p m (bo m)->Kp H H' []->Q (.ref p) H'
noncomputable def iC:Sp:=fun vs H Q _=>∃ (l:Addr) (das:List Addr) (ds:List cb),vs=[.ref l]/\ig H l das ds/\ds.length<=63 /\
 ∀ (p:Addr) (tvs:List V) H',H' p=some (.lst tvs)->Paired (cC (fun _=>True) H') tvs (aU ds S0).1->Kp H H' []->Q (.ref p) H'
end
section
section
noncomputable abbrev xF:Stmt:=top 50
theorem DF:az ["_law_values"] ["_law_values"] (aq xF):=by walk_at "s"
theorem kr:(["_law_name","_law_values"]:List Str).Nodup:=by decide +kernel
noncomputable def rN:Sp:=fun vs H Q _=>∃ (a:Addr) (m:Mp),vs=[.ref a]/\H a=some (.dK (aP sV m))/\m.length<64/\∀ p H',gQ H' p m (bo m)->Kp H H' []->Q (.ref p) H'
structure EI (H:Hp) (a l:Addr) (m:Mp) (i:Nat) (ys:List V) (H2:Hp):Prop where
 ex:∃ rs:List Addr,ys=rs.map V.ref/\Paired (fun a n=>∃ v,ak m n=some v/\H2 a=some (.tup [sV n,sV v])) rs ((bo m).take i)
 kp:aE H H2
theorem BF {f:Addr}{fd:FuncData} (B:Bl mg) (F:cG K "_law_entries_of" "_law_entries_of" xF f fd):aS P w K mg base aQ 1 f fd ["_law_values"] rN:=by
 have sc:=DF;walk_at "f"
 ·obtain⟨_,_,rfl,_⟩:=h
  rfl
 ·obtain⟨a,m,rfl,ha,lm,k⟩:=h
  have hu0:=hr.cu;have hu:=dk hr;have hs:=sizeLine_eq;refine⟨_,(ao (aw (cx (N':=["_law_name","_law_values"]) (ix:=[none,some 0]) rfl ?S1 (bq K (br (iq K) rfl B.srt boot_sorted (ag (cS (cY rfl) rfl B.lst boot_list (ag (pv 0) ae)) ae))) (fun cl C fp s H=>(aM (i:=0) kr rfl (by walk_at "o"))) (fun cl C fp s H=>di) (fun cl C fp s H=>(bH (ag (pv 0) (ag (bu hu (pv 1) (pv 0) (fun _ _=>rfl)) ae))))))),?_⟩
  case S1=>exact kG.is (N:=["_law_values"]) (osc:=aq xF) (by decide +kernel)
  walk_at "rd";refine⟨_,.inl ha,fun p hp=>?_⟩;rw[uy];have s0:=(aE.refl H).new (o:=.lst ((m.map (·.1)).map sV)) hp;have f0:upd H p (.lst ((m.map (·.1)).map sV)) p=some (.lst ((m.map (·.1)).map sV)):=aa;generalize upd H p (.lst ((m.map (·.1)).map sV))=G0 at s0 f0 ⊢;have tv:∀ l:List Nm,(l.map tx).map V.str=l.map sV:=fun l=>by rw[List.map_map];rfl
  refine⟨(m.map (·.1)).map tx,aO.of (by rw[tv];exact f0),by simp only[List.length_map];exact lm,fun p1 ss hp1 q1 q2=>?_⟩;rw[lR q1 q2,tv,show dN (m.map (·.1))=bo m from rfl];have s1:=s0.trans ((aE.refl G0).new (o:=.lst ((bo m).map sV)) hp1);have f1:upd G0 p1 (.lst ((bo m).map sV)) p1=some (.lst ((bo m).map sV)):=aa;generalize upd G0 p1 (.lst ((bo m).map sV))=G1 at s1 f1 ⊢;refine⟨⟨_,aO.of f1⟩,?_⟩;have lk:(bo m).length=m.length:=by
   unfold bo;rw[(aR _).length_eq,List.length_map]
  refine de (K:=K) (a:=p1) (xs:=(bo m).map sV) (fun i ys H2=>EI G1 a p1 m i ys H2) ⟨⟨[],rfl,by rw[List.take_zero];exact .nil⟩,aE.refl _⟩ (by rw[List.length_map];omega) ?_ (fun i ys H2 I=>aO.of (I.kp _ _ f1)) ?_ ?_
  ·rintro i ys H2 ⟨⟨rs,rfl,pr⟩,_⟩
   rw[List.length_map,Paired.length pr,List.length_take];exact Nat.min_le_left _ _
  ·rintro i ys H2 x hx ⟨⟨rs,rfl,pr⟩,sm⟩ R R' g1 g2
   rw[List.getElem?_map] at hx
   cases en:(bo m)[i]? with
   | none=>rw[en] at hx;cases hx
   | some n =>
    rw[en] at hx;have hx':x=sV n:=(Option.some.inj hx).symm;subst hx';refine⟨Wk.set rfl,?_⟩;walk_at "rd";have ha2:=sm _ _ (s1 _ _ ha);have hn:(ak m n).isSome=true:=by
     have:=List.mem_of_getElem? en;unfold bo at this;exact (mem_keys m n).mp ((aR _).mem_iff.mp this)
    obtain⟨v,ev⟩:=Option.isSome_iff_exists.mp hn;refine⟨sV v,bE.k' (k:=.inr (tx n)) ha2 (by rw[bR,ev];rfl),by omega,fun p2 hp2=>g1 _ _ ?_⟩;have s2:=(aE.refl H2).new (o:=.tup [sV n,sV v]) hp2;refine⟨⟨rs++[p2],by rw[List.map_append];rfl,?_⟩,sm.trans s2⟩;rw[List.take_add_one,en];exact Paired.snoc (Paired.imp' (fun c n ⟨u,e1,e2⟩=>⟨u,e1,s2 _ _ e2⟩) pr) ⟨v,ev,aa⟩
  ·rintro ys H2 ⟨⟨rs,rfl,pr⟩,sm⟩ d hd
   rw[List.length_map,List.take_length] at pr;have s2:=(aE.refl H2).new (o:=.lst (rs.map V.ref)) hd;exact k d _ ⟨rs,aa,Paired.imp' (fun c n ⟨u,e1,e2⟩=>⟨u,e1,s2 _ _ e2⟩) pr⟩ fun c o hc _=>s2 c o (sm c o (s1 c o hc))
end
end
section
section
noncomputable abbrev FY:Stmt:=top 52
noncomputable abbrev Hb:List Str:=["_law_handed","_law_own","_law_left","_law_right","_law_one","_law_two"]
theorem Fv:az Hb ["_law_handed","_law_own"] (aq FY):=by walk_at "s"
noncomputable def AQ:Sp:=fun vs H Q _=>∃ (x y:V) (n:Nat),vs=[x,y]/\eS H n [x] [y]/\n<=1000000/\∀ H',Kp H H' []->Q (.bl true) H'
structure SI (H:Hp) (v u:V) (p1 p2:Addr) (n:Nat) (σ:L2.St) (H2:Hp):Prop where
 ex:∃ xs ys o t,σ=[some v,some u,some (.ref p1),some (.ref p2),o,t]/\H2 p1=some (.lst xs.reverse)/\H2 p2=some (.lst ys.reverse)/\eS H n xs ys
 kp:Kp H H2 []
theorem pW {x:V}{xs:List V}:(x::xs).reverse[(x::xs).reverse.length - 1]?=some x:=by
 rw[List.reverse_cons,List.length_append,List.length_singleton,Nat.add_sub_cancel,List.getElem?_append_right (Nat.le_refl _),Nat.sub_self]
 rfl
theorem oI {x:V}{xs:List V}:(x::xs).reverse.dropLast=xs.reverse:=by
 rw[List.reverse_cons,List.dropLast_concat]
theorem DV {f:Addr}{fd:FuncData} (B:Bl mg) (F:cG K "_law_stays_so" "_law_stays_so" FY f fd):aS P w K mg base aQ 1 f fd ["_law_handed","_law_own"] AQ:=by
 have sc:=Fv;walk_at "f"
 ·obtain⟨_,_,_,rfl,_⟩:=h
  rfl
 ·obtain⟨x,y,n,rfl,al,hn,k⟩:=h
  have hu0:=hr.cu;have hu:=dk hr;have hs:=sizeLine_eq;refine⟨_,(af (au (i:=2) sc.nd rfl (by walk_at "o") (aT (ag (pv 0) ae)))
   (af (au (i:=3) sc.nd rfl (by walk_at "o") (aT (ag (pv 1) ae)))
   (af (km PassesOwn.never (aF (nD K hu0) (pv 3) (aT ae) (aK _)) (af (cH (au (i:=4) sc.nd rfl (by walk_at "o") (js K PySem.F.plainAttrs_list PySem.F.slot_list_pop PySem.F.type_list_pop nu (pv 2))))
    (af (cH (au (i:=5) sc.nd rfl (by walk_at "o") (js K PySem.F.plainAttrs_list PySem.F.slot_list_pop PySem.F.type_list_pop nu (pv 3))))
    (ao (a_ (cK (br (rm K) rfl B.isi boot_isinstance (ag (pv 5) (ag (bH (ag (cv (v:=.ty "list") rfl B.lst boot_list rfl) (ag (cv (v:=.ty "tuple") rfl B.tup boot_tuple rfl) ae))) ae)))) (af (a_ (aF dS (br (bL K) rfl B.isi boot_isinstance (ag (pv 4) (ag (cv (v:=.ty "list") rfl B.lst boot_list rfl) ae))) (br (bL K) rfl B.isi boot_isinstance (ag (pv 5) (ag (cv (v:=.ty "list") rfl B.lst boot_list rfl) ae))) (aK _)) (ao (aw fo)) aJ)
     (af (a_ (PW.pt (hJ (aF dS (br (bL K) rfl B.isi boot_isinstance (ag (pv 4) (ag (cv (v:=.ty "tuple") rfl B.tup boot_tuple rfl) ae))) (br (bL K) rfl B.isi boot_isinstance (ag (pv 5) (ag (cv (v:=.ty "tuple") rfl B.tup boot_tuple rfl) ae))) (aK _)) (fU (aF dS (br (bc K) rfl B.len boot_len (ag (pv 4) ae)) (br (bc K) rfl B.len boot_len (ag (pv 5) ae)) (aK _))))) (ao (aw fo)) aJ)
     (af (ba (dF K PySem.F.plainAttrs_list PySem.F.slot_list_extend PySem.F.type_list_extend fX (pv 2) (ag (cS (bP K) rfl B.lst boot_list (ag (pv 4) ae)) ae)))
     (ao (ba (dF K PySem.F.plainAttrs_list PySem.F.slot_list_extend PySem.F.type_list_extend fX (pv 3) (ag (cS (bP K) rfl B.lst boot_list (ag (pv 5) ae)) ae))))))) (ao (a_ (cK (br (bL K) rfl B.isi boot_isinstance (ag (pv 5) (ag (cv (v:=.ty "str") rfl B.str boot_str rfl) ae)))) (ao (a_ (PW.pt (hJ (eM (cK (br (bL K) rfl B.isi boot_isinstance (ag (pv 4) (ag (cv (v:=.ty "str") rfl B.str boot_str rfl) ae))))) (fU (aF dS (pv 4) (pv 5) (aK _))))) (ao (aw fo)) aJ)) (ao (a_ (da (fh (pv 5))) (ao (a_ (da (jm (pv 4))) (ao (aw fo)) aJ)) (ao (a_ (PW.pt (hJ (eM (cK (br (bL K) rfl B.isi boot_isinstance (ag (pv 4) (ag (cv (v:=.ty "int") rfl B.int boot_int rfl) ae))))) (hJ (cK (br (bL K) rfl B.isi boot_isinstance (ag (pv 4) (ag (cv (v:=.ty "bool") rfl B.bool boot_bool rfl) ae)))) (fU (aF dS (pv 4) (pv 5) (aK _)))))) (ao (aw fo)) aJ)))))))))))
   (ao (aw fo))))),?_⟩
  walk_at "rd";refine⟨by omega,fun p1 hp1=>⟨by omega,fun p2 hp2=>?_⟩⟩;have s1:=(aE.refl H).new (o:=.lst [x]) hp1;have f1:upd H p1 (.lst [x]) p1=some (.lst [x]):=aa;generalize upd H p1 (.lst [x])=G1 at s1 f1 hp2 ⊢;have s2:=(aE.refl G1).new (o:=.lst [y]) hp2;have f2:upd G1 p2 (.lst [y]) p2=some (.lst [y]):=aa;have f12:=s2 _ _ f1;have n12:p1≠p2:=ai f1 hp2;have q2:H p2=none:=s1.free hp2;generalize upd G1 p2 (.lst [y])=G2 at s2 f2 f12 ⊢;refine mw (fun m σ H2=>m<=1000000/\SI H x y p1 p2 m σ H2) n ⟨hn,⟨⟨[x],[y],none,none,rfl,f12,f2,al⟩,fun c o hc _=>s2 c o (s1 c o hc)⟩⟩ ?_ ?_
  ·rintro m σ H2 ⟨hm,⟨xs,ys,o,t,rfl,h1,h2,al⟩,kp⟩
   walk_at "rd";refine⟨by omega,fun p hp=>?_⟩;have s3:=(aE.refl H2).new (o:=.lst []) hp;have f3:upd H2 p (.lst []) p=some (.lst []):=aa;have kp3:Kp H (upd H2 p (.lst [])) []:=fun c o hc _=>s3 c o (kp c o hc (by simp));generalize upd H2 p (.lst [])=H3 at s3 f3 kp3 ⊢;have g1:=s3 _ _ h1;have g2:=s3 _ _ h2;refine⟨_,aO.of g2,aO.of f3,?_⟩;have dec:xs=[]/\ys=[]\/∃ v' u' xs' ys',xs=v'::xs'/\ys=u'::ys':=by
    cases al with
    | nil=>exact .inl ⟨rfl,rfl⟩
    | int=>exact .inr ⟨_,_,_,_,rfl,rfl⟩
    | str=>exact .inr ⟨_,_,_,_,rfl,rfl⟩
    | non=>exact .inr ⟨_,_,_,_,rfl,rfl⟩
    | lst=>exact .inr ⟨_,_,_,_,rfl,rfl⟩
    | tup=>exact .inr ⟨_,_,_,_,rfl,rfl⟩
   rcases dec with ⟨rfl,rfl⟩|⟨v',u',xs',ys',rfl,rfl⟩
   ·rw[if_neg (by simp)]
    exact k _ kp3
   ·rw[if_pos (by simp)]
    intro I hI;refine⟨.inl ⟨rfl,_,aO.of g1⟩,_,g1,_,pW,hI.go ?_⟩;walk_at "rd";rw[oI];have f4:upd H3 p1 (.lst xs'.reverse) p1=some (.lst xs'.reverse):=aa;have g4:upd H3 p1 (.lst xs'.reverse) p2=some (.lst (u'::ys').reverse):=by rw[ah (Ne.symm n12)];exact g2
    have kp4:Kp H (upd H3 p1 (.lst xs'.reverse)) []:=fun c o hc _=>by
     rw[ah (ai hc hp1)];exact kp3 c o hc (by simp)
    generalize upd H3 p1 (.lst xs'.reverse)=H4 at f4 g4 kp4 ⊢;intro I hI;refine⟨.inl ⟨rfl,_,aO.of g4⟩,_,g4,_,pW,hI.go ?_⟩;walk_at "rd";rw[oI];have f5:upd H4 p2 (.lst ys'.reverse) p2=some (.lst ys'.reverse):=aa;have g5:upd H4 p2 (.lst ys'.reverse) p1=some (.lst xs'.reverse):=by rw[ah n12];exact f4
    have kp5:Kp H (upd H4 p2 (.lst ys'.reverse)) []:=fun c o hc _=>by
     rw[ah (ai hc q2)];exact kp4 c o hc (by simp)
    generalize upd H4 p2 (.lst ys'.reverse)=H5 at f5 g5 kp5 ⊢;refine⟨by omega,fun p6 hp6=>⟨_,_,⟨rfl,rfl⟩,_,_,aa,?_⟩⟩;have s6:=(aE.refl H5).new (o:=.tup [.ty "list",.ty "tuple"]) hp6;have f6:=s6 _ _ f5;have g6:=s6 _ _ g5;have kp6:Kp H (upd H5 p6 (.tup [.ty "list",.ty "tuple"])) []:=fun c o hc _=>s6 c o (kp5 c o hc (by simp));generalize upd H5 p6 (.tup [.ty "list",.ty "tuple"])=H6 at f6 g6 kp6 ⊢;have fin:∀ {m'},m'<m->eS H m' xs' ys'->∃ m',m'<m/\m'<=1000000/\SI H x y p1 p2 m' [some x,some y,some (.ref p1),some (.ref p2),some v',some u'] H6:=fun {m'} hlt al=>⟨m',hlt,by omega,⟨_,_,_,_,rfl,g6,f6,al⟩,kp6⟩;rcases al.view with ⟨m',lt,al',⟨i,rfl,rfl⟩|⟨i,rfl,rfl⟩|⟨rfl,rfl⟩⟩|⟨b0,n1,m1,as,bs,a,b,rfl,rfl,ha,hb,al1,al',hm1⟩
    ·refine⟨false,_,cJ.int i,rfl,?_⟩
     rw[if_neg (by simp)];refine⟨_,_,⟨rfl,rfl⟩,false,_,cJ.int i,rfl,?_⟩;rw[if_neg (by simp),if_neg (by simp)];refine⟨_,_,⟨rfl,rfl⟩,true,_,cJ.int i,rfl,?_⟩;rw[if_neg (by simp)];refine⟨_,_,⟨rfl,rfl⟩,false,_,cJ.int i,rfl,?_⟩;rw[if_neg (by simp)];refine⟨rfl,?_⟩;rw[if_neg (by simp)];exact fin lt al'
    ·refine⟨false,_,cJ.str i,rfl,?_⟩
     rw[if_neg (by simp)];refine⟨_,_,⟨rfl,rfl⟩,true,_,cJ.str i,rfl,?_⟩;rw[if_pos rfl];refine⟨_,_,⟨rfl,rfl⟩,true,_,cJ.str i,rfl,?_⟩;rw[if_neg (by simp)];refine⟨rfl,?_⟩;rw[if_neg (by simp)];exact fin lt al'
    ·refine⟨false,_,cJ.non,rfl,?_⟩
     rw[if_neg (by simp)];refine⟨_,_,⟨rfl,rfl⟩,false,_,cJ.non,rfl,?_⟩;rw[if_neg (by simp),if_pos (by simp),if_neg (by simp)];exact fin lt al'
    ·have ha6:=kp6 _ _ ha (by simp)
     have hb6:=kp6 _ _ hb (by simp);have le:=al1.len;have le2:=al'.len;refine⟨true,_,oE hb6,by cases b0 <;> rfl,?_⟩;rw[if_pos rfl];refine⟨_,_,⟨rfl,rfl⟩,b0,_,oE ha6,by cases b0 <;> rfl,_,_,⟨rfl,rfl⟩,b0,_,oE hb6,by cases b0 <;> rfl,rfl,?_⟩;rw[if_neg (by simp)];refine⟨_,_,⟨rfl,rfl⟩,!b0,_,oE ha6,by cases b0 <;> rfl,_,_,⟨rfl,rfl⟩,!b0,_,oE hb6,by cases b0 <;> rfl,rfl,?_⟩;rw[if_neg (by simp)];refine⟨_,wN ha6,_,wN hb6,rfl,?_⟩;rw[if_neg (by simp[le.1])];refine⟨.inl ⟨rfl,_,aO.of g6⟩,a,rfl,_,yU ha6,fun l hl=>?_⟩;have s7:=(aE.refl H6).new (o:=.lst as) hl;have f7:upd H6 l (.lst as) l=some (.lst as):=aa;have g7:=s7 _ _ g6;have b7:=s7 _ _ f6;have nl1:l≠p1:=Ne.symm (ai g6 hl);have kp7:Kp H (upd H6 l (.lst as)) []:=fun c o hc _=>s7 c o (kp6 c o hc (by simp));generalize upd H6 l (.lst as)=H7 at f7 g7 b7 kp7 ⊢;refine⟨_,g7,_,f7,by rw[List.length_reverse];omega,?_⟩;have f8:upd H7 p1 (.lst (xs'.reverse++as)) p1=some (.lst (xs'.reverse++as)):=aa;have b8:upd H7 p1 (.lst (xs'.reverse++as)) p2=some (.lst ys'.reverse):=by rw[ah (Ne.symm n12)];exact b7
     have kp8:Kp H (upd H7 p1 (.lst (xs'.reverse++as))) []:=fun c o hc _=>by
      rw[ah (ai hc hp1)];exact kp7 c o hc (by simp)
     generalize upd H7 p1 (.lst (xs'.reverse++as))=H8 at f8 b8 kp8 ⊢;refine⟨.inl ⟨rfl,_,aO.of b8⟩,b,rfl,_,yU (kp8 _ _ hb (by simp)),fun l2 hl2=>?_⟩;have s9:=(aE.refl H8).new (o:=.lst bs) hl2;have f9:upd H8 l2 (.lst bs) l2=some (.lst bs):=aa;have g9:=s9 _ _ f8;have b9:=s9 _ _ b8;have kp9:Kp H (upd H8 l2 (.lst bs)) []:=fun c o hc _=>s9 c o (kp8 c o hc (by simp));generalize upd H8 l2 (.lst bs)=H9 at f9 g9 b9 kp9 ⊢;refine⟨_,b9,_,f9,by rw[List.length_reverse];omega,n1+m1,by omega,by omega,⟨as.reverse++xs',bs.reverse++ys',_,_,rfl,?_,?_,al1.rev al'⟩,fun c o hc _=>?_⟩
     ·rw[ah n12,List.reverse_append,List.reverse_reverse];exact g9
     ·rw[aa,List.reverse_append,List.reverse_reverse]
     ·rw[ah (ai hc q2)];exact kp9 c o hc (by simp)
  ·intro σ H2 Q1 Q2 mono h
   revert h;walk_at "rd";rintro ⟨v,e1,e2,q⟩;refine⟨v,e1,e2,fun p hp=>?_⟩;obtain⟨p1,rfl,xs,h1,h2,z⟩:=q p hp;exact⟨p1,rfl,xs,h1,h2,mono _ _ z⟩
end
end
section
open PySem L2
theorem wx (b:Nm):∀ (x y:Nm),b++x<b++y↔x<y:=by
 induction b with
 | nil=>intro x y;exact Iff.rfl
 | cons a r ih=>intro x y;rw[List.cons_append,List.cons_append,List.cons_lt_cons_iff];simp[ih]
theorem ye (b:Nm) (c:Nat) (r:Nm):b<b++c::r:=by
 have:=(wx b [] (c::r)).mpr (List.nil_lt_cons _ _)
 rwa [List.append_nil] at this
theorem qN {b x y:Nm}{c d:Nat} (h:c<d):b++c::x<b++d::y:=(wx b _ _).mpr (List.cons_lt_cons_iff.mpr (.inl h))
theorem s_ {a b:Nm} (h:a<b):¬ b<a:=fun z=>List.lt_irrefl _ (List.lt_trans h z)
theorem fB:∀ {l r:List Nm},l.Pairwise (·<·)->r.Pairwise (·<·)->(∀ x,x∈l↔x∈r)->l=r
 | [],[],_,_,_=>rfl
 | [],b::r,_,_,h=>absurd ((h b).mpr List.mem_cons_self) (by simp)
 | a::l,[],_,_,h=>absurd ((h a).mp List.mem_cons_self) (by simp)
 | a::l,b::r,p,q,h=>by
  obtain⟨p1,p2⟩:=List.pairwise_cons.mp p;obtain⟨q1,q2⟩:=List.pairwise_cons.mp q;have e:a=b:=by
   rcases List.mem_cons.mp ((h a).mp List.mem_cons_self) with z|z
   ·exact z
   ·rcases List.mem_cons.mp ((h b).mpr List.mem_cons_self) with y|y
    ·exact y.symm
    ·exact absurd (q1 a z) (s_ (p1 b y))
  subst e;rw[fB p2 q2 fun x=>⟨fun hx=>?_,fun hx=>?_⟩]
  ·rcases List.mem_cons.mp ((h x).mp (List.mem_cons_of_mem _ hx)) with z|z
   ·exact absurd (p1 x hx) (z ▸ List.lt_irrefl _)
   ·exact z
  ·rcases List.mem_cons.mp ((h x).mpr (List.mem_cons_of_mem _ hx)) with z|z
   ·exact absurd (q1 x hx) (z ▸ List.lt_irrefl _)
   ·exact z
theorem eT {l:List Nm} (h:l.Nodup):(dN l).Pairwise (·<·):=by
 have nd:(dN l).Nodup:=(aR l).symm.nodup h;have p:=kx l;rw[List.nodup_iff_pairwise_ne] at nd;refine (List.Pairwise.and nd p).imp fun {a b} ⟨ne,q⟩=>?_
 by_cases z:a<b
 ·exact z
 ·exact absurd (oj q z) ne
theorem iy {m1 m2:Mp} (h1:aB m1) (h2:aB m2):(bw m1 m2).Pairwise (·<·):=(eT (lQ h1 h2)).sublist List.filter_sublist
theorem iM {m1 m2:Mp}{n:Nm}:n∈bw m1 m2↔ak m1 n≠ak m2 n:=by
 unfold bw;rw[List.mem_filter,(aR _).mem_iff,gy,decide_eq_true_eq];constructor
 ·exact fun h=>h.2
 ·intro h
  refine⟨?_,h⟩
  cases e1:ak m1 n with
  | some _=>exact .inl rfl
  | none =>
   cases e2:ak m2 n with
   | some _=>exact .inr rfl
   | none=>rw[e1,e2] at h;exact absurd rfl h
noncomputable def n_ (m:Mp) (b:Nm):Prop:=∃ j,(ak m j).isSome=true/\b <+: j
theorem mD {m:Mp}{n b:Nm}{to:Option Nm} (h:¬ b <+: n):n_ (bA m n to) b↔n_ m b:=by
 constructor
 ·rintro ⟨j,hj,hb⟩
  rw[b_,if_neg (fun z:j=n=>h (z ▸ hb))] at hj;exact⟨j,hj,hb⟩
 ·rintro ⟨j,hj,hb⟩
  refine⟨j,?_,hb⟩;rw[b_,if_neg (fun z:j=n=>h (z ▸ hb))];exact hj
theorem oB {m:Mp}{b:Nm}:n_ m b↔(ak m b).isSome=true\/∃ c,n_ m (b++[c]):=by
 constructor
 ·rintro ⟨j,hj,r,rfl⟩
  cases r with
  | nil=>rw[List.append_nil] at hj;exact .inl hj
  | cons c r=>exact .inr ⟨c,_,hj,r,by simp⟩
 ·rintro (h|⟨c,j,hj,hb⟩)
  ·exact⟨b,h,List.prefix_refl _⟩
  ·exact⟨j,hj,(List.prefix_append b [c]).trans hb⟩
noncomputable def nF (m:Mp) (b:Nm):Bool:=!(m.all fun p=>!b.isPrefixOf p.1)
theorem oO (m:Mp) (b:Nm):nF m b=true↔n_ m b:=by
 unfold nF;rw[Bool.not_eq_true',<- Bool.not_eq_true,jy,kD];exact Classical.not_not
theorem lI (M:Mp):∀ (l:List Nm) (a:Nat×Nat×Nd),(l.foldl (bW M) a).1=a.1+(l.filter fun b=>nF M b).length
 | [],a=>rfl
 | b::l,a=>by
  rw[List.foldl_cons,lI M l,List.filter_cons];unfold bW nF
  cases e:M.all fun p=>!b.isPrefixOf p.1 with
  | true=>simp
  | false=>simp;omega
theorem qT {m:Mp}{n:Nm}{to:Option Nm} (h:ak m n≠to) (nd:Nd) (st:Nat):(bU m nd st n to).made=((bD n).filter fun b=>nF (bA m n to) b).length/\(bU m nd st n to).m=bA m n to:=by
 unfold bU;rw[if_neg h];refine⟨?_,rfl⟩;show ((bD n).foldl (bW (bA m n to)) (0,st,nd)).1=_;rw[lI];exact Nat.zero_add _
noncomputable def cc (mb mo mt:Mp):List Nm:=(bw mb mt).filter fun n=>decide (ak mt n≠ak mo n)
theorem dI {mb mo mt:Mp}{n:Nm}:n∈cc mb mo mt↔ak mt n≠ak mb n/\ak mt n≠ak mo n:=by
 unfold cc;rw[List.mem_filter,iM,decide_eq_true_eq];exact and_congr_left fun _=>ne_comm
theorem kf {mb mo mt:Mp} (h1:aB mb) (h2:aB mt):(cc mb mo mt).Pairwise (·<·):=(iy h1 h2).sublist List.filter_sublist
theorem uS {mb mo mt:Mp} (h1:aB mb) (h2:aB mo) (h3:aB mt):bQ mb mo mt=((cc mb mo mt).filter fun n=>decide (ak mb n≠ak mo n)).map (eZ mb mo mt):=by
 unfold bQ;congr 1;refine fB ((iy h1 h2).sublist List.filter_sublist) ((kf h1 h3).sublist List.filter_sublist) fun n=>?_;rw[List.mem_filter,List.mem_filter,dI,iM,Bool.and_eq_true,decide_eq_true_eq,decide_eq_true_eq,decide_eq_true_eq,iM];constructor
 ·rintro ⟨a,b,c⟩;exact⟨⟨fun z=>b z.symm,fun z=>c z.symm⟩,a⟩
 ·rintro ⟨⟨a,b⟩,c⟩;exact⟨c,fun z=>a z.symm,fun z=>b z.symm⟩
theorem lF {m:Mp}{n:Nm}{to:Option Nm} (h:ak m n=to) (nd:Nd) (st:Nat):bU m nd st n to=⟨0,st,m,nd⟩:=by unfold bU;rw[if_pos h]
theorem gK (mo mt:Mp):∀ (l:List Nm) (a:LR),l.Nodup->(∀ n∈l,ak a.m n=ak mo n)->l.foldl (aY mt) a=(l.filter fun n=>decide (ak mt n≠ak mo n)).foldl (aY mt) a
 | [],a,_,_=>rfl
 | n::l,a,nd,h=>by
  obtain⟨n1,n2⟩:=List.nodup_cons.mp nd;have step:∀ x∈l,ak (aY mt a n).m x=ak mo x:=fun x hx=>by
   show ak (bU a.m a.nd a.st n (ak mt n)).m x=_;rw[jA,if_neg (fun z:x=n=>n1 (z ▸ hx))];exact h x (List.mem_cons_of_mem _ hx)
  rw[List.foldl_cons,List.filter_cons]
  by_cases e:ak mt n=ak mo n
  ·have e2:aY mt a n=a:=by
    unfold aY;rw[lF ((h n List.mem_cons_self).trans e.symm)]
    rfl
   rw[if_neg (by simp[e]),e2];exact gK mo mt l a n2 fun x hx=>h x (List.mem_cons_of_mem _ hx)
  ·rw[if_pos (by simp[e]),List.foldl_cons]
   exact gK mo mt l (aY mt a n) n2 step
theorem vP {mb mo mt:Mp} (h1:aB mb) (h3:aB mt) (nd:Nd) (st:Nat):bF mb mo mt nd st=(cc mb mo mt).foldl (aY mt) ⟨0,st,mo,nd⟩:=by
 refine gK mo mt (bw mb mt) _ ?_ fun n _=>rfl;rw[List.nodup_iff_pairwise_ne];exact (iy h1 h3).imp fun {a b} h (e:a=b)=>List.lt_irrefl b (e ▸ h)
noncomputable def under (full:List Nm) (b:Nm):List Nm:=full.filter fun n=>b.isPrefixOf n
theorem dg {full:List Nm}{b n:Nm}:n∈under full b↔n∈full/\b <+: n:=by unfold under;rw[List.mem_filter,List.isPrefixOf_iff_prefix]
theorem pG {full:List Nm} (h:full.Pairwise (·<·)) (b:Nm):(under full b).Pairwise (·<·):=h.sublist List.filter_sublist
theorem rX {full:List Nm} (h:full.Pairwise (·<·)) (b:Nm):∀ (L:List Nat),L.Pairwise (·<·)->(L.flatMap fun c=>under full (b++[c])).Pairwise (·<·)
 | [],_=>.nil
 | c::L,p=>by
  obtain⟨p1,p2⟩:=List.pairwise_cons.mp p;rw[List.flatMap_cons,List.pairwise_append];refine⟨pG h _,rX h b L p2,fun x hx y hy=>?_⟩;obtain⟨d,hd,hy⟩:=List.mem_flatMap.mp hy;obtain⟨_,r,rfl⟩:=dg.mp hx;obtain⟨_,r',rfl⟩:=dg.mp hy;rw[List.append_assoc,List.append_assoc];exact qN (p1 d hd)
theorem kz {full:List Nm} (h:full.Pairwise (·<·)) (b:Nm) (L:List Nat) (p:L.Pairwise (·<·)) (cov:∀ n∈full,∀ c,b++[c] <+: n->c∈L) :
  under full b=(if b∈full then [b] else [])++L.flatMap fun c=>under full (b++[c]):=by
 have fs:=rX h b L p;have low:∀ y∈L.flatMap (fun c=>under full (b++[c])),b<y:=fun y hy=>by
  obtain⟨d,hd,hy⟩:=List.mem_flatMap.mp hy;obtain⟨_,r,rfl⟩:=dg.mp hy;rw[List.append_assoc];exact ye b d r
 refine fB (pG h b) ?_ fun x=>?_
 ·rw[List.pairwise_append]
  refine⟨?_,fs,fun x hx y hy=>?_⟩
  ·split
   ·exact List.pairwise_singleton _ _
   ·exact .nil
  ·split at hx
   ·rw[List.mem_singleton.mp hx];exact low y hy
   ·cases hx
 ·rw[dg,List.mem_append,List.mem_flatMap]
  constructor
  ·rintro ⟨hx,r,rfl⟩
   cases r with
   | nil=>rw[List.append_nil] at hx ⊢;left;rw[if_pos hx];exact List.mem_singleton.mpr rfl
   | cons c r =>
    have q:b++[c] <+: b++c::r:=⟨r,by simp⟩;exact .inr ⟨c,cov _ hx c q,dg.mpr ⟨hx,q⟩⟩
  ·rintro (hx|⟨c,_,hx⟩)
   ·split at hx
    ·rename_i hb;rw[List.mem_singleton.mp hx];exact⟨hb,List.prefix_refl _⟩
    ·cases hx
   ·obtain⟨h1,h2⟩:=dg.mp hx
    exact⟨h1,(List.prefix_append b [c]).trans h2⟩
noncomputable def cnt (B:List Nm) (b:Nm):Nat:=(B.filter fun n=>b.isPrefixOf n).length
theorem cnt_cons (x:Nm) (B:List Nm) (b:Nm):cnt (x::B) b=(if b.isPrefixOf x=true then 1 else 0)+cnt B b:=by
 unfold cnt;rw[List.filter_cons]
 split <;> simp <;> omega
theorem ka {b x:Nm}:∀ (L:List Nat),L.Nodup->(L.map fun c=>if (b++[c]).isPrefixOf x=true then 1 else 0).sum<=(if b.isPrefixOf x=true/\b≠x then 1 else 0)
 | [],_=>Nat.zero_le _
 | c::L,nd=>by
  obtain⟨n1,n2⟩:=List.nodup_cons.mp nd;rw[List.map_cons,List.sum_cons]
  by_cases e:(b++[c]).isPrefixOf x=true
  ·have p:=List.isPrefixOf_iff_prefix.mp e
   have hz:(L.map fun d=>if (b++[d]).isPrefixOf x=true then 1 else 0).sum=0:=by
    have:∀ d∈L,¬ (b++[d]).isPrefixOf x=true:=fun d hd q=>by
     obtain⟨r,hr⟩:=p;obtain⟨r',hr'⟩:=List.isPrefixOf_iff_prefix.mp q;rw[<- hr',List.append_assoc,List.append_assoc] at hr;have:=List.append_cancel_left hr;have:c=d:=by simpa using (List.cons.inj this).1
     exact n1 (this ▸ hd)
    clear n1 n2 nd e p
    induction L with
    | nil=>rfl
    | cons d L ih =>
     rw[List.map_cons,List.sum_cons,if_neg (this d List.mem_cons_self),ih fun y hy=>this y (List.mem_cons_of_mem _ hy)]
   obtain⟨r,hr⟩:=p;have q:b.isPrefixOf x=true/\b≠x:=by
     refine⟨List.isPrefixOf_iff_prefix.mpr ⟨[c]++r,by rw[<- List.append_assoc];exact hr⟩,fun z=>?_⟩;rw[z] at hr;have:=congrArg List.length hr;simp at this
   rw[hz,if_pos e,if_pos q];exact Nat.le_refl _
  ·rw[if_neg e,Nat.zero_add]
   exact ka L n2
theorem sum_add {α:Type} (L:List α) (f g:α->Nat):(L.map fun c=>f c+g c).sum=(L.map f).sum+(L.map g).sum:=by
 induction L with
 | nil=>rfl
 | cons a L ih=>simp only[List.map_cons,List.sum_cons,ih];omega
theorem sy (b:Nm) (L:List Nat) (nd:L.Nodup):∀ (B:List Nm),(L.map fun c=>cnt B (b++[c])).sum<=(B.filter fun x=>decide (b.isPrefixOf x=true/\b≠x)).length
 | []=>by
  have:(L.map fun c=>cnt [] (b++[c])).sum=0:=by
   clear nd
   induction L with
   | nil=>rfl
   | cons d L ih=>rw[List.map_cons,List.sum_cons,ih];rfl
  rw[this];exact Nat.zero_le _
 | x::B=>by
  have ih:=sy b L nd B;have o:=ka (b:=b) (x:=x) L nd;have e:(L.map fun c=>cnt (x::B) (b++[c]))=L.map fun c=>(if (b++[c]).isPrefixOf x=true then 1 else 0)+cnt B (b++[c]):=List.map_congr_left fun c _=>cnt_cons x B (b++[c]);rw[e,sum_add,List.filter_cons]
  split
  ·rename_i h
   rw[if_pos (of_decide_eq_true h)] at o;rw[List.length_cons];omega
  ·rename_i h
   rw[if_neg (fun z=>h (decide_eq_true z))] at o;omega
theorem kA {B:List Nm}{b:Nm} (hb:b∈B) {L:List Nat} (nd:L.Nodup):(L.map fun c=>cnt B (b++[c])).sum+1<=cnt B b:=by
 refine Nat.le_trans (Nat.add_le_add_right (sy b L nd B) 1) ?_;unfold cnt
 induction B with
 | nil=>cases hb
 | cons x B ih =>
  rw[List.filter_cons,List.filter_cons]
  by_cases e:b=x
  ·subst e
   rw[if_neg (by simp),if_pos (by rw[List.isPrefixOf_iff_prefix];exact List.prefix_refl _),List.length_cons];refine Nat.add_le_add_right (List.Sublist.length_le ?_) 1;have:(fun y=>decide (b.isPrefixOf y=true/\b≠y))=fun y=>(b.isPrefixOf y) && decide (b≠y):=by funext y;rw[Bool.decide_and];simp only[Bool.decide_eq_true]
   rw[this,<- List.filter_filter];have e2:(List.filter (fun y=>b.isPrefixOf y) (List.filter (fun y=>decide (b≠y)) B))=List.filter (fun y=>decide (b≠y)) (List.filter (fun y=>b.isPrefixOf y) B):=by
    rw[List.filter_filter,List.filter_filter];congr 1;funext y;exact Bool.and_comm _ _
   rw[e2];exact List.filter_sublist
  ·have ih:=ih ((List.mem_cons.mp hb).resolve_left e)
   by_cases p:b.isPrefixOf x=true
   ·rw[if_pos (by simp[p,e]),if_pos p,List.length_cons,List.length_cons];omega
   ·rw[if_neg (by simp[p]),if_neg p];exact ih
theorem nU {B:List Nm}{b:Nm} (hb:b∈B):1<=cnt B b:=by
 have:=kA hb (L:=[]) List.nodup_nil
 simpa using this
noncomputable def wB (m:Mp):Prop:=∀ n,(ak m n).isSome=true->isNm n=true
noncomputable def Cq (S:LS):Prop:=∀ (i:Nat) m,S.ms[i]?=some m->wB m
theorem uZ:wB []:=fun n h=>by cases h
theorem qP {m:Mp} (h:wB m) (nd:Nd) (st:Nat) {n:Nm}{to:Option Nm} (hn:to.isSome=true->isNm n=true):wB (bU m nd st n to).m:=fun j hj=>by
 rw[jA] at hj
 by_cases e:j=n
 ·rw[if_pos e] at hj;exact e ▸ hn hj
 ·rw[if_neg e] at hj;exact h j hj
theorem sx {mt:Mp} (ht:wB mt):∀ (l:List Nm) (a:LR),wB a.m->wB (l.foldl (aY mt) a).m
 | [],a,h=>h
 | n::l,a,h=>sx ht l (aY mt a n) (qP h _ _ fun z=>ht n z)
theorem ju {S:LS} (h:Cq S) (i:Nat):wB (S.ms.getD i []):=by
 by_cases q:i<S.ms.length
 ·exact h i _ (by simp[List.getD,q])
 ·have:S.ms.getD i []=[]:=by simp[List.getD,q]
  rw[this];exact uZ
theorem jn {S:LS} (h:Cq S) (d:cb):Cq (aC S d).2:=by
 have more:∀ {m:Mp}{nd:Nd}{p:Option Nat}{st md:Nat},wB m->Cq ⟨S.ms++[m],S.ns++[nd],S.par++[p],st,S.made++[md]⟩:=fun {m nd p st md} hm i m' e=>by
  rcases fM e with ⟨_,e⟩|⟨_,rfl⟩
  ·exact h i m' e
  ·exact hm
 unfold aC
 by_cases eb:e_ S d=true
 ·rw[if_pos eb];exact h
 ·rw[if_neg eb]
  by_cases en:fJ d=true
  ·rw[if_pos en];exact h
  ·rw[if_neg en]
   cases d with
   | put v n x=>exact more (qP (ju h _) _ _ fun _=>by unfold fJ ky at en;simpa using en)
   | take v n=>exact more (qP (ju h _) _ _ fun z=>by cases z)
   | join b o t =>
    dsimp only
    split
    ·exact more (sx (ju h _) _ _ (ju h _))
    ·exact h
theorem CF:Cq S0:=fun i m e=>by rw[ip e];exact uZ
end
section
section
noncomputable def pt:Option Addr->V
 | none=>.non
 | some a=>.ref a
theorem Ck:decide (pt none=V.non)=true:=decide_eq_true rfl
theorem Cr (a:Addr):¬ decide (pt (some a)=V.non)=true:=by simp[pt]
noncomputable def lA (y z:V):List (Str×V):=cy "branches" z (cy "value" y [])
theorem C2:¬ (("value":Str)="branches"):=by decide +kernel
theorem eC (y z:V):(lA y z).lookup ("value":Str)=some y:=by
 unfold lA;rw[aD,if_neg C2,aD,if_pos rfl]
theorem cE (y z:V):(lA y z).lookup ("branches":Str)=some z:=by
 unfold lA;rw[aD,if_pos rfl]
structure je (kvs:List (Nm×Addr)) (nx:Nat->Option Addr):Prop where
 to:∀ c,ak kvs [c]=nx c
 ab:∀ p∈kvs,∃ c,p.1=[c]/\97<=c/\c<=122
 nd:(kvs.map (·.1)).Nodup
noncomputable def jM (CN:Addr) (H:Hp) (a:Addr) (v:Option Nm) (nx:Nat->Option Addr):Prop:=∃ (dx d:Addr) (kvs:List (Nm×Addr)),H a=some (.ins CN dx (lA (oV v) (.ref d)))/\H d=some (.dK (aP V.ref kvs))/\je kvs nx
noncomputable def cP (CN:Addr) (H:Hp) (o:Option Addr) (v:Option Nm) (nx:Nat->Option Addr):Prop:=match o with
 | none=>v=none/\∀ c,nx c=none
 | some a=>jM CN H a v nx
theorem jM.kp {CN:Addr}{H H':Hp}{a:Addr}{v:Option Nm}{nx:Nat->Option Addr} (x:jM CN H a v nx) (k:Kp H H' []):jM CN H' a v nx:=by
 obtain⟨dx,d,kvs,h1,h2,h3⟩:=x;exact⟨dx,d,kvs,k _ _ h1 (by simp),k _ _ h2 (by simp),h3⟩
theorem cP.kp {CN:Addr}{H H':Hp}{o:Option Addr}{v:Option Nm}{nx:Nat->Option Addr} (x:cP CN H o v nx) (k:Kp H H' []):cP CN H' o v nx:=by
 cases o with
 | none=>exact x
 | some a=>exact jM.kp x k
theorem qf {kvs:List (Nm×Addr)}{nx:Nat->Option Addr} (b:je kvs nx):kvs.length<=26:=by
 have h:(kvs.map (·.1)).length<=((List.range 26).map fun i=>[i+97]).length:=eY b.nd fun x hx=>by
  obtain⟨p,hp,rfl⟩:=List.mem_map.mp hx;obtain⟨c,e,h1,h2⟩:=b.ab p hp;rw[e,List.mem_map];exact⟨c - 97,List.mem_range.mpr (by omega),by simp;omega⟩
 rw[List.length_map,List.length_map,List.length_range] at h;exact h
structure zq (K:PySem.W.Frag) (CN:Addr):Prop where
 cl:p_ K CN
 nv:bB K CN "value"
 nb:bB K CN "branches"
noncomputable abbrev AV:Stmt:=(inClass (top 2) 0)
theorem ED:az ["self","value","branches"] ["self","value","branches"] (aq AV):=by walk_at "s"
noncomputable def sQ (CN:Addr):Sp:=fun vs H Q _=>∃ (x dx:Addr) (y z:V),vs=[.ref x,y,z]/\H x=some (.ins CN dx [])/\∀ H',H' x=some (.ins CN dx (lA y z))->(∀ b,b≠x->H' b=H b)->Q .non H'
theorem zX {f CN:Addr}{fd:FuncData} (T:zq K CN) (F:cG K "__init__" "Node.__init__" AV f fd):aS P w K mg base aQ 1 f fd ["self","value","branches"] (sQ CN):=by
 have sc:=ED;walk_at "f"
 ·obtain⟨_,_,_,_,rfl,_⟩:=h
  rfl
 ·obtain⟨x,dx,y,z,rfl,hx,k⟩:=h
  refine⟨_,(af (dU (pv 0) (pv 1) rfl)
   (ao (dU (pv 0) (pv 2) rfl))),?_⟩
  walk_at "rd";refine⟨CN,dx,[],hx,T.cl,T.nv,by decide,CN,dx,_,aa,T.cl,T.nb,(by show 1<1000;decide),?_⟩;exact k _ aa fun b hb=>by rw[ah hb,ah hb]
noncomputable abbrev BJ:Stmt:=top 3
theorem C4:az ["node"] ["node"] (aq BJ):=by walk_at "s"
noncomputable def pB (CN:Addr):Sp:=fun vs H Q _=>∃ (o:Option Addr) (v:Option Nm) (nx:Nat->Option Addr),vs=[pt o]/\cP CN H o v nx/\Q (oV v) H
theorem Ay {f CN:Addr}{fd:FuncData} (T:zq K CN) (F:cG K "value_at" "value_at" BJ f fd):aS P w K mg base aQ 1 f fd ["node"] (pB CN):=by
 have sc:=C4;walk_at "f"
 ·obtain⟨_,_,_,rfl,_⟩:=h
  rfl
 ·obtain⟨o,v,nx,rfl,hp,k⟩:=h
  refine⟨_,(ao (aw (fw (da (fh (pv 0))) fP (aX K (pv 0) rfl)))),?_⟩;walk_at "rd"
  cases o with
  | none =>
   obtain⟨rfl,_⟩:=hp;rw[if_pos Ck];exact k
  | some a =>
   obtain⟨dx,d,kvs,h1,h2,h3⟩:=hp;rw[if_neg (Cr _)];exact⟨a,rfl,CN,dx,_,h1,T.cl,T.nv,_,eC _ _,k⟩
noncomputable abbrev Ak:Stmt:=top 4
theorem Ek:az ["node"] ["node"] (aq Ak):=by walk_at "s"
noncomputable def sE (CN:Addr):Sp:=fun vs H Q _=>∃ (o:Option Addr) (v:Option Nm) (nx:Nat->Option Addr),vs=[pt o]/\cP CN H o v nx/\∀ (d:Addr) (kvs:List (Nm×Addr)),H d=none->je kvs nx->Q (.ref d) (upd H d (.dK (aP V.ref kvs)))
theorem Ba {nx:Nat->Option Addr} (h:∀ c,nx c=none):je [] nx:=⟨fun c=>(h c).symm,fun p hp=>absurd hp (by simp),List.nodup_nil⟩
theorem AI {f CN:Addr}{fd:FuncData} (B:Bl mg) (T:zq K CN) (F:cG K "branches_at" "branches_at" Ak f fd):aS P w K mg base aQ 1 f fd ["node"] (sE CN):=by
 have sc:=Ek;walk_at "f"
 ·obtain⟨_,_,_,rfl,_⟩:=h
  rfl
 ·obtain⟨o,v,nx,rfl,hp,k⟩:=h
  refine⟨_,(ao (aw (fw (da (fh (pv 0))) jR (cS eW rfl B.dct boot_dict (ag (aX K (pv 0) rfl) ae))))),?_⟩;walk_at "rd"
  cases o with
  | none =>
   obtain⟨rfl,hn⟩:=hp;rw[if_pos Ck];exact fun d hd=>k d [] hd (Ba hn)
  | some a =>
   obtain⟨dx,d,kvs,h1,h2,h3⟩:=hp;rw[if_neg (Cr _)];exact⟨a,rfl,CN,dx,_,h1,T.cl,T.nb,_,cE _ _,d,rfl,_,.inl h2,fun p hp=>k p kvs hp h3⟩
noncomputable abbrev BO:Stmt:=top 5
theorem Dm:az ["node","letter"] ["node","letter"] (aq BO):=by walk_at "s"
noncomputable def pN (CN:Addr):Sp:=fun vs H Q _=>∃ (o:Option Addr) (v:Option Nm) (nx:Nat->Option Addr) (c:Nat),vs=[pt o,.str (tx [c])]/\cP CN H o v nx/\Q (pt (nx c)) H
theorem Aw (o:Option Addr):((o.map V.ref).getD .non)=pt o:=by cases o <;> rfl
theorem Ce {f CN:Addr}{fd:FuncData} (T:zq K CN) (F:cG K "node_behind" "node_behind" BO f fd):aS P w K mg base aQ 1 f fd ["node","letter"] (pN CN):=by
 have sc:=Dm;walk_at "f"
 ·obtain⟨_,_,_,_,rfl,_⟩:=h
  rfl
 ·obtain⟨o,v,nx,c,rfl,hp,k⟩:=h
  have hu:=dk hr;refine⟨_,(ao (aw (fw (da (fh (pv 0))) fP (bV hu (aX K (pv 0) rfl) (pv 1) ⟨rfl,rfl,rfl,rfl⟩)))),?_⟩;walk_at "rd"
  cases o with
  | none =>
   obtain⟨rfl,hn⟩:=hp;rw[if_pos Ck];rw[hn c] at k;exact k
  | some a =>
   obtain⟨dx,d,kvs,h1,h2,h3⟩:=hp;rw[if_neg (Cr _)];refine⟨a,rfl,CN,dx,_,h1,T.cl,T.nb,_,cE _ _,d,rfl,.inl ⟨_,.inl h2⟩,_,bE.k' (k:=.inr (tx [c])) h2 (bR V.ref [c] kvs),?_⟩;rw[Aw,h3.to];exact k
noncomputable abbrev AB:Stmt:=top 6
theorem CY:az ["node"] ["node"] (aq AB):=by walk_at "s"
noncomputable def vg (CN:Addr):Sp:=fun vs H Q _=>∃ (o:Option Addr) (v:Option Nm) (nx:Nat->Option Addr),vs=[pt o]/\cP CN H o v nx/\∀ (l:List Nat) H',l.Pairwise (·<·)->(∀ c,c∈l↔(nx c).isSome=true)->(∀ c∈l,97<=c/\c<=122)->Kp H H' []->Q (.str (tx l)) H'
theorem join_eq (sep:Str) (l:List Str):Txt.join sep l=Str.join sep l:=StrLaws.glued_eq_join sep l
theorem lO:∀ (l:List Nat),Str.join (Str.ofString "") (l.map fun c=>tx [c])=tx l
 | []=>rfl
 | [c]=>rfl
 | c::d::l=>by
  have ih:=lO (d::l);have e:Str.join (Str.ofString "") ((c::d::l).map fun c=>tx [c])=tx [c]++Str.ofString ""++Str.join (Str.ofString "") ((d::l).map fun c=>tx [c]):=rfl;rw[e,ih,gx (tx [c]++Str.ofString ""++tx (d::l))];congr 1;have e0:(Str.ofString "").cps=#[]:=by decide +kernel
  rw[ef,ef,e0];simp
theorem join_one (l:List Nat):Txt.join (Str.ofString "") (l.map fun c=>tx [c])=tx l:=(join_eq _ _).trans (lO l)
theorem wO (l:List Nat):((l.map fun c=>tx [c]).map (·.length)).sum=l.length:=by
 induction l with
 | nil=>rfl
 | cons c l ih =>
  rw[List.map_cons,List.map_cons,List.sum_cons,ih,List.length_cons];have:(tx [c]).length=1:=rfl;omega
theorem mS {kvs:List (Nm×Addr)}{nx:Nat->Option Addr} (b:je kvs nx):∃ ds:List Nat,ds.Nodup/\kvs.map (·.1)=(ds.map fun d=>[d])/\ds.length=kvs.length/\(∀ c,c∈ds↔(nx c).isSome=true)/\∀ c∈ds,97<=c/\c<=122:=by
 have e:kvs.map (·.1)=((kvs.map fun p=>p.1.headD 0).map fun d=>[d]):=by
  rw[List.map_map];refine List.map_congr_left fun p hp=>?_;obtain⟨c,e,_⟩:=b.ab p hp;simp[e]
 refine⟨kvs.map fun p=>p.1.headD 0,?_,e,List.length_map _,fun c=>?_,fun c hc=>?_⟩
 ·have:=b.nd
  rw[e,List.nodup_iff_pairwise_ne,List.pairwise_map] at this;rw[List.nodup_iff_pairwise_ne];exact this.imp fun {a b} h z=>h (by rw[z])
 ·rw[<- b.to c,<- mem_keys kvs [c],e]
  constructor
  ·intro h;exact List.mem_map.mpr ⟨c,h,rfl⟩
  ·intro h
   obtain⟨d,hd,z⟩:=List.mem_map.mp h;have:d=c:=by simpa using z
   exact this ▸ hd
 ·obtain⟨p,hp,rfl⟩:=List.mem_map.mp hc
  obtain⟨c,e,h⟩:=b.ab p hp;rw[e];exact h
theorem Cd {f CN:Addr}{fd:FuncData} (B:Bl mg) (T:zq K CN) (F:cG K "letters_on" "letters_on" AB f fd):aS P w K mg base aQ 1 f fd ["node"] (vg CN):=by
 have sc:=CY;walk_at "f"
 ·obtain⟨_,_,_,rfl,_⟩:=h
  rfl
 ·obtain⟨o,v,nx,rfl,hp,k⟩:=h
  refine⟨_,(ao (aw (fw (da (fh (pv 0))) ar (dF K PySem.F.plainAttrs_str PySem.F.slot_str_join PySem.F.type_str_join (uF K) ar (ag (br (iL rfl) rfl B.srt boot_sorted (ag (aX K (pv 0) rfl) ae)) ae))))),?_⟩;walk_at "rd"
  cases o with
  | none =>
   obtain⟨rfl,hn⟩:=hp;rw[if_pos Ck];exact k [] H .nil (fun c=>by simp[hn c]) (fun c hc=>absurd hc (by simp)) (Kp.refl _ _)
  | some a =>
   obtain⟨dx,d,kvs,h1,h2,h3⟩:=hp;rw[if_neg (Cr _)];obtain⟨ds,nd,e,hl,hm,hab⟩:=mS h3;have hlen:=qf h3;refine⟨rfl,a,rfl,CN,dx,_,h1,T.cl,T.nb,_,cE _ _,d,rfl,_,h2,ds.map (fun c=>tx [c]),?_,by rw[List.length_map];omega,fun p ss hp pm srt=>?_⟩
   ·have:(aP V.ref kvs).map (fun kv=>kV kv.1)=(kvs.map (·.1)).map sV:=by
     unfold aP;rw[List.map_map,List.map_map]
     rfl
    rw[this,e,List.map_map,List.map_map]
    rfl
   ·obtain⟨l,rfl,sl,pl⟩:=gJ nd pm srt
    have hll:l.length=ds.length:=pl.length_eq;refine⟨_,aO.of aa,?_,?_⟩
    ·rw[wO,List.length_map]
     have:(Str.ofString "").length=0:=by decide +kernel
     rw[this];omega
    ·rw[join_one]
     exact k l _ sl (fun c=>(pl.mem_iff).trans (hm c)) (fun c hc=>hab c (pl.mem_iff.mp hc)) ((Kp.refl H []).new hp)
noncomputable abbrev BR:Stmt:=top 7
theorem DR:az ["value","branches"] ["value","branches"] (aq BR):=by walk_at "s"
noncomputable def Made (CN:Addr) (H:Hp) (v:Option Nm) (nx:Nat->Option Addr) (Q:VK):Prop:=∀ (o:Option Addr) H',cP CN H' o v nx->(o.isSome=true↔v.isSome=true\/∃ c,(nx c).isSome=true)->(∀ a,o=some a->H a=none)->Kp H H' []->Q (pt o) H'
noncomputable def rH (CN:Addr):Sp:=fun vs H Q _=>∃ (v:Option Nm) (d:Addr) (kvs:List (Nm×Addr)) (nx:Nat->Option Addr),vs=[oV v,.ref d]/\H d=some (.dK (aP V.ref kvs))/\je kvs nx/\Made CN H v nx Q
theorem sJ {kvs:List (Nm×Addr)}{nx:Nat->Option Addr} (b:je kvs nx):kvs=[]↔∀ c,nx c=none:=by
 obtain⟨ds,_,_,hl,hm,_⟩:=mS b;constructor
 ·intro e c
  rw[e] at hl;have:ds=[]:=List.length_eq_zero_iff.mp hl;subst this
  cases h:nx c with
  | none=>rfl
  | some a=>exact absurd ((hm c).mpr (by rw[h];rfl)) (by simp)
 ·intro h
  cases ds with
  | nil=>exact List.length_eq_zero_iff.mp hl.symm
  | cons c r =>
   have:=(hm c).mp List.mem_cons_self;rw[h c] at this
   cases this
theorem Bp {f CN:Addr}{fd:FuncData} (B:Bl mg) (n_Node:gg P w K mg base 1 "Node" CN ["self","value","branches"] (sQ CN)) (F:cG K "node_if_needed" "node_if_needed" BR f fd):aS P w K mg base aQ 3 f fd ["value","branches"] (rH CN):=by
 have sc:=DR;walk_at "f"
 ·obtain⟨_,_,_,_,rfl,_⟩:=h
  rfl
 ·obtain⟨v,d,kvs,nx,rfl,hd,hb,k⟩:=h
  refine⟨_,(af (a_ (PW.pt (jN (da (fh (pv 0))) (jt (aF dj (br tm rfl B.len boot_len (ag (pv 1) ae)) aj (aK _))))) (ao (aw fP)) aJ)
   (ao (aw (oh n_Node hr (ag (pv 0) (ag (pv 1) ae)))))),?_⟩
  walk_at "rd";have mk:(v.isSome=true\/∃ c,(nx c).isSome=true)->∀ (x dx:Addr),H x=none->H dx=none->dx≠x->sQ CN [V.ref x,oV v,V.ref d] (upd (upd H dx (HO.own x)) x (HO.ins CN dx [])) (fun v H2=>v=V.non/\Q (V.ref x) H2) E0:=by
   intro hs x dx nx1 nx2 ne;refine⟨x,dx,oV v,.ref d,rfl,aa,fun H' hx oth=>⟨rfl,?_⟩⟩;have kp:Kp H H' []:=fun b o e _=>by
    rw[oth b (ai e nx1),ah (ai e nx1),ah (ai e nx2)];exact e
   exact k (some x) H' ⟨dx,d,kvs,hx,kp d _ hd (by simp),hb⟩ ⟨fun _=>hs,fun _=>rfl⟩ (fun a e=>by cases e;exact nx1) kp
  cases v with
  | some y =>
   rw[if_neg (by simp[oV,sV])];exact mk (.inl rfl)
  | none =>
   rw[if_pos (decide_eq_true (show oV none=V.non from rfl))];refine⟨_,hd,rfl,?_⟩;rw[jI]
   by_cases e:kvs=[]
   ·rw[if_pos (by rw[e];rfl)]
    have hn:=(sJ hb).mp e;exact k none H ⟨rfl,hn⟩ ⟨fun z=>absurd z (by simp),fun z=>z.elim (fun z=>absurd z (by simp)) fun ⟨c,z⟩=>absurd z (by rw[hn c];simp)⟩ (fun a e=>by cases e) (Kp.refl _ _)
   ·rw[if_neg (by
     have:kvs.length≠0:=fun z=>e (List.length_eq_zero_iff.mp z);simp;exact e)]
    refine mk (.inr ?_)
    by_cases q:∃ c,(nx c).isSome=true
    ·exact q
    ·exact absurd ((sJ hb).mpr fun c=>by
      cases z:nx c with
      | none=>rfl
      | some a=>exact absurd ⟨c,by rw[z];rfl⟩ q) e
noncomputable abbrev Fo:Stmt:=top 8
theorem Gf:az ["node","value"] ["node","value"] (aq Fo):=by walk_at "s"
noncomputable def Av (CN:Addr):Sp:=fun vs H Q _=>∃ (o:Option Addr) (v to:Option Nm) (nx:Nat->Option Addr),vs=[pt o,oV to]/\cP CN H o v nx/\Made CN H to nx Q
theorem Made.after {CN:Addr}{H H1:Hp}{v:Option Nm}{nx:Nat->Option Addr}{Q:VK} (h:Made CN H v nx Q) (k:Kp H H1 []):Made CN H1 v nx Q:=fun o H' a b c d=>h o H' a b (fun x e=>k.free (c x e) (by simp)) (k.trans d)
theorem C0 {f CN:Addr}{fd:FuncData} (cnode_if_needed:bM P w K mg base aQ 3 "node_if_needed" ["value","branches"] (rH CN)) (cbranches_at:bM P w K mg base aQ 3 "branches_at" ["node"] (sE CN)) (F:cG K "with_value" "with_value" Fo f fd):aS P w K mg base aQ 4 f fd ["node","value"] (Av CN):=by
 have sc:=Gf;walk_at "f"
 ·obtain⟨_,_,_,_,rfl,_⟩:=h
  rfl
 ·obtain⟨o,v,to,nx,rfl,hp,k⟩:=h
  refine⟨_,(ao (aw (bh cnode_if_needed hr (ag (pv 1) (ag (bh cbranches_at hr (ag (pv 0) ae)) ae))))),?_⟩;walk_at "rd";refine⟨o,v,nx,rfl,hp,fun d kvs hd hb=>?_⟩;exact⟨to,d,kvs,nx,rfl,aa,hb,k.after ((Kp.refl H []).new hd)⟩
noncomputable abbrev FX:Stmt:=top 9
theorem FR:az ["node","letter","behind","branches"] ["node","letter","behind"] (aq FX):=by walk_at "s"
noncomputable def BQ (CN:Addr):Sp:=fun vs H Q _=>∃ (o ob:Option Addr) (v:Option Nm) (nx:Nat->Option Addr) (c:Nat),vs=[pt o,.str (tx [c]),pt ob]/\97<=c/\c<=122/\cP CN H o v nx/\Made CN H v (fun c'=>if c'=c then ob else nx c') Q
theorem vj {β:Type}{m:List (Nm×β)} (h:(m.map (·.1)).Nodup) (n:Nm) (v:β):((ed m n v).map (·.1)).Nodup:=by
 unfold ed
 split
 ·have:(m.map fun p=>if p.1=n then (p.1,v) else p).map (·.1)=m.map (·.1):=by
   rw[List.map_map];refine List.map_congr_left fun p _=>?_;simp only[Function.comp]
   split <;> rfl
  rw[this];exact h
 ·rename_i q
  rw[List.map_append];refine nO h fun z=>q ?_;obtain⟨p,hp,e⟩:=List.mem_map.mp z;exact List.any_eq_true.mpr ⟨p,hp,decide_eq_true e⟩
theorem BH {kvs:List (Nm×Addr)}{nx:Nat->Option Addr} (b:je kvs nx) {c:Nat} (hc:97<=c/\c<=122) (a:Addr):je (ed kvs [c] a) (fun c'=>if c'=c then some a else nx c'):=by
 refine⟨fun c'=>?_,fun p hp=>?_,?_⟩
 ·rw[iw,b.to]
  by_cases e:c'=c
  ·rw[if_pos e,if_pos (by rw[e])]
  ·rw[if_neg e,if_neg (by simp[e])]
 ·unfold ed at hp
  split at hp
  ·obtain⟨q,hq,rfl⟩:=List.mem_map.mp hp
   split
   ·exact b.ab q hq
   ·exact b.ab q hq
  ·rcases List.mem_append.mp hp with z|z
   ·exact b.ab p z
   ·rw[List.mem_singleton.mp z];exact⟨c,rfl,hc⟩
 ·exact vj b.nd [c] a
theorem xQ {kvs:List (Nm×Addr)}{nx:Nat->Option Addr} (b:je kvs nx) (c:Nat):je (cZ kvs [c]) (fun c'=>if c'=c then none else nx c'):=by
 refine⟨fun c'=>?_,fun p hp=>b.ab p (List.mem_filter.mp hp).1,?_⟩
 ·rw[gf,b.to]
  by_cases e:c'=c
  ·rw[if_pos e,if_pos (by rw[e])]
  ·rw[if_neg e,if_neg (by simp[e])]
 ·exact b.nd.sublist (List.Sublist.map _ List.filter_sublist)
theorem DK {f CN:Addr}{fd:FuncData} (cnode_if_needed:bM P w K mg base aQ 3 "node_if_needed" ["value","branches"] (rH CN)) (cbranches_at:bM P w K mg base aQ 3 "branches_at" ["node"] (sE CN)) (cvalue_at:bM P w K mg base aQ 3 "value_at" ["node"] (pB CN))
  (F:cG K "with_branch" "with_branch" FX f fd):aS P w K mg base aQ 4 f fd ["node","letter","behind"] (BQ CN):=by
 have sc:=FR;walk_at "f"
 ·obtain⟨_,_,_,_,_,rfl,_⟩:=h
  rfl
 ·obtain⟨o,ob,v,nx,c,rfl,c1,c2,hp,k⟩:=h
  have hu:=dk hr;have hs:=sizeLine_eq;refine⟨_,(af (au (i:=3) sc.nd rfl (by walk_at "o") (bh cbranches_at hr (ag (pv 0) ae)))
   (af (eE (a_ (da (fh (pv 2))) (ao (ba (vF (pv 3) (pv 1) fP ⟨rfl,rfl,rfl,rfl⟩))) (ao (jv hu (pv 3) (pv 1) (pv 2) rfl))))
   (ao (aw (bh cnode_if_needed hr (ag (bh cvalue_at hr (ag (pv 0) ae)) (ag (pv 3) ae))))))),?_⟩
  walk_at "rd";refine⟨o,v,nx,rfl,hp,fun d kvs hd hb=>?_⟩;have hlen:=qf hb;have k0:Kp H (upd H d (.dK (aP V.ref kvs))) []:=(Kp.refl H []).new hd;have k1:∀ o',Kp H (upd (upd H d (.dK (aP V.ref kvs))) d o') []:=fun o'=>k0.new hd;refine⟨fun σ' H'=>σ'=[some (pt o),some (V.str (tx [c])),some (pt ob),some (.ref d)]/\∃ kvs',H' d=some (.dK (aP V.ref kvs'))/\je kvs' (fun c'=>if c'=c then ob else nx c')/\Kp H H' [],?_,?_⟩
  ·cases ob with
   | none =>
    rw[if_pos Ck];refine⟨d,rfl,.inl ⟨_,.inl aa⟩,_,aa,.inr (tx [c]),rfl,fun v hv=>⟨rfl,cZ kvs [c],?_,xQ hb c,k1 _⟩,fun hv=>⟨rfl,kvs,aa,?_,k0⟩⟩
    ·rw[aa,jh]
    ·rw[bR] at hv
     have hn:nx c=none:=by
      rw[<- hb.to c]
      cases e:ak kvs [c] with
      | none=>rfl
      | some a=>rw[e] at hv;cases hv
     have e:(fun c'=>if c'=c then none else nx c')=nx:=by
      funext c'
      by_cases q:c'=c
      ·rw[if_pos q,q,hn]
      ·rw[if_neg q]
     rw[e];exact hb
   | some a =>
    rw[if_neg (Cr _)];refine⟨d,rfl,_,kK.k (k:=.inr (tx [c])) aa (by rw[jI];omega),rfl,ed kvs [c] a,?_,BH hb ⟨c1,c2⟩ a,k1 _⟩;rw[aa];exact congrArg (fun l=>some (HO.dK l)) (nj V.ref [c] a kvs)
  ·rintro σ' H' ⟨rfl,kvs',h1,h2,h3⟩
   walk_at "rd";exact⟨o,v,nx,rfl,hp.kp h3,v,d,kvs',_,rfl,h1,h2,k.after h3⟩
end
end
section
section
noncomputable abbrev ER:Stmt:=top 21
theorem Gu:az ["text"] ["text"] (aq ER):=by walk_at "s"
theorem B4:(["sign"]:List Str).Nodup:=by decide +kernel
theorem yi {α β:Type} (f:α->β) (l:List α):(l.filterMap fun c=>some (f c))=l.map f:=by
 induction l with
 | nil=>rfl
 | cons a l ih=>rw[List.filterMap_cons,List.map_cons,ih]
noncomputable def BC:Sp:=fun vs H Q _=>∃ l:List Nat,vs=[.str (tx l)]/\l.length<=1000/\∀ H',Kp H H' []->Q (.bl (isNm l)) H'
theorem CA {f:Addr}{fd:FuncData} (B:Bl mg) (F:cG K "is_name" "is_name" ER f fd):aS P w K mg base aQ 1 f fd ["text"] BC:=by
 have sc:=Gu;have mP:=B4;walk_at "f"
 ·obtain⟨x,rfl,_⟩:=h
  rfl
 ·obtain⟨l,rfl,hx,k⟩:=h
  have hu0:=hr.cu;have hs:=sizeLine_eq;refine⟨_,(ao (aw (br (tF K rfl) rfl B.all boot_all (ag (cx (N':=["sign"]) (ix:=[none]) rfl ?S1 (qO (pv 0)) (fun cl C fp s H=>(aM (i:=0) mP rfl (by walk_at "o"))) (fun cl C fp s H=>di) (fun cl C fp s H=>(wg mh mh ar (pv 0) ar))) ae)))),?_⟩
  case S1=>exact kG.is (N:=["text"]) (osc:=aq ER) (by decide +kernel)
  walk_at "rd";refine lM (fun c=>some (.bl (decide (97<=c/\c<=122)))) (by omega) (fun c hc R R' h1 h2=>?_) ?_
  ·refine⟨Wk.set rfl,?_⟩
   walk_at "rd";refine⟨⟨#[c]⟩,rfl,?_⟩;have ea:(Str.ofString "a").cps.toList=[97]:=by decide +kernel
   have ez:(Str.ofString "z").cps.toList=[122]:=by decide +kernel
   have l1:(([c]:List Nat)<[97])↔c<97:=by rw[List.cons_lt_cons_iff];simp
   have l2:(([122]:List Nat)<[c])↔122<c:=by rw[List.cons_lt_cons_iff];simp
   rw[ea]
   by_cases q:97<=c
   ·rw[if_pos (by simp[l1];omega)]
    refine⟨⟨#[c]⟩,rfl,?_⟩;rw[ez];have:(!decide (([122]:List Nat)<[c]))=decide (97<=c/\c<=122):=by
     rw[Bool.eq_iff_iff];simp[l2,q]
    show R (V.bl !decide (([122]:List Nat)<[c])) H;rw[this];exact h1 _ rfl
   ·rw[if_neg (by simp[l1];omega)]
    have:decide (97<=c/\c<=122)=false:=decide_eq_false (fun z=>q z.1);exact h1 _ (by rw[this])
  ·intro d hd
   refine⟨l.map fun c=>decide (97<=c/\c<=122),aO.of (by rw[aa];congr 2;rw[List.map_map];exact yi _ l),?_⟩;have e:(l.map fun c=>decide (97<=c/\c<=122)).all id=isNm l:=by
    rw[List.all_map]
    rfl
   rw[e];exact k _ ((Kp.refl H []).new hd)
noncomputable def Tree (CN:Addr) (H:Hp) (m:Mp) (g:Nm->Option Addr):Prop:=∀ b,cP CN H (g b) (ak m b) (fun c=>g (b++[c]))/\((g b).isSome=true↔n_ m b)
theorem Tree.kp {CN:Addr}{H H':Hp}{m:Mp}{g:Nm->Option Addr} (T:Tree CN H m g) (k:Kp H H' []):Tree CN H' m g:=fun b=>⟨(T b).1.kp k,(T b).2⟩
noncomputable abbrev Fw:Stmt:=top 23
theorem Fz:az ["root","name","along","letter"] ["root","name"] (aq Fw):=by walk_at "s"
noncomputable def B7 (CN:Addr):Sp:=fun vs H Q _=>∃ (m:Mp) (g:Nm->Option Addr) (n:Nm),vs=[pt (g []),sV n]/\Tree CN H m g/\n.length<=1000/\∀ (p:Addr) H',H p=none->H' p=some (.lst ((bD n).map fun b=>pt (g b)))->Kp H H' []->Q (.ref p) H'
structure GO (CN:Addr) (H:Hp) (m:Mp) (g:Nm->Option Addr) (n:Nm) (p:Addr) (i:Nat) (σ:L2.St) (H2:Hp):Prop where
 ls:∃ o,σ=[some (pt (g [])),some (sV n),some (.ref p),o]
 at_:H2 p=some (.lst ((List.range (i+1)).map fun k=>pt (g (n.take k))))
 kp:Kp H H2 []
theorem Di {f CN:Addr}{fd:FuncData} (cnode_behind:bM P w K mg base aQ 2 "node_behind" ["node","letter"] (pN CN)) (F:cG K "nodes_along" "nodes_along" Fw f fd):aS P w K mg base aQ 3 f fd ["root","name"] (B7 CN):=by
 have sc:=Fz;walk_at "f"
 ·obtain⟨_,_,_,rfl,_⟩:=h
  rfl
 ·obtain⟨m,g,n,rfl,T,hn,k⟩:=h
  have hs:=sizeLine_eq;refine⟨_,(af (au (i:=2) sc.nd rfl (by walk_at "o") (aT (ag (pv 0) ae)))
   (af (dt PassesOwn.never rfl (qO (pv 1)) (aM (i:=3) sc.nd rfl (by walk_at "o")) (ao (ba (dF K PySem.F.plainAttrs_list PySem.F.slot_list_append PySem.F.type_list_append bf (pv 2) (ag (bh cnode_behind hr (ag (aG (aI K) (pv 2) (dr cF aj) (fun _ _=>rfl)) (ag (pv 3) ae))) ae)))))
   (ao (aw (pv 2))))),?_⟩
  walk_at "rd";refine⟨by omega,fun p hp=>?_⟩;refine⟨tx n,rfl,xa (l:=n) (GO CN H m g n p) ⟨⟨none,rfl⟩,aa,(Kp.refl H []).new hp⟩ (fun i c σ H2 hi iv=>?_) (fun σ H2 iv=>?_)⟩
  ·obtain⟨⟨o,rfl⟩,ha,kp⟩:=iv
   have hin:i<n.length:=(List.getElem?_eq_some_iff.mp hi).1;walk_at "rd";have e1:((List.range (i+1)).map fun k=>pt (g (n.take k)))=((List.range i).map fun k=>pt (g (n.take k)))++[pt (g (n.take i))]:=by rw[List.range_succ,List.map_append];rfl
   have e2:n.take (i+1)=n.take i++[c]:=by rw[List.take_add_one,hi];rfl
   refine⟨.inl ⟨rfl,_,aO.of ha⟩,_,aO.of ha,pt (g (n.take i)),by rw[e1];exact cX _ _,g (n.take i),_,_,c,rfl,(T (n.take i)).1.kp kp,_,ha,by rw[List.length_map,List.length_range];omega,⟨_,rfl⟩,?_,fun b o hb _=>?_⟩
   ·rw[aa,List.range_succ (n:=i+1),List.map_append,<- e2]
    rfl
   ·rw[ah (ai hb hp)]
    exact kp b o hb (by simp)
  ·obtain⟨⟨o,rfl⟩,ha,kp⟩:=iv
   walk_at "rd";exact k p H2 hp (by rw[ha];unfold bD;rw[List.map_map];rfl) kp
noncomputable def G (n:Nm) (g u:Nm->Option Addr):Nm->Option Addr:=fun b=>if b.isPrefixOf n=true then u b else g b
theorem jG {n b:Nm}{g u:Nm->Option Addr} (h:b <+: n):G n g u b=u b:=if_pos (List.isPrefixOf_iff_prefix.mpr h)
theorem kB {n b:Nm}{g u:Nm->Option Addr} (h:¬ b <+: n):G n g u b=g b:=if_neg fun z=>h (List.isPrefixOf_iff_prefix.mp z)
structure FA (n:Nm) (H:Hp) (g g':Nm->Option Addr):Prop where
 old:∀ b,¬ b <+: n->g' b=g b
 new:∀ b a,b <+: n->g' b=some a->H a=none
 inj:∀ b b' a,b <+: n->b' <+: n->g' b=some a->g' b'=some a->b=b'
structure yZ (CN:Addr) (H:Hp) (m:Mp) (g:Nm->Option Addr) (n:Nm) (to:Option Nm) (q:Nat) (u:Nm->Option Addr) (H2:Hp):Prop where
 ok:∀ b,b <+: n->q<=b.length->cP CN H2 (G n g u b) (ak (bA m n to) b) (fun c=>G n g u (b++[c]))/\((G n g u b).isSome=true↔n_ (bA m n to) b)
 new:∀ b a,b <+: n->q<=b.length->u b=some a->H a=none/\(H2 a).isSome=true
 inj:∀ b b' a,b <+: n->b' <+: n->q<=b.length->q<=b'.length->u b=some a->u b'=some a->b=b'
 kp:Kp H H2 []
theorem pre_take {n b:Nm} (h:b <+: n):b=n.take b.length:=List.prefix_iff_eq_take.mp h
theorem o_ {CN:Addr}{H:Hp}{a:Addr}{v:Option Nm}{nx:Nat->Option Addr} (h:cP CN H (some a) v nx):(H a).isSome=true:=by
 obtain⟨_,_,_,h,_⟩:=h;rw[h];rfl
theorem wY {CN:Addr}{H H':Hp}{m:Mp}{g:Nm->Option Addr}{n:Nm}{to:Option Nm} (T:Tree CN H m g) {o:Option Addr} (h1:cP CN H' o to fun c=>g (n++[c])) (h2:o.isSome=true↔to.isSome=true\/∃ c,(g (n++[c])).isSome=true) (h3:∀ a,o=some a->H a=none) (kp:Kp H H' []) :
  yZ CN H m g n to n.length (fun _=>o) H':=by
 have whole:∀ b,b <+: n->n.length<=b.length->b=n:=fun b hb hl=>hb.eq_of_length_le hl;have far:∀ c,¬ n++[c] <+: n:=fun c z=>by have:=z.length_le;rw[List.length_append] at this;simp only[List.length_singleton] at this;omega
 have e:(fun c=>G n g (fun _=>o) (n++[c]))=fun c=>g (n++[c]):=funext fun c=>kB (far c);refine⟨fun b hb hl=>?_,fun b a hb hl e=>⟨h3 a e,?_⟩,fun b b' a hb hb' hl hl' _ _=>(whole b hb hl).trans (whole b' hb' hl').symm,kp⟩
 ·obtain rfl:=whole b hb hl
  rw[jG (List.prefix_refl _),b_,if_pos rfl,e];refine⟨h1,h2.trans ?_⟩;rw[oB,b_,if_pos rfl];refine or_congr Iff.rfl (exists_congr fun c=>?_);rw[mD (far c)];exact (T _).2
 ·have e:o=some a:=e
  rw[e] at h1;exact o_ h1
theorem yx {CN:Addr}{H H2 H3:Hp}{m:Mp}{g u:Nm->Option Addr}{n:Nm}{to:Option Nm}{q:Nat}{c:Nat} (T:Tree CN H m g) (hc:n[q]?=some c) (R:yZ CN H m g n to (q+1) u H2) {o:Option Addr}
  (h1:cP CN H3 o (ak m (n.take q)) fun c'=>if c'=c then u (n.take (q+1)) else g (n.take q++[c'])) (h2:o.isSome=true↔(ak m (n.take q)).isSome=true\/∃ c',(if c'=c then u (n.take (q+1)) else g (n.take q++[c'])).isSome=true)
  (h3:∀ a,o=some a->H2 a=none) (kp:Kp H2 H3 []):yZ CN H m g n to q (fun b=>if b=n.take q then o else u b) H3:=by
 have hq:q<n.length:=(List.getElem?_eq_some_iff.mp hc).1;have tl:(n.take q).length=q:=by rw[List.length_take];omega
 have e1:n.take (q+1)=n.take q++[c]:=by rw[List.take_add_one,hc];rfl
 have pq:n.take q <+: n:=List.take_prefix _ _;have long:∀ b:Nm,q+1<=b.length->¬ b=n.take q:=fun b h e=>by rw[e,tl] at h;omega
 have letter:∀ c',n.take q++[c'] <+: n↔c'=c:=fun c'=>by
  constructor
  ·intro z
   have:=pre_take z;rw[List.length_append,tl] at this;have this:n.take q++[c']=n.take q++[c]:=this.trans e1
   simpa using this
  ·rintro rfl;rw[<- e1];exact List.take_prefix _ _
 have Gl:∀ b,b <+: n->q+1<=b.length->G n g (fun b=>if b=n.take q then o else u b) b=G n g u b:=fun b hb hl=>by
  rw[jG hb,jG hb,if_neg (long b hl)]
 have Gx:∀ b c',b <+: n->q<=b.length->G n g (fun b=>if b=n.take q then o else u b) (b++[c'])=G n g u (b++[c']):=fun b c' hb hl=>by
  by_cases z:b++[c'] <+: n
  ·exact Gl _ z (by rw[List.length_append];show q+1<=b.length+1;omega)
  ·rw[kB z,kB z]
 have ex:(fun c'=>if c'=c then u (n.take (q+1)) else g (n.take q++[c']))=fun c'=>G n g (fun b=>if b=n.take q then o else u b) (n.take q++[c']):=funext fun c'=>by
  rw[Gx _ c' pq (by omega)]
  by_cases z:c'=c
  ·rw[if_pos z,jG ((letter c').mpr z),z,e1]
  ·rw[if_neg z,kB fun y=>z ((letter c').mp y)]
 have nn:¬ n.take q=n:=fun z=>by have:=congrArg List.length z;omega
 refine⟨fun b hb hl=>?_,fun b a hb hl e=>?_,fun b b' a hb hb' hl hl' e e'=>?_,R.kp.trans kp⟩
 ·by_cases z:b=n.take q
  ·subst z
   rw[jG pq,if_pos rfl,b_,if_neg nn,<- ex];refine⟨h1,h2.trans ?_⟩;rw[oB,b_,if_neg nn];refine or_congr Iff.rfl (exists_congr fun c'=>?_)
   by_cases y:c'=c
   ·rw[if_pos y,y,<- e1]
    have pre:n.take (q+1) <+: n:=List.take_prefix _ _;have:=(R.ok (n.take (q+1)) pre (by rw[List.length_take];omega)).2
    rwa [jG pre] at this
   ·rw[if_neg y,mD fun x=>y ((letter c').mp x)]
    exact (T _).2
  ·have hl':q+1<=b.length:=by
    rcases Nat.lt_or_ge q b.length with y|y
    ·exact y
    ·have:b.length=q:=by omega
     exact absurd (by rw[pre_take hb,this]) z
   obtain⟨r1,r2⟩:=R.ok b hb hl';rw[Gl b hb hl'];have e:(fun c'=>G n g (fun b=>if b=n.take q then o else u b) (b++[c']))=fun c'=>G n g u (b++[c']):=funext fun c'=>Gx b c' hb hl;rw[e];exact⟨r1.kp kp,r2⟩
 ·by_cases z:b=n.take q
  ·have e:o=some a:=by rw[<- e];exact (if_pos z).symm
   refine⟨R.kp.free (h3 a e) (by simp),?_⟩;rw[e] at h1;exact o_ h1
  ·have hl':q+1<=b.length:=by
    rcases Nat.lt_or_ge q b.length with y|y
    ·exact y
    ·have:b.length=q:=by omega
     exact absurd (by rw[pre_take hb,this]) z
   have e:u b=some a:=by rw[<- e];exact (if_neg z).symm
   obtain⟨r1,r2⟩:=R.new b a hb hl' e;obtain⟨o',ho'⟩:=Option.isSome_iff_exists.mp r2;exact⟨r1,by rw[kp a o' ho' (by simp)];rfl⟩
 ·have up:∀ b,b <+: n->q<=b.length->¬ b=n.take q->q+1<=b.length:=fun b hb hl z=>by
   rcases Nat.lt_or_ge q b.length with y|y
   ·exact y
   ·have:b.length=q:=by omega
    exact absurd (by rw[pre_take hb,this]) z
  have clash:∀ b a,b <+: n->q+1<=b.length->u b=some a->o=some a->False:=fun b a hb hl e e'=>by
   have:=(R.new b a hb hl e).2;rw[h3 a e'] at this
   cases this
  by_cases z:b=n.take q
  ·by_cases z':b'=n.take q
   ·rw[z,z']
   ·have e:o=some a:=by rw[<- e];exact (if_pos z).symm
    have e':u b'=some a:=by rw[<- e'];exact (if_neg z').symm
    exact (clash b' a hb' (up b' hb' hl' z') e' e).elim
  ·have e:u b=some a:=by rw[<- e];exact (if_neg z).symm
   by_cases z':b'=n.take q
   ·have e':o=some a:=by rw[<- e'];exact (if_pos z').symm
    exact (clash b a hb (up b hb hl z) e e').elim
   ·have e':u b'=some a:=by rw[<- e'];exact (if_neg z').symm
    exact R.inj b b' a hb hb' (up b hb hl z) (up b' hb' hl' z') e e'
theorem B6 {CN:Addr}{H H2:Hp}{m:Mp}{g u:Nm->Option Addr}{n:Nm}{to:Option Nm} (T:Tree CN H m g) (R:yZ CN H m g n to 0 u H2):Tree CN H2 (bA m n to) (G n g u)/\FA n H g (G n g u):=by
 refine⟨fun b=>?_,fun b hb=>kB hb,fun b a hb e=>?_,fun b b' a hb hb' e e'=>?_⟩
 ·by_cases hb:b <+: n
  ·exact R.ok b hb (Nat.zero_le _)
  ·have far:∀ c,¬ b++[c] <+: n:=fun c z=>hb ((List.prefix_append b [c]).trans z)
   have e:(fun c=>G n g u (b++[c]))=fun c=>g (b++[c]):=funext fun c=>kB (far c);rw[kB hb,e,b_,if_neg (fun z:b=n=>hb (z ▸ List.prefix_refl _)),mD hb];exact⟨(T b).1.kp R.kp,(T b).2⟩
 ·rw[jG hb] at e
  exact (R.new b a hb (Nat.zero_le _) e).1
 ·rw[jG hb] at e
  rw[jG hb'] at e';exact R.inj b b' a hb hb' (Nat.zero_le _) (Nat.zero_le _) e e'
noncomputable abbrev yL:Stmt:=top 25
noncomputable abbrev CW:List Str:=["along","name","value","made","place"]
theorem Dw:az CW ["along","name","value"] (aq yL):=by walk_at "s"
theorem xI:(["node"]:List Str).Nodup:=by decide +kernel
noncomputable def uC (CN:Addr):Sp:=fun vs H Q _=>∃ (al:Addr) (m:Mp) (g:Nm->Option Addr) (n:Nm) (to:Option Nm),vs=[.ref al,sV n,oV to]/\H al=some (.lst ((bD n).map fun b=>pt (g b)))/\Tree CN H m g/\isNm n=true/\n.length<=1000 /\
 ∀ (p:Addr) (g':Nm->Option Addr) H',H' p=some (.tup [pt (g' []),nV ((bD n).filter fun b=>nF (bA m n to) b).length])->Tree CN H' (bA m n to) g'->FA n H g g'->Kp H H' []->Q (.ref p) H'
noncomputable def cM (n:Nm) (u:Nm->Option Addr) (i:Nat):List V:=(List.range (i+1)).map fun j=>pt (u (n.take (n.length - j)))
structure Hq (CN:Addr) (H:Hp) (m:Mp) (g:Nm->Option Addr) (n:Nm) (to:Option Nm) (al p:Addr) (i:Nat) (σ:L2.St) (H2:Hp):Prop where
 ls:∃ o,σ=[some (.ref al),some (sV n),some (oV to),some (.ref p),o]
 hp:H p=none
 rb:∃ u,yZ CN H m g n to (n.length - i) u H2/\H2 p=some (.lst (cM n u i))
theorem cP.put {CN:Addr}{H:Hp}{o:Option Addr}{v:Option Nm}{nx:Nat->Option Addr} (x:cP CN H o v nx) {p:Addr}{xs:List V} (hp:H p=some (.lst xs)) (o':HO):cP CN (upd H p o') o v nx:=by
 cases o with
 | none=>exact x
 | some a =>
  obtain⟨dx,d,kvs,h1,h2,h3⟩:=x;exact⟨dx,d,kvs,by rw[ah (bO h1 hp (by intro z;cases z))];exact h1,by rw[ah (bO h2 hp (by intro z;cases z))];exact h2,h3⟩
theorem yZ.put {CN:Addr}{H H2:Hp}{m:Mp}{g u:Nm->Option Addr}{n:Nm}{to:Option Nm}{q:Nat} (R:yZ CN H m g n to q u H2) {p:Addr}{xs ys:List V} (hp:H2 p=some (.lst xs)) (h0:H p=none):yZ CN H m g n to q u (upd H2 p (.lst ys)):=by
 refine⟨fun b hb hl=>⟨(R.ok b hb hl).1.put hp _,(R.ok b hb hl).2⟩,fun b a hb hl e=>⟨(R.new b a hb hl e).1,?_⟩,R.inj,R.kp.new h0⟩
 by_cases z:a=p
 ·rw[z,aa];rfl
 ·rw[ah z];exact (R.new b a hb hl e).2
theorem mn (n:Nm) (g:Nm->Option Addr):mj ((bD n).map fun b=>pt (g b)) (-1)=some (pt (g n)):=by
 have e:(bD n).map (fun b=>pt (g b))=((List.range n.length).map fun k=>pt (g (n.take k)))++[pt (g n)]:=by
  unfold bD;rw[List.range_succ,List.map_append,List.map_append,List.map_map];simp[Function.comp_def]
 rw[e];exact cX _ _
theorem yA (n:Nm) (g:Nm->Option Addr) {q:Nat} (h:q<=n.length):mj ((bD n).map fun b=>pt (g b)) (q:Int)=some (pt (g (n.take q))):=by
 refine bX ?_;unfold bD;rw[List.map_map,List.getElem?_map,List.getElem?_range (by omega)]
 rfl
theorem lg (n:Nm) (u:Nm->Option Addr) (i:Nat):mj (cM n u i) (-1)=some (pt (u (n.take (n.length - i)))):=by
 unfold cM;rw[List.range_succ,List.map_append];exact cX _ _
theorem uv (n:Nm) (u:Nm->Option Addr) (o:Option Addr) {i:Nat} (h:i<n.length):cM n (fun b=>if b=n.take (n.length - 1 - i) then o else u b) (i+1)=cM n u i++[pt o]:=by
 unfold cM;rw[List.range_succ (n:=i+1),List.map_append];have e:n.length - (i+1)=n.length - 1 - i:=by omega
 congr 1
 ·refine List.map_congr_left fun j hj=>?_
  have hj:=List.mem_range.mp hj;have ne:¬ n.take (n.length - j)=n.take (n.length - 1 - i):=fun z=>by
   have:=congrArg List.length z;rw[List.length_take,List.length_take] at this;omega
  exact congrArg pt (if_neg ne)
 ·rw[List.map_singleton,e]
  exact congrArg (fun x=>[pt x]) (if_pos rfl)
theorem uD (n:Nm):((List.range (n.length+1)).map fun j=>n.take (n.length - j))=(bD n).reverse:=by
 unfold bD;rw[<- List.map_reverse];refine List.ext_getElem (by simp) fun i h1 h2=>?_;simp at h1 h2 ⊢
theorem qW {n:Nm}{u:Nm->Option Addr}{M:Mp} (h:∀ b,b <+: n->((u b).isSome=true↔n_ M b)):((cM n u n.length).filter fun v=>decide (v≠.non)).length=((bD n).filter fun b=>nF M b).length:=by
 have e:cM n u n.length=((bD n).reverse).map fun b=>pt (u b):=by rw[<- uD,List.map_map];rfl
 rw[e,List.filter_map,List.length_map,List.filter_reverse,List.length_reverse];congr 1;refine List.filter_congr fun b hb=>?_;simp only[Function.comp];have q:=(h b (eR.mp hb)).trans (oO M b).symm;rw[Bool.eq_iff_iff,decide_eq_true_eq,<- q];generalize u b=o
 cases o with
 | none=>simp[pt]
 | some a=>simp[pt]
theorem Ca {f CN:Addr}{fd:FuncData} (B:Bl mg) (cwith_value:bM P w K mg base aQ 5 "with_value" ["node","value"] (Av CN)) (cwith_branch:bM P w K mg base aQ 5 "with_branch" ["node","letter","behind"] (BQ CN))
  (F:cG K "rebuilt" "rebuilt" yL f fd):aS P w K mg base aQ 6 f fd ["along","name","value"] (uC CN):=by
 have sc:=Dw;walk_at "f"
 ·obtain⟨_,_,_,_,_,rfl,_⟩:=h
  rfl
 ·obtain⟨al,m,g,n,to,rfl,hal,T,hnm,hn,k⟩:=h
  have hs:=sizeLine_eq;refine⟨_,(af (au (i:=3) sc.nd rfl (by walk_at "o") (aT (ag (bh cwith_value hr (ag (aG (aI K) (pv 0) (dr cF aj) (fun _ _=>rfl)) (ag (pv 2) ae))) ae)))
   (af (dt PassesOwn.never rfl (tY rfl B.rng (ag (aA fc (br (bc K) rfl B.len boot_len (ag (pv 1) ae)) aj) (ag (dr cF aj) (ag (dr cF aj) ae)))) (aM (i:=4) sc.nd rfl (by walk_at "o")) (ao (ba (dF K PySem.F.plainAttrs_list PySem.F.slot_list_append PySem.F.type_list_append bf (pv 3) (ag (bh cwith_branch hr (ag (aG (aI K) (pv 0) (pv 4) (fun _ _=>rfl)) (ag (aG qM (pv 1) (pv 4) (fun _ _=>rfl)) (ag (aG (aI K) (pv 3) (dr cF aj) (fun _ _=>rfl)) ae)))) ae)))))
   (ao (aw (bH (ag (aG (aI K) (pv 3) (dr cF aj) (fun _ _=>rfl)) (ag (br (bc K) rfl B.len boot_len (ag (cx (N':=["node"]) (ix:=[none]) rfl ?S1 (bq K (pv 3)) (fun cl C fp s H=>(aM (i:=0) xI rfl (by walk_at "o"))) (fun cl C fp s H=>(dA (da (jm (pv 0))))) (fun cl C fp s H=>(pv 0))) ae)) ae))))))),?_⟩
  case S1=>exact kG.is (N:=CW) (osc:=aq yL) (by decide +kernel)
  walk_at "rd";refine⟨_,aO.of hal,_,mn n g,g n,ak m n,to,_,rfl,(T n).1,fun o H1 h1 h2 h3 kp=>⟨by omega,fun p hp=>?_⟩⟩;have hp0:H p=none:=kp.free hp (by simp);have tl:(tx n).length=n.length:=by simp[Str.length]
  refine⟨n.length,⟨by omega,tl.symm⟩,_,_,⟨rfl,rfl⟩,⟨by omega,by omega,by omega,by omega⟩,?_⟩;have e0:((n.length:Int) - 1 - -1).toNat=n.length:=by omega
  rw[e0];have R0:=(wY (to:=to) T h1 h2 h3 kp);refine ui (Hq CN H m g n to al p) ⟨⟨none,rfl⟩,hp0,fun _=>o,⟨fun b hb hl=>⟨(R0.ok b hb (by omega)).1.kp ((Kp.refl H1 []).new hp),(R0.ok b hb (by omega)).2⟩,fun b a hb hl e=>⟨(R0.new b a hb (by omega) e).1,?_⟩,fun b b' a hb hb' hl hl' e e'=>R0.inj b b' a hb hb' (by omega) (by omega) e e',R0.kp.new hp0⟩,?_⟩ (fun i σ H2 hi iv=>?_) (fun σ H2 iv=>?_)
  ·have:=(R0.new b a hb (by omega) e).2
   obtain⟨o',ho'⟩:=Option.isSome_iff_exists.mp this;rw[ah (ai ho' hp),ho'];rfl
  ·rw[aa];unfold cM;simp
  ·obtain⟨⟨o',rfl⟩,_,u,R,hm⟩:=iv
   walk_at "rd";obtain⟨c,hc⟩:∃ c,n[n.length - 1 - i]?=some c:=⟨n[n.length - 1 - i]'(by omega),by simp[show n.length - 1 - i<n.length by omega]⟩;have hci:=of_decide_eq_true (List.all_eq_true.mp hnm c (List.mem_of_getElem? hc));have eq:(n.length:Int) - 1 - (i:Int)=((n.length - 1 - i:Nat):Int):=by omega
   have e1:n.length - i=n.length - 1 - i+1:=by omega
   rw[eq];have hal2:=R.kp al _ hal (by simp);rw[e1] at R;refine⟨.inl ⟨rfl,_,aO.of hm⟩,_,aO.of hal2,_,yA n g (by omega),tx n,rfl,by omega,c,?_,_,aO.of hm,_,lg n u i,g (n.take (n.length - 1 - i)),u (n.take (n.length - i)),ak m (n.take (n.length - 1 - i)),_,c,rfl,hci.1,hci.2,(T _).1.kp R.kp,fun ob H3 q1 q2 q3 kp3=>?_⟩
   ·rw[dM];exact bX hc
   ·have hm3:=kp3 p _ hm (by simp)
    have ml:(cM n u i).length=i+1:=by unfold cM;rw[List.length_map,List.length_range]
    refine⟨_,hm3,by omega,⟨_,rfl⟩,hp0,fun b=>if b=n.take (n.length - 1 - i) then ob else u b,?_,?_⟩
    ·rw[e1] at q1 q2
     have:=(yx T hc R q1 q2 q3 kp3).put hm3 (ys:=cM n u i++[pt ob]) hp0;have e2:n.length - (i+1)=n.length - 1 - i:=by omega
     rw[e2];exact this
    ·rw[aa,uv n u ob hi]
  ·obtain⟨⟨o',rfl⟩,_,u,R,hm⟩:=iv
   walk_at "rd";rw[Nat.sub_self] at R;obtain⟨T',N'⟩:=B6 T R;have ml:(cM n u n.length).length=n.length+1:=by unfold cM;rw[List.length_map,List.length_range]
   refine⟨_,aO.of hm,_,lg n u n.length,⟨_,aO.of hm⟩,dJ (xs:=cM n u n.length) (fun v=>if v=.non then none else some v) (aO.of hm) (by omega) (fun x hx Ra Rb r1 r2=>?_) ?_⟩
   ·refine⟨Wk.set rfl,?_⟩
    walk_at "rd"
    by_cases z:x=.non
    ·rw[if_neg (by simp[z])]
     exact r2 (if_pos z)
    ·rw[if_pos (by simp[z])]
     exact r1 _ (if_neg z)
   ·intro d hd
    have hd0:H d=none:=R.kp.free hd (by simp);have fm:(cM n u n.length).filterMap (fun v=>if v=.non then none else some v)=(cM n u n.length).filter fun v=>decide (v≠.non):=by
     generalize cM n u n.length=l
     induction l with
     | nil=>rfl
     | cons v l ih =>
      rw[List.filterMap_cons,List.filter_cons]
      by_cases z:v=.non
      ·simp only[if_pos z,ih];simp[z]
      ·simp only[if_neg z,ih];simp[z]
    rw[fm];refine⟨_,.inl ⟨_,aO.of aa,rfl⟩,by omega,fun p1 hp1=>?_⟩;have k1:Kp H2 (upd H2 d (.lst ((cM n u n.length).filter fun v=>decide (v≠.non)))) []:=(Kp.refl H2 []).new hd;have hp2:H2 p1=none:=k1.free hp1 (by simp);have k2:Kp H2 (upd (upd H2 d (.lst ((cM n u n.length).filter fun v=>decide (v≠.non)))) p1 (HO.tup [pt (u (List.take (List.length n - List.length n) n)),V.int ((cM n u n.length).filter fun v=>decide (v≠.non)).length])) []:=k1.new hp2;have cnt:=qW (n:=n) (u:=u) (M:=bA m n to) fun b hb=>by
     have:=(T' b).2
     rwa [jG hb] at this
    refine k p1 (G n g u) _ ?_ (T'.kp k2) N' (R.kp.trans k2);rw[aa,cnt];have e0:List.take (List.length n - List.length n) n=[]:=by simp
    rw[e0,jG (List.nil_prefix)]
    rfl
end
end
section
section
variable {B0 newId initId:String}{bmB:List Value}
noncomputable abbrev zA:Stmt:=top 22
theorem Dg:az ["text"] ["text"] (aq zA):=by walk_at "s"
noncomputable def we (CNN:Addr):Sp:=fun vs H Q E=>∃ l:List Nat,vs=[.str (tx l)]/\l.length<=1000/\(∀ c∈l,c<128)/\∀ H',Kp H H' []->(isNm l=true->Q .non H')/\(isNm l=false->E (.ref CNN) none H')
theorem zr {f CNN:Addr}{fd:FuncData} (O_NoName:OwnCls "NoName" CNN bmB newId mg base) (FB:ExcBaseFacts B0 newId initId bmB) (cis_name:bM P w K mg base aQ 1 "is_name" ["text"] BC) (F:cG K "refuse_no_name" "refuse_no_name" zA f fd) :
  aS P w K mg base (fu P w) 2 f fd ["text"] (we CNN):=by
 have sc:=Dg;refine F.Bo sc (fun vs H Q E h=>?_) (fun cdv A outer s H vs Q E hr h=>?_)
 ·obtain⟨x,rfl,_⟩:=h
  rfl
 ·obtain⟨l,rfl,hx,h128,k⟩:=h
  refine⟨_,(ao (a_ (eM (cK (bh cis_name hr (ag (pv 0) ae)))) (ao (pb O_NoName FB rfl lz (ag (qI 0 (pv 0)) ae))) aJ)),?_⟩;walk_at "rd";have tl:(tx l).length=l.length:=by simp[Str.length]
  have hs:=sizeLine_eq;refine⟨l,rfl,hx,fun H1 k1=>⟨_,rfl,?_⟩⟩
  cases e:isNm l with
  | true=>exact (k H1 k1).1 e
  | false=>exact⟨by omega,fun c hc=>Nat.lt_of_lt_of_le (h128 c hc) (by decide),fun _=>⟨by omega,(k H1 k1).2 e⟩⟩
noncomputable def xh (m:Mp) (n:Nm) (to:Option Nm):Mp:=if ak m n=to then m else bA m n to
theorem ou (m:Mp) (nd:Nd) (st:Nat) (n:Nm) (to:Option Nm):(bU m nd st n to).m=xh m n to:=by
 unfold xh bU
 split <;> rfl
structure EZ (CN:Addr) (H H':Hp) (m:Mp) (g:Nm->Option Addr) (n:Nm) (to:Option Nm) (g':Nm->Option Addr) (k:Nat):Prop where
 made:∀ nd st,(bU m nd st n to).made=k
 tree:Tree CN H' (xh m n to) g'
 new:(ak m n=to/\g'=g)\/(ak m n≠to/\FA n H g g')
noncomputable abbrev A3:Stmt:=top 24
theorem Es:az ["root","name","value","along"] ["root","name","value"] (aq A3):=by walk_at "s"
noncomputable def rR (CN CNN:Addr):Sp:=fun vs H Q E=>∃ (m:Mp) (g:Nm->Option Addr) (n:Nm) (to:Option Nm),vs=[pt (g []),sV n,oV to]/\Tree CN H m g/\n.length<=1000/\(∀ c∈n,c<128)/\(isNm n=false->∀ H',Kp H H' []->E (.ref CNN) none H') /\
 (isNm n=true->∀ (p:Addr) (g':Nm->Option Addr) (k:Nat) H',H' p=some (.tup [pt (g' []),nV k])->EZ CN H H' m g n to g' k->Kp H H' []->Q (.ref p) H')
theorem B3 {f CN CNN:Addr}{fd:FuncData} (crefuse_no_name:bM P w K mg base (fu P w) 7 "refuse_no_name" ["text"] (we CNN)) (cnodes_along:bM P w K mg base aQ 7 "nodes_along" ["root","name"] (B7 CN)) (cvalue_at:bM P w K mg base aQ 7 "value_at" ["node"] (pB CN))
  (crebuilt:bM P w K mg base aQ 7 "rebuilt" ["along","name","value"] (uC CN)) (F:cG K "changed" "changed" A3 f fd):aS P w K mg base (fu P w) 8 f fd ["root","name","value"] (rR CN CNN):=by
 have sc:=Es;refine F.Bo sc (fun vs H Q E h=>?_) (fun cdv A outer s H vs Q E hr h=>?_)
 ·obtain⟨_,_,_,_,rfl,_⟩:=h
  rfl
 ·obtain⟨m,g,n,to,rfl,T,hn,h128,kb,kg⟩:=h
  have hs:=sizeLine_eq;refine⟨_,(af (ba (vQ crefuse_no_name hr cm (ag (pv 1) ae)))
   (af (au (i:=3) sc.nd rfl (by walk_at "o") (bh cnodes_along hr (ag (pv 0) (ag (pv 1) ae))))
   (af (a_ (aF dj (bh cvalue_at hr (ag (aG (aI K) (pv 3) (dr cF aj) (fun _ _=>rfl)) ae)) (pv 2) (aK _)) (ao (aw (bH (ag (pv 0) (ag aj ae))))) aJ)
   (ao (aw (bh crebuilt hr (ag (pv 3) (ag (pv 1) (ag (pv 2) ae))))))))),?_⟩
  walk_at "rd";refine⟨n,rfl,hn,h128,fun H1 k1=>⟨fun e=>?_,fun e=>kb e H1 k1⟩⟩;have T1:=T.kp k1;refine⟨m,g,n,rfl,T1,hn,fun p H2 hp hl k2=>?_⟩;have T2:=T1.kp k2;walk_at "rd";refine⟨_,aO.of hl,_,mn n g,g n,ak m n,_,rfl,(T2 n).1,gL _ _,?_⟩
  by_cases q:ak m n=to
  ·rw[if_pos (decide_eq_true (dW.mpr q))]
   refine⟨by omega,fun p' hp'=>?_⟩;have k3:Kp H2 (upd H2 p' (HO.tup [pt (g []),V.int 0])) []:=(Kp.refl H2 []).new hp';refine kg e p' g 0 _ aa ⟨fun nd st=>by rw[lF q],?_,.inl ⟨q,rfl⟩⟩ ((k1.trans k2).trans k3);have:xh m n to=m:=if_pos q;rw[this];exact T2.kp k3
  ·rw[if_neg (fun z=>q (dW.mp (of_decide_eq_true z)))]
   refine⟨p,m,g,n,to,rfl,hl,T2,e,hn,fun p' g' H' h1 h2 h3 h4=>?_⟩;have k5:=(k1.trans k2).trans h4;refine kg e p' g' _ H' h1 ⟨fun nd st=>(qT q nd st).1,?_,.inr ⟨q,h3.old,fun b a hb ha=>(k1.trans k2).free (h3.new b a hb ha) (by simp),h3.inj⟩⟩ k5;have:xh m n to=bA m n to:=if_neg q;rw[this];exact h2
end
end
section
section
noncomputable def ux (t b o w:V):List (Str×V):=cy "two" w (cy "one" o (cy "base" b (cy "text" t [])))
theorem lS:¬ (("text":Str)="two")/\¬ (("text":Str)="one")/\¬ (("text":Str)="base")/\¬ (("base":Str)="two")/\¬ (("base":Str)="one")/\¬ (("one":Str)="two"):=by decide +kernel
theorem oP (t b o w:V):(ux t b o w).lookup ("text":Str)=some t:=by
 unfold ux;rw[aD,if_neg lS.1,aD,if_neg lS.2.1,aD,if_neg lS.2.2.1,aD,if_pos rfl]
theorem jE (t b o w:V):(ux t b o w).lookup ("base":Str)=some b:=by
 unfold ux;rw[aD,if_neg lS.2.2.2.1,aD,if_neg lS.2.2.2.2.1,aD,if_pos rfl]
theorem jg (t b o w:V):(ux t b o w).lookup ("one":Str)=some o:=by
 unfold ux;rw[aD,if_neg lS.2.2.2.2.2,aD,if_pos rfl]
theorem hV (t b o w:V):(ux t b o w).lookup ("two":Str)=some w:=by
 unfold ux;rw[aD,if_pos rfl]
theorem jz (t b o w:V) {m:Str} (h1:¬ m="two") (h2:¬ m="one") (h3:¬ m="base") (h4:¬ m="text"):(ux t b o w).lookup m=none:=by
 unfold ux;rw[aD,if_neg h1,aD,if_neg h2,aD,if_neg h3,aD,if_neg h4]
 rfl
theorem rT (f g:Str) (x y:V):(cy f x (cy g y [])).length<1000:=by
 have h1:=cB f x (cy g y []);have h2:=cB g y [];have h3:([]:List (Str×V)).length=0:=rfl;omega
theorem yq (f g h:Str) (x y z:V):(cy f x (cy g y (cy h z []))).length<1000:=by
 have h0:=cB f x (cy g y (cy h z []));have h1:=cB g y (cy h z []);have h2:=cB h z [];have h3:([]:List (Str×V)).length=0:=rfl;omega
structure Ct (K:PySem.W.Frag) (CP:Addr):Prop where
 cl:p_ K CP
 nt:bB K CP "text"
 nb:bB K CP "base"
 no:bB K CP "one"
 nw:bB K CP "two"
noncomputable abbrev BI:Stmt:=(inClass (top 11) 0)
noncomputable abbrev tV:List Str:=["self","text","base","one","two"]
theorem CH:az tV tV (aq BI):=by walk_at "s"
noncomputable def se (CP:Addr):Sp:=fun vs H Q _=>∃ (x dx:Addr) (t b o w:V),vs=[.ref x,t,b,o,w]/\H x=some (.ins CP dx [])/\∀ H',H' x=some (.ins CP dx (ux t b o w))->(∀ b,b≠x->H' b=H b)->Q .non H'
theorem Ar {f CP:Addr}{fd:FuncData} (T:Ct K CP) (F:cG K "__init__" "Place.__init__" BI f fd):aS P w K mg base aQ 1 f fd tV (se CP):=by
 have sc:=CH;walk_at "f"
 ·obtain⟨_,_,_,_,_,_,rfl,_⟩:=h
  rfl
 ·obtain⟨x,dx,t,b,o,w,rfl,hx,k⟩:=h
  refine⟨_,(af (dU (pv 0) (pv 1) rfl)
   (af (dU (pv 0) (pv 2) rfl)
   (af (dU (pv 0) (pv 3) rfl)
   (ao (dU (pv 0) (pv 4) rfl))))),?_⟩
  walk_at "rd";refine⟨CP,dx,[],hx,T.cl,T.nt,by decide,CP,dx,_,aa,T.cl,T.nb,(by show 1<1000;decide),CP,dx,_,aa,T.cl,T.no,rT _ _ _ _,CP,dx,_,aa,T.cl,T.nw,yq _ _ _ _ _ _,?_⟩;exact k _ aa fun b hb=>by rw[ah hb,ah hb,ah hb,ah hb]
structure vO (CN:Addr) (H:Hp) (mb mo mt:Mp) (gB gO gT:Nm->Option Addr):Prop where
 b:Tree CN H mb gB
 o:Tree CN H mo gO
 t:Tree CN H mt gT
theorem vO.kp {CN:Addr}{H H':Hp}{mb mo mt:Mp}{gB gO gT:Nm->Option Addr} (T:vO CN H mb mo mt gB gO gT) (k:Kp H H' []):vO CN H' mb mo mt gB gO gT:=⟨T.b.kp k,T.o.kp k,T.t.kp k⟩
noncomputable def eK (CP:Addr) (H:Hp) (p:Addr) (gB gO gT:Nm->Option Addr) (b:Nm):Prop:=∃ dx,H p=some (.ins CP dx (ux (sV b) (pt (gB b)) (pt (gO b)) (pt (gT b))))
theorem eK.kp {CP:Addr}{H H':Hp}{p:Addr}{gB gO gT:Nm->Option Addr}{b:Nm} (h:eK CP H p gB gO gT b) (k:Kp H H' []):eK CP H' p gB gO gT b:=let ⟨dx,h⟩:=h;⟨dx,k _ _ h (by simp)⟩
theorem vZ {a b:Option Addr}:pt a=pt b↔a=b:=by
 cases a <;> cases b <;> simp[pt]
theorem nR {CN:Addr}{H:Hp}{m:Mp}{g:Nm->Option Addr} (T:Tree CN H m g) (b:Nm):E5 CN H (pt (g b)):=by
 have:=(T b).1
 cases e:g b with
 | none=>exact .inl rfl
 | some a =>
  rw[e] at this;obtain⟨dx,d,kvs,h,_⟩:=this;exact .inr ⟨a,dx,_,rfl,h⟩
noncomputable abbrev FQ:Stmt:=(inClass (top 11) 1)
theorem Fm:az ["self"] ["self"] (aq FQ):=by walk_at "s"
noncomputable def Cu (gB gO gT:Nm->Option Addr) (b:Nm):Bool:=decide (gT b=gB b) || decide (gT b=gO b)
noncomputable def zY (CN CP:Addr):Sp:=fun vs H Q _=>∃ (p:Addr) (mb mo mt:Mp) (gB gO gT:Nm->Option Addr) (b:Nm),vs=[.ref p]/\vO CN H mb mo mt gB gO gT/\eK CP H p gB gO gT b/\Q (.bl (Cu gB gO gT b)) H
theorem Eo {f CN CP:Addr}{fd:FuncData} (eqN:A2 K CN) (T:Ct K CP) (F:cG K "is_shared" "Place.is_shared" FQ f fd):aS P w K mg base aQ 1 f fd ["self"] (zY CN CP):=by
 have sc:=Fm;walk_at "f"
 ·obtain⟨_,_,_,_,_,_,_,_,rfl,_⟩:=h
  rfl
 ·obtain⟨p,mb,mo,mt,gB,gO,gT,b,rfl,Tr,⟨dx,hp⟩,k⟩:=h
  have hu0:=hr.cu;refine⟨_,(ao (aw (CI (g_ (w_ K hu0 eqN) (aX K (pv 0) rfl) (aX K (pv 0) rfl) (aK _)) (qd (g_ (w_ K hu0 eqN) (aX K (pv 0) rfl) (aX K (pv 0) rfl) (aK _)))))),?_⟩;walk_at "rd";have e1:decide (pt (gT b)=pt (gB b))=decide (gT b=gB b):=decide_eq_decide.mpr vZ;have e2:decide (pt (gT b)=pt (gO b))=decide (gT b=gO b):=decide_eq_decide.mpr vZ;refine⟨CP,dx,_,hp,T.cl,T.nw,_,hV _ _ _ _,CP,dx,_,hp,T.cl,T.nb,_,jE _ _ _ _,nR Tr.t b,nR Tr.b b,_,rfl,?_⟩;rw[e1];unfold Cu at k
  cases q:decide (gT b=gB b) with
  | true=>rw[q,Bool.true_or] at k;exact k
  | false =>
   rw[q,Bool.false_or] at k;refine⟨CP,dx,_,hp,T.cl,T.nw,_,hV _ _ _ _,CP,dx,_,hp,T.cl,T.no,_,jg _ _ _ _,nR Tr.t b,nR Tr.o b,?_⟩;rw[e2];exact k
noncomputable abbrev AJ:Stmt:=(inClass (top 11) 2)
theorem Ed:az ["self"] ["self"] (aq AJ):=by walk_at "s"
noncomputable def vN (CN CP:Addr):Sp:=fun vs H Q _=>∃ (p:Addr) (mb mo mt:Mp) (gB gO gT:Nm->Option Addr) (b:Nm),vs=[.ref p]/\vO CN H mb mo mt gB gO gT/\eK CP H p gB gO gT b/\∀ q,H q=none->Q (.ref q) (upd H q (.tup (eF (eZ mb mo mt b))))
theorem Bq {f CN CP:Addr}{fd:FuncData} (cvalue_at:bM P w K mg base aQ 2 "value_at" ["node"] (pB CN)) (T:Ct K CP) (F:cG K "row" "Place.row" AJ f fd):aS P w K mg base aQ 3 f fd ["self"] (vN CN CP):=by
 have sc:=Ed;walk_at "f"
 ·obtain⟨_,_,_,_,_,_,_,_,rfl,_⟩:=h
  rfl
 ·obtain⟨p,mb,mo,mt,gB,gO,gT,b,rfl,Tr,⟨dx,hp⟩,k⟩:=h
  have hs:=sizeLine_eq;refine⟨_,(ao (aw (bH (ag (aX K (pv 0) rfl) (ag (bh cvalue_at hr (ag (aX K (pv 0) rfl) ae)) (ag (bh cvalue_at hr (ag (aX K (pv 0) rfl) ae)) (ag (bh cvalue_at hr (ag (aX K (pv 0) rfl) ae)) ae))))))),?_⟩;walk_at "rd";refine⟨CP,dx,_,hp,T.cl,T.nt,_,oP _ _ _ _,CP,dx,_,hp,T.cl,T.nb,_,jE _ _ _ _,gB b,_,_,rfl,(Tr.b b).1,CP,dx,_,hp,T.cl,T.no,_,jg _ _ _ _,gO b,_,_,rfl,(Tr.o b).1,CP,dx,_,hp,T.cl,T.nw,_,hV _ _ _ _,gT b,_,_,rfl,(Tr.t b).1,by omega,fun q hq=>?_⟩;exact k q hq
noncomputable abbrev EJ:Stmt:=(inClass (top 11) 3)
noncomputable abbrev GF:List Str:=["self","letter","behind"]
theorem E2:az GF ["self","letter"] (aq EJ):=by walk_at "s"
theorem Dr:(["node","letter"]:List Str).Nodup:=by decide +kernel
noncomputable def zE (CN CP:Addr):Sp:=fun vs H Q _=>∃ (p:Addr) (mb mo mt:Mp) (gB gO gT:Nm->Option Addr) (b:Nm) (c:Nat),vs=[.ref p,.str (tx [c])]/\vO CN H mb mo mt gB gO gT/\eK CP H p gB gO gT b/\b.length<=1000/\∀ q H',H q=none->eK CP H' q gB gO gT (b++[c])->Kp H H' []->Q (.ref q) H'
theorem Dx {f CN CP:Addr}{fd:FuncData} (cnode_behind:bM P w K mg base aQ 2 "node_behind" ["node","letter"] (pN CN)) (n_Place:gg P w K mg base 1 "Place" CP tV (se CP)) (T:Ct K CP) (F:cG K "place_behind" "Place.place_behind" EJ f fd):aS P w K mg base aQ 3 f fd ["self","letter"] (zE CN CP):=by
 have sc:=E2;have nd_node_letter:=Dr;walk_at "f"
 ·obtain⟨_,_,_,_,_,_,_,_,_,rfl,_⟩:=h
  rfl
 ·obtain⟨p,mb,mo,mt,gB,gO,gT,b,c,rfl,Tr,⟨dx,hp⟩,hb,k⟩:=h
  have hs:=sizeLine_eq;refine⟨_,(af (gY (i:=2) (N':=["node","letter"]) (ix:=[none,some 1]) sc.nd rfl rfl rfl ?S1 (nY K (bH (ag (aX K (pv 0) rfl) (ag (aX K (pv 0) rfl) (ag (aX K (pv 0) rfl) ae))))) (fun cl C fp s H=>(aM (i:=0) nd_node_letter rfl (by walk_at "o"))) (fun cl C fp s H=>di) (fun cl C fp s H=>(bh cnode_behind hr (ag (pv 0) (ag (pv 1) ae)))))
   (ao (aw (oh n_Place hr (ag (aA cA (aX K (pv 0) rfl) (pv 1)) (ag (aG (aI K) (pv 2) aj (fun _ _=>rfl)) (ag (aG (aI K) (pv 2) aj (fun _ _=>rfl)) (ag (aG (aI K) (pv 2) aj (fun _ _=>rfl)) ae)))))))),?_⟩
  case S1=>exact kG.is (N:=GF) (osc:=aq EJ) (by decide +kernel)
  walk_at "rd";refine⟨CP,dx,_,hp,T.cl,T.nb,_,jE _ _ _ _,CP,dx,_,hp,T.cl,T.no,_,jg _ _ _ _,CP,dx,_,hp,T.cl,T.nw,_,hV _ _ _ _,by omega,fun t ht=>⟨⟨_,cI.of aa⟩,?_⟩⟩;have k1:Kp H (upd H t (.tup [pt (gB b),pt (gO b),pt (gT b)])) []:=(Kp.refl H []).new ht;have Tr1:=Tr.kp k1;refine ur (xs:=[pt (gB b),pt (gO b),pt (gT b)]) (fun i ys H'=>ys=[pt (gB (b++[c])),pt (gO (b++[c])),pt (gT (b++[c]))].take i/\H'=upd H t (.tup [pt (gB b),pt (gO b),pt (gT b)])) ⟨rfl,rfl⟩ (by show 3<=_;omega) ?_ ?_ ?_ ?_
  ·rintro i ys H' ⟨rfl,_⟩
   exact List.length_take_le _ _
  ·rintro i ys H' ⟨_,rfl⟩
   exact cI.of aa
  ·rintro i ys H' x hx ⟨rfl,rfl⟩ R R' r1 r2
   refine⟨Wk.set rfl,?_⟩;walk_at "rd"
   match i,hx with
   | 0,hx =>
    cases hx;exact⟨gB b,_,_,c,rfl,(Tr1.b b).1,r1 _ _ ⟨rfl,rfl⟩⟩
   | 1,hx =>
    cases hx;exact⟨gO b,_,_,c,rfl,(Tr1.o b).1,r1 _ _ ⟨rfl,rfl⟩⟩
   | 2,hx =>
    cases hx;exact⟨gT b,_,_,c,rfl,(Tr1.t b).1,r1 _ _ ⟨rfl,rfl⟩⟩
   | i+3,hx=>simp at hx
  ·rintro ys H' ⟨rfl,rfl⟩ d hd
   have hd0:H d=none:=k1.free hd (by simp);have k2:Kp H (upd (upd H t (.tup [pt (gB b),pt (gO b),pt (gT b)])) d (.lst ([pt (gB (b++[c])),pt (gO (b++[c])),pt (gT (b++[c]))].take [pt (gB b),pt (gO b),pt (gT b)].length))) []:=k1.new hd0;have hp2:=k2 p _ hp (by simp);have e3:[pt (gB (b++[c])),pt (gO (b++[c])),pt (gT (b++[c]))].take [pt (gB b),pt (gO b),pt (gT b)].length=[pt (gB (b++[c])),pt (gO (b++[c])),pt (gT (b++[c]))]:=rfl;rw[e3] at hp2 k2 ⊢;have hd3:(upd (upd H t (HO.tup [pt (gB b),pt (gO b),pt (gT b)])) d (HO.lst [pt (gB (b++[c])),pt (gO (b++[c])),pt (gT (b++[c]))])) d=some (HO.lst [pt (gB (b++[c])),pt (gO (b++[c])),pt (gT (b++[c]))]):=aa;generalize upd (upd H t (HO.tup [pt (gB b),pt (gO b),pt (gT b)])) d (HO.lst [pt (gB (b++[c])),pt (gO (b++[c])),pt (gT (b++[c]))])=H3 at hp2 k2 hd3 ⊢;have tl:(tx b).length+(tx [c]).length=b.length+1:=by simp[Str.length]
   have et:tx b++tx [c]=tx (b++[c]):=by
    rw[gx (tx b++tx [c]),ef,dM,dM]
   refine⟨CP,dx,_,hp2,T.cl,T.nt,_,oP _ _ _ _,tx b,rfl,by omega,_,aO.of hd3,_,rfl,_,aO.of hd3,_,rfl,_,aO.of hd3,_,rfl,fun x dx' nx ndx ne=>?_⟩;refine⟨x,dx',_,_,_,_,rfl,aa,fun H4 hx oth=>⟨rfl,?_⟩⟩;have k4:Kp H3 H4 []:=fun y o e _=>by
    rw[oth y (ai e nx),ah (ai e nx),ah (ai e ndx)];exact e
   rw[et] at hx;exact k x H4 (k2.free nx (by simp)) ⟨dx',hx⟩ (k2.trans k4)
noncomputable abbrev xu:Stmt:=(inClass (top 11) 4)
noncomputable abbrev Cv:List Str:=["self","letters"]
theorem Dk:az Cv ["self"] (aq xu):=by walk_at "s"
theorem El:(["letter","self"]:List Str).Nodup:=by decide +kernel
noncomputable def uX (CN CP:Addr):Sp:=fun vs H Q _=>∃ (p:Addr) (mb mo mt:Mp) (gB gO gT:Nm->Option Addr) (b:Nm),vs=[.ref p]/\vO CN H mb mo mt gB gO gT/\eK CP H p gB gO gT b/\b.length<=1000 /\
 ∀ (q:Addr) (L:List Nat) (ps:List Addr) H',L.Pairwise (·<·)->(∀ c,c∈L↔(gO (b++[c])).isSome=true\/(gT (b++[c])).isSome=true)->H' q=some (.lst (ps.map V.ref))->Paired (fun a c=>eK CP H' a gB gO gT (b++[c])) ps L.reverse->Kp H H' []->Q (.ref q) H'
structure GX (CP:Addr) (H4:Hp) (gB gO gT:Nm->Option Addr) (b:Nm) (L:List Nat) (i:Nat) (ys:List V) (H':Hp):Prop where
 ex:∃ ps:List Addr,ys=ps.map V.ref/\ps.length=i/\Paired (fun a c=>eK CP H' a gB gO gT (b++[c])) ps (L.reverse.take i)
 kp:Kp H4 H' []
theorem l_ {CP:Addr}{H H':Hp}{gB gO gT:Nm->Option Addr}{b:Nm} (k:Kp H H' []) {ps:List Addr}{L:List Nat} (h:Paired (fun a c=>eK CP H a gB gO gT (b++[c])) ps L):Paired (fun a c=>eK CP H' a gB gO gT (b++[c])) ps L:=Paired.imp' (fun a c x=>x.kp k) h
theorem By {f CN CP:Addr}{fd:FuncData} (B:Bl mg) (B2:GL mg) (cletters_on:bM P w K mg base aQ 4 "letters_on" ["node"] (vg CN)) (m_Place_place_behind:cz P w K mg base aQ 4 CP "place_behind" ["self","letter"] (zE CN CP)) (T:Ct K CP) (F:cG K "places_behind" "Place.places_behind" xu f fd):aS P w K mg base aQ 5 f fd ["self"] (uX CN CP):=by
 have sc:=Dk;have nd_letter_self:=El;walk_at "f"
 ·obtain⟨_,_,_,_,_,_,_,_,rfl,_⟩:=h
  rfl
 ·obtain⟨p,mb,mo,mt,gB,gO,gT,b,rfl,Tr,⟨dx,hp⟩,hb,k⟩:=h
  have hs:=sizeLine_eq;refine⟨_,(af (au (i:=1) sc.nd rfl (by walk_at "o") (br (jb rfl) rfl B.srt boot_sorted (ag (cS (nz rfl) rfl B2.set PyProof.Rows.boot_set (ag (aA cA (bh cletters_on hr (ag (aX K (pv 0) rfl) ae)) (bh cletters_on hr (ag (aX K (pv 0) rfl) ae))) ae)) ae)))
   (ao (aw (cx (N':=["letter","self"]) (ix:=[none,some 0]) rfl ?S1 (yf K rfl B2.rev PyProof.Rows.boot_reversed (pv 1)) (fun cl C fp s H=>(aM (i:=0) nd_letter_self rfl (by walk_at "o"))) (fun cl C fp s H=>di) (fun cl C fp s H=>(dn m_Place_place_behind hr eB (pv 1) (ag (pv 0) ae))))))),?_⟩
  case S1=>exact kG.is (N:=Cv) (osc:=aq xu) (by decide +kernel)
  walk_at "rd";refine⟨CP,dx,_,hp,T.cl,T.no,_,jg _ _ _ _,gO b,_,_,rfl,(Tr.o b).1,fun l1 H1 s1 m1 a1 k1=>?_⟩;have hp1:=k1 p _ hp (by simp);have Tr1:=Tr.kp k1;refine⟨CP,dx,_,hp1,T.cl,T.nw,_,hV _ _ _ _,gT b,_,_,rfl,(Tr1.t b).1,fun l2 H2 s2 m2 a2 k2=>?_⟩;have Tr2:=Tr1.kp k2;have few:∀ {l:List Nat},l.Pairwise (·<·)->(∀ c∈l,97<=c/\c<=122)->l.length<=26:=fun {l} p a=>by
   have nd:l.Nodup:=by
    rw[List.nodup_iff_pairwise_ne];exact p.imp fun {a b} h=>Nat.ne_of_lt h
   have:=fV nd (u:=(List.range 26).map (·+97)) fun x hx=>by
    obtain⟨h1,h2⟩:=a x hx;exact List.mem_map.mpr ⟨x - 97,List.mem_range.mpr (by omega),by omega⟩
   simpa using this
  have f1:=few s1 a1;have f2:=few s2 a2;have t1:(tx l1).length=l1.length:=by simp[Str.length]
  have t2:(tx l2).length=l2.length:=by simp[Str.length]
  have et:(tx l1++tx l2).cps.toList=l1++l2:=by rw[ef,dM,dM]
  refine⟨tx l1,rfl,tx l2,rfl,by omega,?_,fun q1 hq1=>⟨l1++l2,?_,?_⟩⟩
  ·have:=congrArg List.length et
   rw[Array.length_toList,List.length_append] at this;omega
  ·rw[aa,et]
  have k3:Kp H1 (upd H2 q1 (tN P w q1 (tx l1++tx l2).cps.toList)) []:=k2.new (k2.free hq1 (by simp));refine⟨fun c hc=>(List.mem_append.mp hc).elim (a1 c) (a2 c),fun q2 L hq2 sL mL=>?_⟩;have k4:=k3.new (p:=q2) (o:=.lst (L.map fun c=>.str (tx [c]))) (k3.free hq2 (by simp));have aL:∀ c∈L,97<=c/\c<=122:=fun c hc=>(List.mem_append.mp ((mL c).mp hc)).elim (a1 c) (a2 c);have fL:=few sL aL;have mL':∀ c,c∈L↔(gO (b++[c])).isSome=true\/(gT (b++[c])).isSome=true:=fun c=>by rw[mL,List.mem_append,m1,m2]
  have hq2':(upd (upd H2 q1 (tN P w q1 (tx l1++tx l2).cps.toList)) q2 (.lst (L.map fun c=>.str (tx [c])))) q2=some (.lst (L.map fun c=>.str (tx [c]))):=aa;dsimp only[i_];generalize (upd (upd H2 q1 (tN P w q1 (tx l1++tx l2).cps.toList)) q2 (.lst (L.map fun c=>.str (tx [c]))))=H4 at k4 hq2' ⊢;have k5:=k1.trans k4;have hp4:=k5 p _ hp (by simp);refine⟨_,aO.of hq2',sS (xs:=L.map fun c=>.str (tx [c])) (GX CP H4 gB gO gT b L) ⟨⟨[],rfl,rfl,.nil⟩,Kp.refl _ _⟩ (by rw[List.length_map];omega) ?_ ?_ ?_ ?_⟩
  ·rintro i ys H' ⟨⟨ps,rfl,hl,_⟩,_⟩
   rw[List.length_map,hl];exact Nat.le_refl _
  ·rintro i ys H' ⟨_,kp⟩
   exact aO.of (kp _ _ hq2' (by simp))
  ·rintro i ys H' x hx ⟨⟨ps,rfl,hl,hpr⟩,kp⟩ R R' r1 r2
   rw[<- List.map_reverse,List.getElem?_map] at hx;obtain⟨c,hc,rfl⟩:=Option.map_eq_some_iff.mp hx;refine⟨Wk.set rfl,?_⟩;walk_at "rd";have hpx:=kp p _ hp4 (by simp);refine⟨dx,_,hpx,jz _ _ _ _ (by decide +kernel) (by decide +kernel) (by decide +kernel) (by decide +kernel),p,mb,mo,mt,gB,gO,gT,b,c,rfl,(Tr.kp k5).kp kp,⟨dx,hpx⟩,hb,fun q H5 hq pl k6=>?_⟩;refine r1 _ _ ⟨⟨ps++[q],by rw[List.map_append];rfl,by rw[List.length_append,hl];rfl,?_⟩,kp.trans k6⟩;rw[List.take_add_one,hc];exact aZ (l_ k6 hpr) pl
  ·rintro ys H' ⟨⟨ps,rfl,hl,hpr⟩,kp⟩ d hd
   rw[List.length_map,<- List.length_reverse,List.take_of_length_le (Nat.le_refl _)] at hpr;have k6:Kp H' (upd H' d (.lst (ps.map V.ref))) []:=(Kp.refl H' []).new hd;exact k d L ps _ sL mL' aa (l_ k6 hpr) ((k5.trans kp).trans k6)
noncomputable abbrev Be:Stmt:=top 12
theorem En:az ["row"] ["row"] (aq Be):=by walk_at "s"
noncomputable def EL (r:Row):Bool:=decide (r.2.2.2≠r.2.1) && decide (r.2.2.2≠r.2.2.1)
noncomputable def vn:Sp:=fun vs H Q _=>∃ (a:Addr) (r:Row),vs=[.ref a]/\H a=some (.tup (eF r))/\Q (.bl (EL r)) H
theorem Br {f:Addr}{fd:FuncData} (F:cG K "is_changed_from_both" "is_changed_from_both" Be f fd):aS P w K mg base aQ 1 f fd ["row"] vn:=by
 have sc:=En;walk_at "f"
 ·obtain⟨_,_,rfl,_⟩:=h
  rfl
 ·obtain⟨a,r,rfl,ha,k⟩:=h
  refine⟨_,(ao (aw (uP (g_ dS (aG (aH K) (pv 0) aj (fun _ _=>rfl)) (aG (aH K) (pv 0) aj (fun _ _=>rfl)) (aK _)) (qd (g_ dS (aG (aH K) (pv 0) aj (fun _ _=>rfl)) (aG (aH K) (pv 0) aj (fun _ _=>rfl)) (aK _)))))),?_⟩;walk_at "rd";obtain⟨n,x,y,z⟩:=r;have sq:cI K H a (eF (n,x,y,z)):=cI.of ha;refine⟨_,sq,oV z,rfl,_,sq,oV x,rfl,gL _ _,?_⟩;have e1:decide (oV z=oV x)=decide (z=x):=decide_eq_decide.mpr dW;have e2:decide (oV z=oV y)=decide (z=y):=decide_eq_decide.mpr dW;rw[e1];unfold EL at k;dsimp only at k
  by_cases q:z=x
  ·rw[if_neg (by simp[q])]
   have:(decide (z≠x) && decide (z≠y))=false:=by simp[q]
   rw[this] at k;exact k
  ·rw[if_pos (by simp[q])]
   refine⟨_,sq,oV z,rfl,_,sq,oV y,rfl,gL _ _,?_⟩;have:(decide (z≠x) && decide (z≠y))=!decide (z=y):=by simp[q]
   rw[this] at k;rw[e2];exact k
end
end
section
section
theorem uE {α:Type} (f:α->V) (hf:∀ a b,f a=f b->a=b):∀ {m m':List (Nm×α)},aP f m=aP f m'->m=m'
 | [],[],_=>rfl
 | [],_::_,h=>by cases h
 | _::_,[],h=>by cases h
 | (n,a)::m,(n',a')::m',h=>by
  have h:(Sum.inr (tx n),f a)::aP f m=(Sum.inr (tx n'),f a')::aP f m':=h;have h1:=(List.cons.inj h).1;have h2:=(List.cons.inj h).2;have e1:n=n':=ng.mp (Sum.inr.inj (congrArg Prod.fst h1));have e2:a=a':=hf _ _ (congrArg Prod.snd h1);rw[e1,e2,uE f hf h2]
theorem pR {CN:Addr}{H:Hp}{o:Option Addr}{v v':Option Nm}{nx nx':Nat->Option Addr} (h:cP CN H o v nx) (h':cP CN H o v' nx'):v=v'/\∀ c,nx c=nx' c:=by
 cases o with
 | none=>exact⟨h.1.trans h'.1.symm,fun c=>(h.2 c).trans (h'.2 c).symm⟩
 | some a =>
  obtain⟨dx,d,kvs,h1,h2,h3⟩:=h;obtain⟨dx',d',kvs',h1',h2',h3'⟩:=h';rw[h1] at h1';have e:=(HO.ins.inj (Option.some.inj h1')).2.2;have ev:=congrArg (fun fs=>fs.lookup ("value":Str)) e;have eb:=congrArg (fun fs=>fs.lookup ("branches":Str)) e;simp only[eC,cE,Option.some.injEq,V.ref.injEq] at ev eb;subst eb;rw[h2] at h2';have ek:=uE V.ref (fun a b z=>V.ref.inj z) (HO.dK.inj (Option.some.inj h2'));subst ek;exact⟨dW.mp ev,fun c=>(h3.to c).symm.trans (h3'.to c)⟩
theorem qY {CN:Addr}{H:Hp}{m m':Mp}{g g':Nm->Option Addr} (T:Tree CN H m g) (T':Tree CN H m' g') {b:Nm} (e:g b=g' b):∀ s,g (b++s)=g' (b++s):=by
 intro s
 induction s generalizing b with
 | nil=>rw[List.append_nil];exact e
 | cons c s ih =>
  have h1:=(T b).1;have h2:=(T' b).1;rw[<- e] at h2;have:=ih (b:=b++[c]) ((pR h1 h2).2 c);rw[List.append_assoc] at this;exact this
theorem pF {CN:Addr}{H:Hp}{m m':Mp}{g g':Nm->Option Addr} (T:Tree CN H m g) (T':Tree CN H m' g') {b n:Nm} (e:g b=g' b) (hn:b <+: n):ak m n=ak m' n:=by
 obtain⟨s,rfl⟩:=hn;have q:=qY T T' e s;have h1:=(T (b++s)).1;have h2:=(T' (b++s)).1;rw[<- q] at h2;exact (pR h1 h2).1
theorem qZ {CN:Addr}{H:Hp}{mb mo mt:Mp}{gB gO gT:Nm->Option Addr} (Tr:vO CN H mb mo mt gB gO gT) {b:Nm} (h:Cu gB gO gT b=true):under (cc mb mo mt) b=[]:=by
 refine List.eq_nil_iff_forall_not_mem.mpr fun n hn=>?_;obtain⟨h1,h2⟩:=dg.mp hn;obtain⟨q1,q2⟩:=dI.mp h1;unfold Cu at h;rcases Bool.or_eq_true_iff.mp h with z|z
 ·exact q1 (pF Tr.t Tr.b (of_decide_eq_true z) h2)
 ·exact q2 (pF Tr.t Tr.o (of_decide_eq_true z) h2)
structure yu (mo mt:Mp) (U:List Nm):Prop where
 len:U.length<=64
 lo:∀ u∈U,u.length<=90
 mem:∀ n,((ak mo n).isSome=true\/(ak mt n).isSome=true)->n∈U
noncomputable def oa (U:List Nm):List Nm:=[]::U.flatMap bD
theorem sP {mo mt:Mp}{U:List Nm} (h:yu mo mt U):(oa U).length<=6000:=by
 have go:∀ l:List Nm,(∀ u∈l,u.length<=90)->(l.flatMap bD).length<=91 * l.length:=fun l=>by
  induction l with
  | nil=>intro _;exact Nat.le_refl _
  | cons a l ih =>
   intro h;rw[List.flatMap_cons,List.length_append,gX,List.length_cons];have:=ih fun u hu=>h u (List.mem_cons_of_mem _ hu);have:=h a List.mem_cons_self;omega
 have:=go U h.lo;have:=h.len;unfold oa;rw[List.length_cons];omega
theorem mM {mo mt:Mp}{U:List Nm} (h:yu mo mt U) {b:Nm} (hb:n_ mo b\/n_ mt b):b∈oa U:=by
 unfold oa;refine List.mem_cons_of_mem _ (List.mem_flatMap.mpr ?_);rcases hb with ⟨j,hj,p⟩|⟨j,hj,p⟩
 ·exact⟨j,h.mem j (.inl hj),eR.mpr p⟩
 ·exact⟨j,h.mem j (.inr hj),eR.mpr p⟩
theorem mq {mo mt:Mp}{U:List Nm} (h:yu mo mt U) {b:Nm} (hb:b∈oa U):b.length<=90:=by
 unfold oa at hb;rcases List.mem_cons.mp hb with z|z
 ·rw[z];exact Nat.zero_le _
 ·obtain⟨u,hu,q⟩:=List.mem_flatMap.mp z
  have:=(eR.mp q).length_le;have:=h.lo u hu;omega
theorem lY {mb mo mt:Mp}{U:List Nm} (h:yu mo mt U) (h1:aB mb) (h3:aB mt):(cc mb mo mt).length<=64:=by
 have nd:(cc mb mo mt).Nodup:=by
  rw[List.nodup_iff_pairwise_ne];exact (kf h1 h3).imp fun {a b} h (e:a=b)=>List.lt_irrefl b (e ▸ h)
 refine Nat.le_trans (eY nd (u:=U) fun n hn=>h.mem n ?_) h.len;have:=(dI.mp hn).2
 cases e1:ak mo n with
 | some _=>exact .inl rfl
 | none =>
  cases e2:ak mt n with
  | some _=>exact .inr rfl
  | none=>rw[e1,e2] at this;exact absurd rfl this
structure vm (mb mo mt:Mp) (U:List Nm) (gO gT:Nm->Option Addr) (done bs:List Nm) (M:Nat):Prop where
 all:cc mb mo mt=done++(bs.reverse.flatMap fun b=>under (cc mb mo mt) b)
 inB:∀ b∈bs,b∈oa U
 sum:(bs.map fun b=>cnt (oa U) b).sum=M
 le:M<=(oa U).length
theorem rM {U:List Nm}:∀ (bs:List Nm),(∀ b∈bs,b∈oa U)->bs.length<=(bs.map fun b=>cnt (oa U) b).sum
 | [],_=>Nat.le_refl _
 | b::bs,h=>by
  rw[List.map_cons,List.sum_cons,List.length_cons];have:=rM bs fun x hx=>h x (List.mem_cons_of_mem _ hx);have:=nU (h b List.mem_cons_self);omega
theorem yP {mb mo mt:Mp}{U:List Nm}{gO gT:Nm->Option Addr}{done bs:List Nm}{b:Nm}{M:Nat} (S:vm mb mo mt U gO gT done (bs++[b]) M) (h:under (cc mb mo mt) b=[]):∃ M',M'<M/\vm mb mo mt U gO gT done bs M':=by
 refine⟨(bs.map fun b=>cnt (oa U) b).sum,?_,?_,fun x hx=>S.inB x (List.mem_append_left _ hx),rfl,?_⟩
 ·have:=S.sum
  rw[List.map_append,List.sum_append,List.map_singleton,List.sum_singleton] at this;have:=nU (S.inB b (List.mem_append_right _ (List.mem_singleton.mpr rfl)));omega
 ·have:=S.all
  rw[List.reverse_append,List.reverse_singleton,List.singleton_append,List.flatMap_cons,h,List.nil_append] at this;exact this
 ·have:=S.sum
  have:=S.le;rw[List.map_append,List.sum_append] at *;omega
theorem rY {α:Type} (l:List α) (f:α->Nat):(l.reverse.map f).sum=(l.map f).sum:=by
 rw[List.map_reverse,List.sum_reverse]
theorem wm {CN:Addr}{H:Hp}{mb mo mt:Mp}{U:List Nm}{gB gO gT:Nm->Option Addr} (Tr:vO CN H mb mo mt gB gO gT) (hB:yu mo mt U) (h1:aB mb) (h3:aB mt) {done bs:List Nm}{b:Nm}{M:Nat} (S:vm mb mo mt U gO gT done (bs++[b]) M)
  {L:List Nat} (sL:L.Pairwise (·<·)) (mL:∀ c,c∈L↔(gO (b++[c])).isSome=true\/(gT (b++[c])).isSome=true) :
  ∃ M',M'<M/\vm mb mo mt U gO gT (done++(if b∈cc mb mo mt then [b] else [])) (bs++L.reverse.map fun c=>b++[c]) M':=by
 have hb:=S.inB b (List.mem_append_right _ (List.mem_singleton.mpr rfl));have nd:L.Nodup:=by
  rw[List.nodup_iff_pairwise_ne];exact sL.imp fun {a b} h=>Nat.ne_of_lt h
 have st:=kA hb nd;have sm:=S.sum;have le:=S.le;rw[List.map_append,List.sum_append,List.map_singleton,List.sum_singleton] at sm;have e:((bs++L.reverse.map fun c=>b++[c]).map fun b=>cnt (oa U) b).sum=(bs.map fun b=>cnt (oa U) b).sum+(L.map fun c=>cnt (oa U) (b++[c])).sum:=by
  rw[List.map_append,List.sum_append,List.map_map];congr 1;exact rY L _
 refine⟨_,?_,?_,fun x hx=>?_,rfl,?_⟩
 ·rw[e];omega
 ·have al:=S.all
  rw[List.reverse_append,List.reverse_singleton,List.singleton_append,List.flatMap_cons] at al;have us:=kz (kf h1 h3 (mo:=mo)) b L sL fun n hn c p=>by
   rw[mL,(Tr.o _).2,(Tr.t _).2];have:=(dI.mp hn).2
   cases e1:ak mo n with
   | some _=>exact .inl ⟨n,by rw[e1];rfl,p⟩
   | none =>
    cases e2:ak mt n with
    | some _=>exact .inr ⟨n,by rw[e2];rfl,p⟩
    | none=>rw[e1,e2] at this;exact absurd rfl this
  rw[us] at al;rw[List.reverse_append,<- List.map_reverse,List.reverse_reverse,List.flatMap_append,List.flatMap_map];rw[<- List.append_assoc] at al
  conv=>lhs;rw[al]
  simp only[List.append_assoc]
 ·rcases List.mem_append.mp hx with z|z
  ·exact S.inB x (List.mem_append_left _ z)
  ·obtain⟨c,hc,rfl⟩:=List.mem_map.mp z
   refine mM hB ?_;have:=(mL c).mp (List.mem_reverse.mp hc)
   rwa [(Tr.o _).2,(Tr.t _).2] at this
 ·rw[e];omega
noncomputable abbrev FK:Stmt:=top 13
noncomputable abbrev Hf:List Str:=["base","one","two","rows","opened","ahead","place"]
theorem EX:az Hf ["base","one","two"] (aq FK):=by walk_at "s"
noncomputable def gw (H:Hp) (rs:List Addr) (rows:List Row):Prop:=Paired (fun a row=>H a=some (.tup (eF row))) rs rows
noncomputable def zL (CN:Addr):Sp:=fun vs H Q _=>∃ (mb mo mt:Mp) (gB gO gT:Nm->Option Addr) (U:List Nm),vs=[pt (gB []),pt (gO []),pt (gT [])]/\vO CN H mb mo mt gB gO gT/\yu mo mt U/\aB mb/\aB mt /\
 ∀ (p r:Addr) (rs:List Addr) (k:Nat) H',H' p=some (.tup [.ref r,nV k])->H' r=some (.lst (rs.map V.ref))->gw H' rs ((cc mb mo mt).map (eZ mb mo mt))->Kp H H' []->Q (.ref p) H'
structure Hm (CP:Addr) (H:Hp) (mb mo mt:Mp) (gB gO gT:Nm->Option Addr) (U:List Nm) (r q:Addr) (M:Nat) (σ:L2.St) (H2:Hp):Prop where
 ex:∃ (pl:Option V) (k:Nat) (rs ps:List Addr) (done bs:List Nm),σ=[some (pt (gB [])),some (pt (gO [])),some (pt (gT [])),some (.ref r),some (nV k),some (.ref q),pl]/\H2 r=some (.lst (rs.map V.ref))/\gw H2 rs (done.map (eZ mb mo mt)) /\
  H2 q=some (.lst (ps.map V.ref))/\Paired (fun a b=>eK CP H2 a gB gO gT b) ps bs/\vm mb mo mt U gO gT done bs M
 kp:Kp H H2 []
 hr:H r=none
 hq:H q=none
 ne:r≠q
theorem iz {H:Hp}{rs:List Addr}{rows:List Row} (h:gw H rs rows) {p:Addr}{xs:List V} (hp:H p=some (.lst xs)) (o:HO):gw (upd H p o) rs rows:=Paired.imp' (fun a row x=>by rw[ah (bO x hp (by intro z;cases z))];exact x) h
theorem d_ {H H':Hp}{rs:List Addr}{rows:List Row} (h:gw H rs rows) (k:Kp H H' []):gw H' rs rows:=Paired.imp' (fun a row x=>k _ _ x (by simp)) h
theorem mG {CP:Addr}{gB gO gT:Nm->Option Addr}{H:Hp}{ps:List Addr}{bs:List Nm} (h:Paired (fun a b=>eK CP H a gB gO gT b) ps bs) {p:Addr}{xs:List V} (hp:H p=some (.lst xs)) (o:HO):Paired (fun a b=>eK CP (upd H p o) a gB gO gT b) ps bs :=
 Paired.imp' (fun a b ⟨dx,x⟩=>⟨dx,by rw[ah (bO x hp (by intro z;cases z))];exact x⟩) h
theorem qF {CP:Addr}{gB gO gT:Nm->Option Addr}{H H':Hp}{ps:List Addr}{bs:List Nm} (h:Paired (fun a b=>eK CP H a gB gO gT b) ps bs) (k:Kp H H' []):Paired (fun a b=>eK CP H' a gB gO gT b) ps bs:=Paired.imp' (fun a b x=>x.kp k) h
theorem eG {α β:Type}{R:α->β->Prop}:∀ {l:List α}{r:List β}{b:β},Paired R l (r++[b])->∃ l' a,l=l'++[a]/\Paired R l' r/\R a b
 | _,[],b,.cons h .nil=>⟨[],_,rfl,.nil,h⟩
 | _,x::r,b,.cons h t=>by
  obtain⟨l',a,e,p,q⟩:=eG t;exact⟨_::l',a,by rw[e];rfl,.cons h p,q⟩
theorem gF {α β:Type}{R:α->β->Prop}:∀ {l l':List α}{r r':List β},Paired R l r->Paired R l' r'->Paired R (l++l') (r++r')
 | _,_,_,_,.nil,h=>h
 | _,_,_,_,.cons a q,h=>.cons a (gF q h)
theorem gG {α β γ:Type}{R:α->β->Prop} (f:γ->β):∀ {l:List α}{r:List γ},Paired (fun a c=>R a (f c)) l r->Paired R l (r.map f)
 | _,_,.nil=>.nil
 | _,_,.cons a q=>.cons a (gG f q)
theorem C6 {f CN CP:Addr}{fd:FuncData} (B:Bl mg) (n_Place:gg P w K mg base 5 "Place" CP tV (se CP)) (m_Place_is_shared:cz P w K mg base aQ 6 CP "is_shared" ["self"] (zY CN CP)) (m_Place_row:cz P w K mg base aQ 6 CP "row" ["self"] (vN CN CP))
  (m_Place_places_behind:cz P w K mg base aQ 6 CP "places_behind" ["self"] (uX CN CP)) (cis_changed_from_both:bM P w K mg base aQ 6 "is_changed_from_both" ["row"] vn) (F:cG K "rows_apart" "rows_apart" FK f fd):aS P w K mg base aQ 7 f fd ["base","one","two"] (zL CN):=by
 have sc:=EX;walk_at "f"
 ·obtain⟨_,_,_,_,_,_,_,rfl,_⟩:=h
  rfl
 ·obtain⟨mb,mo,mt,gB,gO,gT,U,rfl,Tr,hB,n1,n3,k⟩:=h
  have hs:=sizeLine_eq;refine⟨_,(af (au (i:=3) sc.nd rfl (by walk_at "o") (aT ae))
   (af (au (i:=4) sc.nd rfl (by walk_at "o") aj)
   (af (au (i:=5) sc.nd rfl (by walk_at "o") (aT (ag (oh n_Place hr (ag ar (ag (pv 0) (ag (pv 1) (ag (pv 2) ae))))) ae)))
   (af (km PassesOwn.never (aF vK (br (bc K) rfl B.len boot_len (ag (pv 5) ae)) aj (aK _)) (af (au (i:=6) sc.nd rfl (by walk_at "o") (js K PySem.F.plainAttrs_list PySem.F.slot_list_pop PySem.F.type_list_pop nu (pv 5)))
    (af (eE (a_ (cK (nI m_Place_is_shared hr eB (pv 6))) (ao pS) aJ))
    (af (vX (i:=4) sc.nd rfl (by walk_at "o") aj uA)
    (af (eE (a_ (cK (bh cis_changed_from_both hr (ag (nI m_Place_row hr eB (pv 6)) ae))) (ao (ba (dF K PySem.F.plainAttrs_list PySem.F.slot_list_append PySem.F.type_list_append bf (pv 3) (ag (nI m_Place_row hr eB (pv 6)) ae)))) aJ))
    (ao (ba (dF K PySem.F.plainAttrs_list PySem.F.slot_list_extend PySem.F.type_list_extend fX (pv 5) (ag (nI m_Place_places_behind hr eB (pv 6)) ae)))))))))
   (ao (aw (bH (ag (pv 3) (ag (pv 4) ae))))))))),?_⟩
  walk_at "rd";refine⟨by omega,fun r hr0 x dx nx ndx ne=>?_⟩;refine⟨x,dx,_,_,_,_,rfl,aa,fun H1 hx oth=>⟨rfl,by omega,fun q hq=>?_⟩⟩;have k0:Kp H (upd H r (.lst [])) []:=(Kp.refl H []).new hr0;have k1:Kp (upd H r (.lst [])) H1 []:=fun y o e _=>by
   rw[oth y (ai e nx),ah (ai e nx),ah (ai e ndx)];exact e
  have hr1:H1 r=some (.lst []):=k1 r _ aa (by simp);have k2:Kp H1 (upd H1 q (.lst [.ref x])) []:=(Kp.refl H1 []).new hq;have k3:=(k0.trans k1).trans k2;have rq:r≠q:=ai hr1 hq;have hr2:=k2 r _ hr1 (by simp);have hq0:H q=none:=(k0.trans k1).free hq (by simp);have hx2:eK CP (upd H1 q (.lst [.ref x])) x gB gO gT []:=⟨dx,k2 x _ hx (by simp)⟩;have hq2:(upd H1 q (.lst [.ref x])) q=some (.lst [.ref x]):=aa;generalize upd H1 q (.lst [.ref x])=H2 at k2 k3 hr2 hx2 hq2 ⊢;refine mw (fun m σ H'=>Hm CP H mb mo mt gB gO gT U r q m σ H') (cnt (oa U) []) ⟨⟨none,0,[],[x],[],[[]],rfl,hr2,.nil,hq2,.cons hx2 .nil,⟨?_,?_,?_,?_⟩⟩,k3,hr0,hq0,rq⟩ ?_ ?_
  ·rw[List.nil_append,List.reverse_singleton,List.flatMap_singleton]
   unfold under
   symm
   rw[List.filter_eq_self];intro a _
   rfl
  ·intro b hb
   rw[List.mem_singleton.mp hb];exact List.mem_cons_self
  ·rw[List.map_singleton,List.sum_singleton]
  ·unfold cnt
   exact List.length_filter_le _ _
  ·rintro M σ H3 ⟨⟨pl,kk,rs,ps,done,bs,rfl,h1,h2,h3,h4,S⟩,kp,_,_,_⟩
   walk_at "rd";rcases List.eq_nil_or_concat bs with rfl|⟨bs',b,rfl⟩
   ·cases h4
    refine⟨0,.inl ⟨_,aO.of h3,rfl⟩,?_⟩;rw[if_neg (by simp)];refine⟨by omega,fun p hp=>?_⟩;have k4:Kp H3 (upd H3 p (HO.tup [V.ref r,nV kk])) []:=(Kp.refl H3 []).new hp;have al:=S.all;rw[List.reverse_nil,List.flatMap_nil,List.append_nil] at al;exact k p r rs kk _ aa (k4 r _ h1 (by simp)) (by rw[al];exact d_ h2 k4) (kp.trans k4)
   ·rw[List.concat_eq_append] at h4 S
    obtain⟨ps',a,rfl,h4',pa⟩:=eG h4;refine⟨ps'.length+1,.inl ⟨_,aO.of h3,by simp⟩,?_⟩;rw[if_pos (by simp)];have em:(ps'++[a]).map V.ref=ps'.map V.ref++[.ref a]:=by rw[List.map_append];rfl
    rw[em] at h3;refine⟨.inl ⟨rfl,_,aO.of h3⟩,_,h3,V.ref a,by simp,?_⟩;rw[List.dropLast_concat];have k4:Kp H (upd H3 q (.lst (ps'.map V.ref))) []:=kp.new hq0;have f3:(upd H3 q (.lst (ps'.map V.ref))) q=some (.lst (ps'.map V.ref)):=aa;have f1:(upd H3 q (.lst (ps'.map V.ref))) r=some (.lst (rs.map V.ref)):=by rw[ah rq];exact h1
    have f2:=iz h2 h3 (.lst (ps'.map V.ref));have f4:=mG h4' h3 (.lst (ps'.map V.ref));have fa:eK CP (upd H3 q (.lst (ps'.map V.ref))) a gB gO gT b:=by
     obtain⟨dx,z⟩:=pa;exact⟨dx,by rw[ah (bO z h3 (by intro z;cases z))];exact z⟩
    generalize upd H3 q (.lst (ps'.map V.ref))=H4 at k4 f1 f2 f3 f4 fa ⊢;have Tr4:=Tr.kp k4;obtain⟨dxa,fa'⟩:=id fa;refine⟨fun σ' H'=>Cu gB gO gT b=false/\σ'=[some (pt (gB [])),some (pt (gO [])),some (pt (gT [])),some (.ref r),some (nV kk),some (.ref q),some (.ref a)]/\H'=H4,?_,?_⟩
    ·refine⟨a,rfl,dxa,_,fa',jz _ _ _ _ (by decide +kernel) (by decide +kernel) (by decide +kernel) (by decide +kernel),a,mb,mo,mt,gB,gO,gT,b,rfl,Tr4,fa,_,rfl,?_⟩
     cases sh:Cu gB gO gT b with
     | true =>
      obtain⟨M',lt,S'⟩:=yP S (qZ Tr sh);exact⟨M',lt,⟨some (.ref a),kk,rs,ps',done,bs',rfl,f1,f2,f3,f4,S'⟩,k4,hr0,hq0,rq⟩
     | false=>exact⟨rfl,rfl,rfl⟩
    ·rintro σ' H' ⟨sh,rfl,rfl⟩
     walk_at "rd";have alen:=lY hB n1 n3;have dlen:done.length<=64:=by
      have:=congrArg List.length S.all;rw[List.length_append] at this;omega
     have rl:rs.length=done.length:=by
      have:=aN f2
      rwa [List.length_map] at this
     refine⟨_,_,rfl,rfl,fun σ' H5=>σ'=[some (pt (gB [])),some (pt (gO [])),some (pt (gT [])),some (.ref r),some (nV (kk+1)),some (.ref q),some (.ref a)]/\∃ rs',H5 r=some (.lst (rs'.map V.ref))/\gw H5 rs' ((done++(if b∈cc mb mo mt then [b] else [])).map (eZ mb mo mt))/\H5 q=some (.lst (ps'.map V.ref))/\Paired (fun a b=>eK CP H5 a gB gO gT b) ps' bs'/\eK CP H5 a gB gO gT b/\Kp H H5 [],?_,?_⟩
     ·refine⟨dxa,_,fa',jz _ _ _ _ (by decide +kernel) (by decide +kernel) (by decide +kernel) (by decide +kernel),a,mb,mo,mt,gB,gO,gT,b,rfl,Tr4,fa,fun t1 ht1=>?_⟩
      have k5:Kp H' (upd H' t1 (.tup (eF (eZ mb mo mt b)))) []:=(Kp.refl H' []).new ht1;refine⟨t1,eZ mb mo mt b,rfl,aa,_,rfl,?_⟩;have ei:EL (eZ mb mo mt b)=decide (b∈cc mb mo mt):=by
       unfold EL eZ;rw[Bool.eq_iff_iff,Bool.and_eq_true,decide_eq_true_eq,decide_eq_true_eq,decide_eq_true_eq,dI]
      rw[ei];have g1:=k5 r _ f1 (by simp);have g2:=d_ f2 k5;have g3:=k5 q _ f3 (by simp);have g4:=qF f4 k5;have ga:=fa.kp k5;have k6:=k4.trans k5;generalize upd H' t1 (.tup (eF (eZ mb mo mt b)))=H5 at k5 g1 g2 g3 g4 ga k6 ⊢
      by_cases hin:b∈cc mb mo mt
      ·rw[if_pos (decide_eq_true hin)]
       obtain⟨dxb,gb⟩:=id ga;refine⟨.inl ⟨rfl,_,aO.of g1⟩,dxb,_,gb,jz _ _ _ _ (by decide +kernel) (by decide +kernel) (by decide +kernel) (by decide +kernel),a,mb,mo,mt,gB,gO,gT,b,rfl,Tr.kp k6,ga,fun t2 ht2=>?_⟩;have k7:Kp H5 (upd H5 t2 (.tup (eF (eZ mb mo mt b)))) []:=(Kp.refl H5 []).new ht2;have i1:=k7 r _ g1 (by simp);have i2:=d_ g2 k7;have i3:=k7 q _ g3 (by simp);have i4:=qF g4 k7;have ia:=ga.kp k7;have k8:=k6.trans k7;have it2:(upd H5 t2 (.tup (eF (eZ mb mo mt b)))) t2=some (.tup (eF (eZ mb mo mt b))):=aa;generalize upd H5 t2 (.tup (eF (eZ mb mo mt b)))=H6 at k7 i1 i2 i3 i4 ia k8 it2 ⊢;refine⟨_,i1,by rw[List.length_map];omega,rfl,rs++[t2],?_,?_,?_,mG i4 i1 _,?_,k8.new hr0⟩
       ·rw[aa,List.map_append];rfl
       ·rw[if_pos hin,List.map_append]
        exact iz (aZ i2 it2) i1 _
       ·rw[ah rq.symm];exact i3
       ·obtain⟨dxc,ic⟩:=ia
        exact⟨dxc,by rw[ah (bO ic i1 (by intro z;cases z))];exact ic⟩
      ·rw[if_neg (by simp[hin])]
       exact⟨rfl,rs,g1,by rw[if_neg hin,List.append_nil];exact g2,g3,g4,ga,k6⟩
     ·rintro σ' H5 ⟨rfl,rs',g1,g2,g3,g4,ga,k6⟩
      walk_at "rd";obtain⟨dxb,gb⟩:=id ga;have bl:=mq hB (S.inB b (List.mem_append_right _ (List.mem_singleton.mpr rfl)));refine⟨.inl ⟨rfl,_,aO.of g3⟩,dxb,_,gb,jz _ _ _ _ (by decide +kernel) (by decide +kernel) (by decide +kernel) (by decide +kernel),a,mb,mo,mt,gB,gO,gT,b,rfl,Tr.kp k6,ga,by omega,fun q2 L ps2 H7 sL mL hq2 hpr k7=>?_⟩;obtain⟨M',lt,S'⟩:=wm Tr hB n1 n3 S sL mL;have i1:=k7 r _ g1 (by simp);have i3:=k7 q _ g3 (by simp);have ln:=rM _ S'.inB;rw[S'.sum] at ln;have le:=S'.le;have bl2:=sP hB;have lp2:=aN hpr;have lp1:=aN g4;have l1:(bs'++L.reverse.map fun c=>b++[c]).length=ps'.length+ps2.length:=by rw[List.length_append,List.length_map,<- lp2,<- lp1]
      refine⟨q2,rfl,_,i3,_,hq2,by rw[List.length_map,List.length_map];omega,M',lt,⟨some (.ref a),kk+1,rs',ps'++ps2,_,_,rfl,?_,iz (d_ g2 k7) i3 _,?_,?_,S'⟩,(k6.trans k7).new hq0,hr0,hq0,rq⟩
      ·rw[ah rq];exact i1
      ·rw[aa,List.map_append]
      ·exact mG (gF (qF g4 k7) (gG (fun c=>b++[c]) hpr)) i3 _
  ·intro σ H2 Q1 Q2 mono h
   revert h;walk_at "rd";rintro ⟨v,e1,n,e2,z⟩;exact⟨v,e1,n,e2,mono _ _ z⟩
end
end
section
section
variable {B0 newId initId:String}{bmB:List Value}
noncomputable abbrev Gr:Stmt:=top 14
theorem Fp:az ["base","one","two"] ["base","one","two"] (aq Gr):=by walk_at "s"
noncomputable def Az (CN:Addr):Sp:=fun vs H Q _=>∃ (mb mo mt:Mp) (gB gO gT:Nm->Option Addr) (U:List Nm),vs=[pt (gB []),pt (gO []),pt (gT [])]/\vO CN H mb mo mt gB gO gT/\yu mo mt U/\aB mb/\aB mt /\
 ∀ (r:Addr) (rs:List Addr) H',H' r=some (.lst (rs.map V.ref))->gw H' rs ((cc mb mo mt).map (eZ mb mo mt))->Kp H H' []->Q (.ref r) H'
theorem DZ {f CN:Addr}{fd:FuncData} (crows_apart:bM P w K mg base aQ 8 "rows_apart" ["base","one","two"] (zL CN)) (F:cG K "rows_to_join" "rows_to_join" Gr f fd):aS P w K mg base aQ 9 f fd ["base","one","two"] (Az CN):=by
 have sc:=Fp;walk_at "f"
 ·obtain⟨_,_,_,_,_,_,_,rfl,_⟩:=h
  rfl
 ·obtain⟨mb,mo,mt,gB,gO,gT,U,rfl,Tr,hB,n1,n3,k⟩:=h
  refine⟨_,(ao (aw (aG (aH K) (bh crows_apart hr (ag (pv 0) (ag (pv 1) (ag (pv 2) ae)))) aj (fun _ _=>rfl)))),?_⟩;walk_at "rd";refine⟨mb,mo,mt,gB,gO,gT,U,rfl,Tr,hB,n1,n3,fun p r rs kk H' h1 h2 h3 h4=>?_⟩;exact⟨p,rfl,_,cI.of h1,_,rfl,k r rs H' h2 h3 h4⟩
noncomputable def ET (r p m:V):List (Str×V):=cy "made" m (cy "parent" p (cy "root" r []))
theorem yY:¬ (("root":Str)="made")/\¬ (("root":Str)="parent")/\¬ (("parent":Str)="made"):=by decide +kernel
theorem wc (r p m:V):(ET r p m).lookup ("root":Str)=some r:=by
 unfold ET;rw[aD,if_neg yY.1,aD,if_neg yY.2.1,aD,if_pos rfl]
structure Gk (K:PySem.W.Frag) (CV:Addr):Prop where
 cl:p_ K CV
 nr:bB K CV "root"
 np:bB K CV "parent"
 nm:bB K CV "made"
noncomputable abbrev Bw:Stmt:=(inClass (top 30) 0)
noncomputable abbrev tO:List Str:=["self","root","parent","made"]
theorem CS:az tO tO (aq Bw):=by walk_at "s"
noncomputable def rZ (CV:Addr):Sp:=fun vs H Q _=>∃ (x dx:Addr) (r p m:V),vs=[.ref x,r,p,m]/\H x=some (.ins CV dx [])/\∀ H',H' x=some (.ins CV dx (ET r p m))->(∀ b,b≠x->H' b=H b)->Q .non H'
theorem Bb {f CV:Addr}{fd:FuncData} (T:Gk K CV) (F:cG K "__init__" "Version.__init__" Bw f fd):aS P w K mg base aQ 1 f fd tO (rZ CV):=by
 have sc:=CS;walk_at "f"
 ·obtain⟨_,_,_,_,_,rfl,_⟩:=h
  rfl
 ·obtain⟨x,dx,r,p,m,rfl,hx,k⟩:=h
  refine⟨_,(af (dU (pv 0) (pv 1) rfl)
   (af (dU (pv 0) (pv 2) rfl)
   (ao (dU (pv 0) (pv 3) rfl)))),?_⟩
  walk_at "rd";refine⟨CV,dx,[],hx,T.cl,T.nr,by decide,CV,dx,_,aa,T.cl,T.np,(by show 1<1000;decide),CV,dx,_,aa,T.cl,T.nm,rT _ _ _ _,?_⟩;exact k _ aa fun b hb=>by rw[ah hb,ah hb,ah hb]
noncomputable def xi (v a:V):List (Str×V):=cy "answers" a (cy "versions" v [])
theorem Er:¬ (("versions":Str)="answers"):=by decide +kernel
theorem dB (v a:V):(xi v a).lookup ("versions":Str)=some v:=by
 unfold xi;rw[aD,if_neg Er,aD,if_pos rfl]
theorem iP (v a:V):(xi v a).lookup ("answers":Str)=some a:=by
 unfold xi;rw[aD,if_pos rfl]
theorem dY (v a:V) {m:Str} (h1:¬ m="answers") (h2:¬ m="versions"):(xi v a).lookup m=none:=by
 unfold xi;rw[aD,if_neg h1,aD,if_neg h2]
 rfl
structure Cm (K:PySem.W.Frag) (CB:Addr):Prop where
 cl:p_ K CB
 nv:bB K CB "versions"
 na:bB K CB "answers"
structure fj where
 m:Mp
 g:Nm->Option Addr
 p:Option Nat
 k:Nat
noncomputable def iW (CN CV:Addr) (H:Hp) (a:Addr) (v:fj):Prop:=(∃ dx,H a=some (.ins CV dx (ET (pt (v.g [])) (pV v.p) (nV v.k))))/\Tree CN H v.m v.g
theorem iW.kp {CN CV:Addr}{H H':Hp}{a:Addr}{v:fj} (h:iW CN CV H a v) (k:Kp H H' []):iW CN CV H' a v:=let ⟨⟨dx,h⟩,t⟩:=h;⟨⟨dx,k _ _ h (by simp)⟩,t.kp k⟩
structure gj (CN CV CB:Addr) (H:Hp) (bk vl al:Addr) (vs:List fj) (as:List V):Prop where
 ob:∃ dx,H bk=some (.ins CB dx (xi (.ref vl) (.ref al)))
 ve:∃ vas:List Addr,H vl=some (.lst (vas.map V.ref))/\Paired (fun a v=>iW CN CV H a v) vas vs
 an:H al=some (.lst as)
 ne:vl≠al
noncomputable abbrev Ad:Stmt:=(inClass (top 31) 0)
theorem Ei:az ["self"] ["self"] (aq Ad):=by walk_at "s"
noncomputable def V0:fj:=⟨[],fun _=>none,none,0⟩
noncomputable def wA (CN CV CB:Addr):Sp:=fun vs H Q _=>∃ (x dx:Addr),vs=[.ref x]/\H x=some (.ins CB dx [])/\∀ (vl al:Addr) H',gj CN CV CB H' x vl al [V0] []->H vl=none->H al=none->(∀ b o,b≠x->H b=some o->H' b=some o)->Q .non H'
theorem vL {CN:Addr}{H:Hp}:Tree CN H [] (fun _=>none):=fun b=>⟨⟨rfl,fun _=>rfl⟩,by
 constructor
 ·intro h;cases h
 ·rintro ⟨j,hj,_⟩;cases hj⟩
theorem Ah {f CN CV CB:Addr}{fd:FuncData} (G_EMPTY:mg "EMPTY"=some Value.none) (n_Version:gg P w K mg base 1 "Version" CV tO (rZ CV)) (T:Cm K CB) (F:cG K "__init__" "Book.__init__" Ad f fd):aS P w K mg base aQ 3 f fd ["self"] (wA CN CV CB):=by
 have sc:=Ei;walk_at "f"
 ·obtain⟨_,_,rfl,_⟩:=h
  rfl
 ·obtain⟨x,dx,rfl,hx,k⟩:=h
  have hs:=sizeLine_eq;refine⟨_,(af (dU (pv 0) (aT (ag (oh n_Version hr (ag (xB (v:=.non) rfl G_EMPTY rfl) (ag fP (ag aj ae)))) ae)) rfl)
   (ao (dU (pv 0) (aT ae) rfl))),?_⟩
  walk_at "rd";intro v0 dxv nv ndv nev;refine⟨v0,dxv,_,_,_,rfl,aa,fun H1 hv oth=>⟨rfl,by omega,fun vl hvl=>?_⟩⟩;have kp1:Kp H H1 []:=fun b o e _=>by
   rw[oth b (ai e nv),ah (ai e nv),ah (ai e ndv)];exact e
  have hx1:=kp1 x _ hx (by simp);have xvl:x≠vl:=ai hx1 hvl;have vvl:v0≠vl:=ai hv hvl;have xv:x≠v0:=ai hx nv;refine⟨CB,dx,[],(by rw[ah xvl];exact hx1),T.cl,T.nv,by decide,by omega,fun al hal=>?_⟩;have xal:x≠al:=fun z=>by rw[z,aa] at hal;cases hal
  rw[ah xal.symm] at hal;have vlal:vl≠al:=fun z=>by rw[z,aa] at hal;cases hal
  rw[ah vlal.symm] at hal;have val:v0≠al:=ai hv hal;refine⟨CB,dx,_,(by rw[ah xal];exact aa),T.cl,T.na,(by show 1<1000;decide),?_⟩;refine k vl al _ ⟨⟨dx,aa⟩,⟨[v0],?_,.cons ⟨⟨dxv,?_⟩,vL⟩ .nil⟩,?_,vlal⟩ (kp1.free hvl (by simp)) (kp1.free hal (by simp)) fun b o hb e=>?_
  ·rw[ah xvl.symm,ah vlal,ah xvl.symm,aa];rfl
  ·rw[ah xv.symm,ah val,ah xv.symm,ah vvl];exact hv
  ·rw[ah xal.symm,aa]
  ·have e1:=kp1 b o e (by simp)
   rw[ah hb,ah (ai e1 hal),ah hb,ah (ai e1 hvl)];exact e1
noncomputable abbrev zD:Stmt:=(inClass (top 31) 1)
theorem Et:az ["self","number"] ["self","number"] (aq zD):=by walk_at "s"
noncomputable def bJ (n:Nat) (i:Int):Bool:=decide (i<0) || decide ((n:Int)<=i)
noncomputable def uN (CN CV CB CNV:Addr):Sp:=fun vs H Q E=>∃ (bk vl al:Addr) (ves:List fj) (as:List V) (i:Int),vs=[.ref bk,.int i]/\gj CN CV CB H bk vl al ves as/\ves.length<=1000/\(bJ ves.length i=true->∀ H',Kp H H' []->E (.ref CNV) none H') /\
 (bJ ves.length i=false->∀ (a:Addr) (v:fj),ves[i.toNat]?=some v->iW CN CV H a v->Q (.ref a) H)
theorem iQ {α β:Type}{R:α->β->Prop}:∀ {xs:List α}{ys:List β},Paired R xs ys->∀ {i:Nat}{y:β},ys[i]?=some y->∃ x,xs[i]?=some x/\R x y
 | _,_,.nil,i,x,h=>by cases i <;> cases h
 | _,_,.cons h t,0,x,e=>⟨_,rfl,by cases e;exact h⟩
 | _,_,.cons h t,i+1,x,e=>iQ t (i:=i) e
theorem AN {f CN CV CB CNV:Addr}{fd:FuncData} (B:Bl mg) (O_NoVersion:OwnCls "NoVersion" CNV bmB newId mg base) (FB:ExcBaseFacts B0 newId initId bmB) (T:Cm K CB) (F:cG K "version_at" "Book.version_at" zD f fd):aS P w K mg base (fu P w) 1 f fd ["self","number"] (uN CN CV CB CNV):=by
 have sc:=Et;refine F.Bo sc (fun vs H Q E h=>?_) (fun cdv A outer s H vs Q E hr h=>?_)
 ·obtain⟨_,_,_,_,_,_,rfl,_⟩:=h
  rfl
 ·obtain⟨bk,vl,al,ves,as,i,rfl,⟨⟨dx,hb⟩,⟨vas,hv,hp⟩,ha,ne⟩,hl,kb,kg⟩:=h
  have hs:=sizeLine_eq;have lv:=aN hp;refine⟨_,(af (a_ (PW.pt (hJ (aF oS (pv 1) aj (aK _)) (fU (aF za (pv 1) (br (bc K) rfl B.len boot_len (ag (aX K (pv 0) rfl) ae)) (aK _))))) (ao (pb O_NoVersion FB rfl lz (ag ar ae))) aJ)
   (ao (aw (aG (aI K) (aX K (pv 0) rfl) (pv 1) (fun _ _=>rfl))))),?_⟩
  walk_at "rd"
  by_cases c1:i<0
  ·rw[if_pos (decide_eq_true c1)]
   exact⟨by omega,kb (by unfold bJ;simp[c1]) H (Kp.refl _ _)⟩
  ·rw[if_neg (by simp[c1])]
   refine⟨CB,dx,_,hb,T.cl,T.nv,_,dB _ _,vas.length,.inl ⟨_,aO.of hv,by rw[List.length_map]⟩,?_⟩
   by_cases c2:(vas.length:Int)<=i
   ·rw[if_pos (decide_eq_true c2)]
    exact⟨by omega,kb (by unfold bJ;rw[lv] at c2;simp[c2]) H (Kp.refl _ _)⟩
   ·rw[if_neg (by simp[c2])]
    have hi:i.toNat<ves.length:=by omega
    obtain⟨a,ea,va⟩:=iQ hp (i:=i.toNat) (y:=ves[i.toNat]) (by simp[hi]);have ei:i=((i.toNat:Nat):Int):=by omega
    refine⟨CB,dx,_,hb,T.cl,T.nv,_,dB _ _,vl,rfl,_,aO.of hv,.ref a,?_,kg (by rw[lv] at c2;unfold bJ;simp[c1,c2]) a ves[i.toNat] (by simp[hi]) va⟩;rw[ei];exact bX (by rw[List.getElem?_map,ea];rfl)
noncomputable abbrev AD:Stmt:=(inClass (top 31) 2)
theorem Dv:az ["self","number"] ["self","number"] (aq AD):=by walk_at "s"
noncomputable def lE (CN CV CB CNV:Addr):Sp:=fun vs H Q E=>∃ (bk vl al:Addr) (ves:List fj) (as:List V) (i:Int),vs=[.ref bk,.int i]/\gj CN CV CB H bk vl al ves as/\ves.length<=1000/\(bJ ves.length i=true->∀ H',Kp H H' []->E (.ref CNV) none H') /\
 (bJ ves.length i=false->∀ (v:fj),ves[i.toNat]?=some v->Tree CN H v.m v.g->Q (pt (v.g [])) H)
theorem AS {f CN CV CB CNV:Addr}{fd:FuncData} (m_Book_version_at:cz P w K mg base (fu P w) 2 CB "version_at" ["self","number"] (uN CN CV CB CNV)) (T:Gk K CV) (F:cG K "root_at" "Book.root_at" AD f fd):aS P w K mg base (fu P w) 3 f fd ["self","number"] (lE CN CV CB CNV):=by
 have sc:=Dv;refine F.Bo sc (fun vs H Q E h=>?_) (fun cdv A outer s H vs Q E hr h=>?_)
 ·obtain⟨_,_,_,_,_,_,rfl,_⟩:=h
  rfl
 ·obtain⟨bk,vl,al,ves,as,i,rfl,B,hl,kb,kg⟩:=h
  refine⟨_,(ao (aw (aX K (dn m_Book_version_at hr cm (pv 0) (ag (pv 1) ae)) rfl))),?_⟩;walk_at "rd";obtain⟨dx,hb⟩:=id B.ob;refine⟨dx,_,hb,dY _ _ (by decide +kernel) (by decide +kernel),bk,vl,al,ves,as,i,rfl,B,hl,kb,fun e a v hv va=>?_⟩;obtain⟨⟨dxa,ha⟩,t⟩:=va;exact⟨a,rfl,CV,dxa,_,ha,T.cl,T.nr,_,wc _ _ _,kg e v hv t⟩
noncomputable abbrev uW:Stmt:=(inClass (top 31) 4)
noncomputable abbrev lL:List Str:=["self","root","parent","made"]
theorem z_:az lL lL (aq uW):=by walk_at "s"
noncomputable def mZ (CN CV CB:Addr):Sp:=fun vs H Q _=>∃ (bk vl al:Addr) (ves:List fj) (as:List V) (v:fj),vs=[.ref bk,pt (v.g []),pV v.p,nV v.k]/\gj CN CV CB H bk vl al ves as/\ves.length<=1000/\Tree CN H v.m v.g /\
 ∀ H',gj CN CV CB H' bk vl al (ves++[v]) as->Kp H H' [vl]->Q (nV ves.length) H'
theorem Tree.put {CN:Addr}{H:Hp}{m:Mp}{g:Nm->Option Addr} (T:Tree CN H m g) {p:Addr}{xs:List V} (hp:H p=some (.lst xs)) (o:HO):Tree CN (upd H p o) m g:=fun b=>⟨(T b).1.put hp o,(T b).2⟩
theorem iW.put {CN CV:Addr}{H:Hp}{a:Addr}{v:fj} (h:iW CN CV H a v) {p:Addr}{xs:List V} (hp:H p=some (.lst xs)) (o:HO):iW CN CV (upd H p o) a v:=let ⟨⟨dx,h⟩,t⟩:=h;⟨⟨dx,by rw[ah (bO h hp (by intro z;cases z))];exact h⟩,t.put hp o⟩
theorem gj.kp {CN CV CB:Addr}{H H':Hp}{bk vl al:Addr}{ves:List fj}{as:List V} (h:gj CN CV CB H bk vl al ves as) (k:Kp H H' []):gj CN CV CB H' bk vl al ves as:=by
 obtain⟨⟨dx,h1⟩,⟨vas,h2,h3⟩,h4,h5⟩:=h;exact⟨⟨dx,k _ _ h1 (by simp)⟩,⟨vas,k _ _ h2 (by simp),Paired.imp' (fun a v x=>x.kp k) h3⟩,k _ _ h4 (by simp),h5⟩
theorem xE {f CN CV CB:Addr}{fd:FuncData} (B:Bl mg) (n_Version:gg P w K mg base 1 "Version" CV tO (rZ CV)) (T:Cm K CB) (F:cG K "keep" "Book.keep" uW f fd):aS P w K mg base aQ 3 f fd lL (mZ CN CV CB):=by
 have sc:=z_;walk_at "f"
 ·obtain⟨_,_,_,_,_,_,rfl,_⟩:=h
  rfl
 ·obtain⟨bk,vl,al,ves,as,v,rfl,Bk,hl,Tv,k⟩:=h
  have hs:=sizeLine_eq;refine⟨_,(af (ba (dF K PySem.F.plainAttrs_list PySem.F.slot_list_append PySem.F.type_list_append bf (aX K (pv 0) rfl) (ag (oh n_Version hr (ag (pv 1) (ag (pv 2) (ag (pv 3) ae)))) ae)))
   (ao (aw (aA fc (br (bc K) rfl B.len boot_len (ag (aX K (pv 0) rfl) ae)) aj)))),?_⟩
  walk_at "rd";obtain⟨⟨dx,hb⟩,⟨vas,hv,hp⟩,ha,ne⟩:=id Bk;have lv:=aN hp;refine⟨CB,dx,_,hb,T.cl,T.nv,_,dB _ _,.inl ⟨rfl,_,aO.of hv⟩,fun v0 dxv nv ndv nev=>?_⟩;refine⟨v0,dxv,_,_,_,rfl,aa,fun H1 hv0 oth=>⟨rfl,?_⟩⟩;have kp1:Kp H H1 []:=fun b o e _=>by
   rw[oth b (ai e nv),ah (ai e nv),ah (ai e ndv)];exact e
  have Bk1:=Bk.kp kp1;have hb1:=kp1 _ _ hb (by simp);have hv1:=kp1 _ _ hv (by simp);have ha1:=kp1 _ _ ha (by simp);have hb2:(upd H1 vl (.lst (vas.map V.ref++[.ref v0]))) bk=some (.ins CB dx (xi (.ref vl) (.ref al))):=by rw[ah (bO hb1 hv1 (by intro z;cases z))];exact hb1
  have e2:vas.map V.ref++[.ref v0]=(vas++[v0]).map V.ref:=by rw[List.map_append];rfl
  refine⟨vl,rfl,_,hv1,by rw[List.length_map];omega,?_⟩;refine⟨CB,dx,_,hb2,T.cl,T.nv,_,dB _ _,vas.length+1,.inl ⟨_,aO.of aa,by simp⟩,?_⟩;have en:V.int (((vas.length+1:Nat):Int) - 1)=nV ves.length:=by
   unfold nV;congr 1;omega
  rw[en];refine k _ ⟨⟨dx,hb2⟩,⟨vas++[v0],by rw[aa,e2],aZ (Paired.imp' (fun a v x=>(x.kp kp1).put hv1 _) hp) ⟨⟨dxv,?_⟩,(Tv.kp kp1).put hv1 _⟩⟩,by rw[ah ne.symm];exact ha1,ne⟩ fun c o hc hn=>?_
  ·rw[ah (bO hv0 hv1 (by intro z;cases z))];exact hv0
  ·rw[ah (fun z=>hn (by simp[z]))]
   exact kp1 c o hc (by simp)
end
end
section
section
variable {B0 newId initId:String}{bmB:List Value}
noncomputable abbrev FO:Stmt:=(inClass (top 31) 5)
noncomputable abbrev Hh:List Str:=["self","parent","name","value","change"]
theorem F5:az Hh ["self","parent","name","value"] (aq FO):=by walk_at "s"
noncomputable def zF (CN CV CB CNV CNN:Addr):Sp:=fun vs H Q E=>∃ (bk vl al:Addr) (ves:List fj) (as:List V) (i:Int) (n:Nm) (to:Option Nm),vs=[.ref bk,.int i,sV n,oV to]/\gj CN CV CB H bk vl al ves as/\ves.length<=1000/\n.length<=1000/\(∀ c∈n,c<128) /\
 (bJ ves.length i=true->∀ H',Kp H H' []->E (.ref CNV) none H')/\(bJ ves.length i=false->isNm n=false->∀ H',Kp H H' []->E (.ref CNN) none H') /\
 (bJ ves.length i=false->isNm n=true->∀ (v:fj) (g':Nm->Option Addr) (k:Nat) H1 H',ves[i.toNat]?=some v->EZ CN H H1 v.m v.g n to g' k->gj CN CV CB H' bk vl al (ves++[⟨xh v.m n to,g',some i.toNat,k⟩]) as->Kp H H' [vl]->Q (nV ves.length) H')
theorem D1 {f CN CV CB CNV CNN:Addr}{fd:FuncData} (m_Book_root_at:cz P w K mg base (fu P w) 9 CB "root_at" ["self","number"] (lE CN CV CB CNV)) (cchanged:bM P w K mg base (fu P w) 9 "changed" ["root","name","value"] (rR CN CNN)) (m_Book_keep:cz P w K mg base aQ 9 CB "keep" lL (mZ CN CV CB))
  (F:cG K "keep_changed" "Book.keep_changed" FO f fd):aS P w K mg base (fu P w) 10 f fd ["self","parent","name","value"] (zF CN CV CB CNV CNN):=by
 have sc:=F5;refine F.Bo sc (fun vs H Q E h=>?_) (fun cdv A outer s H vs Q E hr h=>?_)
 ·obtain⟨_,_,_,_,_,_,_,_,rfl,_⟩:=h
  rfl
 ·obtain⟨bk,vl,al,ves,as,i,n,to,rfl,Bk,hl,hn,h128,kb,kn,kg⟩:=h
  refine⟨_,(af (au (i:=4) sc.nd rfl (by walk_at "o") (vQ cchanged hr cm (ag (dn m_Book_root_at hr cm (pv 0) (ag (pv 1) ae)) (ag (pv 2) (ag (pv 3) ae)))))
   (ao (aw (dn m_Book_keep hr eB (pv 0) (ag (aG (aH K) (pv 4) aj (fun _ _=>rfl)) (ag (pv 1) (ag (aG (aH K) (pv 4) aj (fun _ _=>rfl)) ae))))))),?_⟩
  walk_at "rd";obtain⟨dx,hb⟩:=id Bk.ob;refine⟨dx,_,hb,dY _ _ (by decide +kernel) (by decide +kernel),bk,vl,al,ves,as,i,rfl,Bk,hl,kb,fun e v hv Tv=>?_⟩;refine⟨v.m,v.g,n,to,rfl,Tv,hn,h128,kn e,fun en p g' kk H1 hp ch k1=>?_⟩;walk_at "rd";have Bk1:=Bk.kp k1;have hi0:0<=i:=by
   unfold bJ at e;simp only[Bool.or_eq_false_iff,decide_eq_false_iff_not] at e;omega
  have ei:V.int i=pV (some i.toNat):=by
   show V.int i=V.int ((i.toNat:Nat):Int);congr 1;omega
  refine⟨dx,_,k1 _ _ hb (by simp),dY _ _ (by decide +kernel) (by decide +kernel),_,cI.of hp,_,rfl,_,cI.of hp,_,rfl,bk,vl,al,ves,as,⟨xh v.m n to,g',some i.toNat,kk⟩,?_,Bk1,hl,ch.tree,fun H' Bk' k2=>?_⟩
  ·rw[ei]
  ·exact kg e en v g' kk H1 H' hv ch Bk' fun c o hc hn=>k2 c o (k1 c o hc (by simp)) hn
noncomputable abbrev Gb:Stmt:=(inClass (top 31) 7)
noncomputable abbrev Hv:List Str:=["self","parent","pairs","root","made","name","value","change"]
theorem Gi:az Hv ["self","parent","pairs"] (aq Gb):=by walk_at "s"
noncomputable def zK (CN CV CB:Addr):Sp:=fun vs H Q _=>∃ (bk vl al pl:Addr) (ves:List fj) (as:List V) (o:Nat) (v:fj) (prs:List Addr) (l:List Nm) (mt:Mp) (nd:Nd) (st:Nat),vs=[.ref bk,.int (o:Int),.ref pl]/\gj CN CV CB H bk vl al ves as/\ves.length<=1000/\ves[o]?=some v /\
 H pl=some (.lst (prs.map V.ref))/\Paired (fun a n=>H a=some (.tup [sV n,oV (ak mt n)])) prs l/\l.length<=1000/\(∀ n∈l,n.length<=1000/\isNm n=true) /\
 ∀ (g':Nm->Option Addr) H',gj CN CV CB H' bk vl al (ves++[⟨(l.foldl (aY mt) ⟨0,st,v.m,nd⟩).m,g',some o,(l.foldl (aY mt) ⟨0,st,v.m,nd⟩).made⟩]) as->Kp H H' [vl]->Q (nV ves.length) H'
structure Hn (CN CV CB:Addr) (H:Hp) (bk vl al pl:Addr) (ves:List fj) (as:List V) (o:Nat) (v:fj) (l:List Nm) (mt:Mp) (nd:Nd) (st:Nat) (i:Nat) (σ:L2.St) (H2:Hp):Prop where
 ls:∃ (g:Nm->Option Addr) (x y z:Option V),σ=[some (.ref bk),some (.int (o:Int)),some (.ref pl),some (pt (g [])),some (nV ((l.take i).foldl (aY mt) ⟨0,st,v.m,nd⟩).made),x,y,z]/\Tree CN H2 ((l.take i).foldl (aY mt) ⟨0,st,v.m,nd⟩).m g
 kp:Kp H H2 []
theorem Ez {f CN CV CB CNV CNN:Addr}{fd:FuncData} (m_Book_root_at:cz P w K mg base (fu P w) 9 CB "root_at" ["self","number"] (lE CN CV CB CNV)) (cchanged:bM P w K mg base (fu P w) 9 "changed" ["root","name","value"] (rR CN CNN)) (m_Book_keep:cz P w K mg base aQ 9 CB "keep" lL (mZ CN CV CB))
  (F:cG K "keep_all_changed" "Book.keep_all_changed" Gb f fd):aS P w K mg base aQ 10 f fd ["self","parent","pairs"] (zK CN CV CB):=by
 have sc:=Gi;walk_at "f"
 ·obtain⟨_,_,_,_,_,_,_,_,_,_,_,_,_,rfl,_⟩:=h
  rfl
 ·obtain⟨bk,vl,al,pl,ves,as,o,v,prs,l,mt,nd,st,rfl,Bk,hl,hv,hpl,hpr,hll,hln,k⟩:=h
  refine⟨_,(af (au (i:=3) sc.nd rfl (by walk_at "o") (dn m_Book_root_at hr gN (pv 0) (ag (pv 1) ae)))
   (af (au (i:=4) sc.nd rfl (by walk_at "o") aj)
   (af (dt PassesOwn.never rfl (bq K (pv 2)) (mB K (n:=2) rfl (cN (aM (i:=5) sc.nd rfl (by walk_at "o")) (cN (aM (i:=6) sc.nd rfl (by walk_at "o")) jj))) (af (au (i:=7) sc.nd rfl (by walk_at "o") (vQ cchanged hr gN (ag (pv 3) (ag (pv 5) (ag (pv 6) ae)))))
    (af (au (i:=3) sc.nd rfl (by walk_at "o") (aG (aH K) (pv 7) aj (fun _ _=>rfl)))
    (ao (vX (i:=4) sc.nd rfl (by walk_at "o") (aG (aH K) (pv 7) aj (fun _ _=>rfl)) uA)))))
   (ao (aw (dn m_Book_keep hr eB (pv 0) (ag (pv 3) (ag (pv 1) (ag (pv 4) ae))))))))),?_⟩
  walk_at "rd";obtain⟨dx,hb⟩:=id Bk.ob;have ov:o<ves.length:=(List.getElem?_eq_some_iff.mp hv).1;have eb:bJ ves.length (o:Int)=false:=by
   unfold bJ;simp only[Bool.or_eq_false_iff,decide_eq_false_iff_not];omega
  refine⟨dx,_,hb,dY _ _ (by decide +kernel) (by decide +kernel),bk,vl,al,ves,as,o,rfl,Bk,hl,(fun e=>absurd e (by rw[eb];simp)),fun _ v' hv' Tv=>?_⟩;rw[Int.toNat_natCast,hv] at hv'
  cases hv';have lp:=aN hpr;refine⟨⟨_,aO.of hpl⟩,cq (xs:=prs.map V.ref) (Hn CN CV CB H bk vl al pl ves as o v l mt nd st) ⟨⟨v.g,none,none,none,rfl,Tv⟩,Kp.refl _ _⟩ (fun i σ H2 iv=>aO.of (iv.kp _ _ hpl (by simp))) (fun i x σ H2 hx iv=>?_) (fun σ H2 iv=>?_)⟩
  ·obtain⟨⟨g,x1,y1,z1,rfl,Tg⟩,kp⟩:=iv
   rw[List.getElem?_map] at hx;obtain⟨a,ha,rfl⟩:=Option.map_eq_some_iff.mp hx;obtain⟨n,hn,hat⟩:=cg hpr ha;have hat2:=kp _ _ hat (by simp);have ln:=hln n (List.mem_of_getElem? hn);walk_at "rd";have t128:∀ c∈n,c<128:=fun c hc=>by
    have:=of_decide_eq_true (List.all_eq_true.mp ln.2 c hc);omega
   refine⟨_,cI.of hat2,rfl,_,_,rfl,_,_,rfl,rfl,_,g,n,ak mt n,rfl,Tg,ln.1,t128,(fun e=>absurd e (by rw[ln.2];simp)),fun _ p g' kk H3 hp ch k3=>?_⟩;refine⟨p,rfl,_,cI.of hp,_,rfl,p,rfl,_,cI.of hp,_,rfl,_,_,rfl,rfl,⟨g',some (sV n),some (oV (ak mt n)),some (V.ref p),?_,?_⟩,kp.trans k3⟩
   ·rw[List.take_add_one,hn,Option.toList_some,List.foldl_append]
    have e:=ch.made ((l.take i).foldl (aY mt) ⟨0,st,v.m,nd⟩).nd ((l.take i).foldl (aY mt) ⟨0,st,v.m,nd⟩).st;rw[<- e]
    rfl
   ·rw[List.take_add_one,hn,Option.toList_some,List.foldl_append]
    show Tree CN H3 (bU _ _ _ n (ak mt n)).m g';rw[ou];exact ch.tree
  ·obtain⟨⟨g,x1,y1,z1,rfl,Tg⟩,kp⟩:=iv
   rw[List.length_map,lp,List.take_of_length_le (Nat.le_refl _)] at Tg;rw[List.length_map,lp,List.take_of_length_le (Nat.le_refl _)];walk_at "rd";have Bk2:=Bk.kp kp;exact⟨dx,_,kp _ _ hb (by simp),dY _ _ (by decide +kernel) (by decide +kernel),bk,vl,al,ves,as,⟨_,g,some o,_⟩,rfl,Bk2,hl,Tg,fun H' Bk' k2=>k g H' Bk' fun c o hc hn=>k2 c o (kp c o hc (by simp)) hn⟩
noncomputable abbrev Ea:Stmt:=(inClass (top 31) 6)
noncomputable abbrev E7:List Str:=["self","base","one","two","rows","clashes"]
theorem FD:az E7 ["self","base","one","two"] (aq Ea):=by walk_at "s"
theorem nk:(["row"]:List Str).Nodup:=by decide +kernel
structure yb (vb vo vt:fj) (U:List Nm):Prop where
 bd:yu vo.m vt.m U
 n1:aB vb.m
 n2:aB vo.m
 n3:aB vt.m
 nm:wB vo.m/\wB vt.m
noncomputable def zz (CN CV CB CNV:Addr):Sp:=fun vs H Q E=>∃ (bk vl al:Addr) (ves:List fj) (as:List V) (ib io it:Int) (nd:Nd) (st:Nat),vs=[.ref bk,.int ib,.int io,.int it]/\gj CN CV CB H bk vl al ves as/\ves.length<=1000 /\
 ((bJ ves.length ib || bJ ves.length io || bJ ves.length it)=true->∀ H',Kp H H' []->E (.ref CNV) none H') /\
 ((bJ ves.length ib || bJ ves.length io || bJ ves.length it)=false->∃ vb vo vt U,ves[ib.toNat]?=some vb/\ves[io.toNat]?=some vo/\ves[it.toNat]?=some vt/\yb vb vo vt U /\
  (bQ vb.m vo.m vt.m≠[]->∀ v H',gA (fun r=>H r=none) H' v (bQ vb.m vo.m vt.m)->Kp H H' []->Q v H') /\
  (bQ vb.m vo.m vt.m=[]->∀ (g':Nm->Option Addr) H',gj CN CV CB H' bk vl al (ves++[⟨(bF vb.m vo.m vt.m nd st).m,g',some io.toNat,(bF vb.m vo.m vt.m nd st).made⟩]) as->Kp H H' [vl]->Q (nV ves.length) H'))
noncomputable def rB (H:Hp):V->Option V
 | .ref a=>(match H a with
  | some (.tup [_,b,o,_])=>if b=o then none else some (.ref a)
  | _=>none)
 | _=>none
theorem kW {H:Hp}{a:Addr}{r:Row} (h:H a=some (.tup (eF r))):rB H (.ref a)=if r.2.1=r.2.2.1 then none else some (.ref a):=by
 show (match H a with
  | some (.tup [_,b,o,_])=>if b=o then none else some (V.ref a)
  | _=>none)=_
 rw[h];show (if oV r.2.1=oV r.2.2.1 then none else some (V.ref a))=_
 by_cases q:r.2.1=r.2.2.1
 ·rw[if_pos q,if_pos (dW.mpr q)]
 ·rw[if_neg q,if_neg (fun z=>q (dW.mp z))]
theorem jF {H:Hp}:∀ {rs:List Addr}{rows:List Row},gw H rs rows->∃ cs:List Addr,(rs.map V.ref).filterMap (rB H)=cs.map V.ref/\gw H cs (rows.filter fun r=>decide (r.2.1≠r.2.2.1))
 | _,_,.nil=>⟨[],rfl,.nil⟩
 | a::rs,r::rows,.cons h t=>by
  obtain⟨cs,e,p⟩:=jF t;rw[List.map_cons,List.filterMap_cons,kW h,List.filter_cons]
  by_cases q:r.2.1=r.2.2.1
  ·rw[if_pos q,if_neg (by simp[q])]
   exact⟨cs,e,p⟩
  ·rw[if_neg q,if_pos (by simp[q])]
   exact⟨a::cs,by rw[List.map_cons,e],.cons h p⟩
structure He (H2:Hp) (mt:Mp) (l:List Nm) (i:Nat) (ys:List V) (H':Hp):Prop where
 ex:∃ ps:List Addr,ys=ps.map V.ref/\ps.length=i/\Paired (fun a n=>H' a=some (.tup [sV n,oV (ak mt n)])) ps (l.take i)
 kp:Kp H2 H' []
theorem C9 {f CN CV CB CNV:Addr}{fd:FuncData} (B:Bl mg) (m_Book_root_at:cz P w K mg base (fu P w) 11 CB "root_at" ["self","number"] (lE CN CV CB CNV)) (crows_to_join:bM P w K mg base aQ 11 "rows_to_join" ["base","one","two"] (Az CN)) (m_Book_keep_all_changed:cz P w K mg base aQ 11 CB "keep_all_changed" ["self","parent","pairs"] (zK CN CV CB))
  (F:cG K "keep_joined" "Book.keep_joined" Ea f fd):aS P w K mg base (fu P w) 12 f fd ["self","base","one","two"] (zz CN CV CB CNV):=by
 have sc:=FD;refine F.Bo sc (fun vs H Q E h=>?_) (fun cdv A outer s H vs Q E hr h=>?_)
 ·obtain⟨_,_,_,_,_,_,_,_,_,_,rfl,_⟩:=h
  rfl
 ·obtain⟨bk,vl,al,ves,as,ib,io,it,nd,st,rfl,Bk,hl,kb,kg⟩:=h
  have hs:=sizeLine_eq;refine⟨_,(af (au (i:=4) sc.nd rfl (by walk_at "o") (bh crows_to_join hr (ag (dn m_Book_root_at hr cm (pv 0) (ag (pv 1) ae)) (ag (dn m_Book_root_at hr cm (pv 0) (ag (pv 2) ae)) (ag (dn m_Book_root_at hr cm (pv 0) (ag (pv 3) ae)) ae)))))
   (af (gY (i:=5) (N':=["row"]) (ix:=[none]) sc.nd rfl rfl rfl ?S1 (bq K (pv 4)) (fun cl C fp s H=>(aM (i:=0) nk rfl (by walk_at "o"))) (fun cl C fp s H=>(dA (aF dS (aG (aH K) (pv 0) aj (fun _ _=>rfl)) (aG (aH K) (pv 0) aj (fun _ _=>rfl)) (aK _)))) (fun cl C fp s H=>(pv 0)))
   (af (a_ (aF vK (br (bc K) rfl B.len boot_len (ag (pv 5) ae)) aj (aK _)) (ao (aw (bH (ag ar (ag (pv 5) ae))))) aJ)
   (ao (aw (dn m_Book_keep_all_changed hr eB (pv 0) (ag (pv 2) (ag (cx (N':=["row"]) (ix:=[none]) rfl ?S2 (bq K (pv 4)) (fun cl C fp s H=>(aM (i:=0) nk rfl (by walk_at "o"))) (fun cl C fp s H=>di) (fun cl C fp s H=>(bH (ag (aG (aH K) (pv 0) aj (fun _ _=>rfl)) (ag (aG (aH K) (pv 0) aj (fun _ _=>rfl)) ae))))) ae)))))))),?_⟩
  case S1=>exact kG.is (N:=E7) (osc:=aq Ea) (by decide +kernel)
  case S2=>exact kG.is (N:=E7) (osc:=aq Ea) (by decide +kernel)
  walk_at "rd";obtain⟨dx,hb⟩:=id Bk.ob;have no:∀ {m:Str},¬ m="answers"->¬ m="versions"->(xi (.ref vl) (.ref al)).lookup m=none:=fun h1 h2=>dY _ _ h1 h2;refine⟨dx,_,hb,no (by decide +kernel) (by decide +kernel),bk,vl,al,ves,as,ib,rfl,Bk,hl,(fun e=>kb (by rw[e];rfl)),fun e1 vb hvb Tb=>?_⟩;refine⟨dx,_,hb,no (by decide +kernel) (by decide +kernel),bk,vl,al,ves,as,io,rfl,Bk,hl,(fun e=>kb (by rw[e];simp)),fun e2 vo hvo To=>?_⟩;refine⟨dx,_,hb,no (by decide +kernel) (by decide +kernel),bk,vl,al,ves,as,it,rfl,Bk,hl,(fun e=>kb (by rw[e];simp)),fun e3 vt hvt Tt=>?_⟩;obtain⟨vb',vo',vt',U,q1,q2,q3,J,kc,kd⟩:=kg (by rw[e1,e2,e3];rfl);rw[hvb] at q1;rw[hvo] at q2;rw[hvt] at q3
  cases q1
  cases q2
  cases q3;refine⟨vb.m,vo.m,vt.m,vb.g,vo.g,vt.g,U,rfl,⟨Tb,To,Tt⟩,J.bd,J.n1,J.n3,fun r rs H1 hr1 hrw k1=>?_⟩;have alen:=lY (mb:=vb.m) J.bd J.n1 J.n3;have rl:=aN hrw;rw[List.length_map] at rl;refine⟨r,rfl,⟨_,aO.of hr1⟩,dJ (xs:=rs.map V.ref) (rB H1) (aO.of hr1) (by rw[List.length_map];omega) (fun x hx R R' r1 r2=>?_) ?_⟩
  ·obtain⟨a,ha,rfl⟩:=List.mem_map.mp hx
   obtain⟨row,_,hat⟩:=fI hrw a ha;refine⟨Wk.set rfl,?_⟩;walk_at "rd";refine⟨_,cI.of hat,oV row.2.1,rfl,_,cI.of hat,oV row.2.2.1,rfl,gL _ _,?_⟩;have cr:=kW hat
   by_cases q:row.2.1=row.2.2.1
   ·rw[if_pos q] at cr
    rw[if_neg (by rw[q];simp)];exact r2 cr
   ·rw[if_neg q] at cr
    rw[if_pos (by simp[dW,q])];exact r1 _ cr
  ·intro d hd
   obtain⟨cs,ec,pc⟩:=jF hrw;rw[ec];have erows:((cc vb.m vo.m vt.m).map (eZ vb.m vo.m vt.m)).filter (fun r=>decide (r.2.1≠r.2.2.1))=bQ vb.m vo.m vt.m:=by
    rw[uS J.n1 J.n2 J.n3,List.filter_map]
    rfl
   rw[erows] at pc;have cl:=aN pc;have k2:Kp H1 (upd H1 d (.lst (cs.map V.ref))) []:=(Kp.refl H1 []).new hd;have f1:(upd H1 d (.lst (cs.map V.ref))) d=some (.lst (cs.map V.ref)):=aa;have f2:=d_ pc k2;have f3:=k2 _ _ hr1 (by simp);have f4:=d_ hrw k2;have k3:=k1.trans k2;generalize upd H1 d (.lst (cs.map V.ref))=H2 at k2 f1 f2 f3 f4 k3 ⊢;refine⟨cs.length,.inl ⟨_,aO.of f1,by rw[List.length_map]⟩,?_⟩
   by_cases q:bQ vb.m vo.m vt.m=[]
   ·have c0:cs.length=0:=by rw[cl,q];rfl
    rw[if_neg (by rw[c0];simp)];refine⟨dx,_,k3 _ _ hb (by simp),no (by decide +kernel) (by decide +kernel),r,rfl,⟨_,aO.of f3⟩,?_⟩;refine de (xs:=rs.map V.ref) (He H2 vt.m (cc vb.m vo.m vt.m)) ⟨⟨[],rfl,rfl,.nil⟩,Kp.refl _ _⟩ (by rw[List.length_map];omega) ?_ ?_ ?_ ?_
    ·rintro i ys H' ⟨⟨ps,rfl,hl',_⟩,_⟩
     rw[List.length_map,hl'];exact Nat.le_refl _
    ·rintro i ys H' ⟨_,kp⟩
     exact aO.of (kp _ _ f3 (by simp))
    ·rintro i ys H' x hx ⟨⟨ps,rfl,hl',hpr⟩,kp⟩ R R' r1 r2
     rw[List.getElem?_map] at hx;obtain⟨a,ha,rfl⟩:=Option.map_eq_some_iff.mp hx;obtain⟨row,hrow,hat⟩:=cg f4 ha;rw[List.getElem?_map] at hrow;obtain⟨n,hn,rfl⟩:=Option.map_eq_some_iff.mp hrow;have hat':=kp _ _ hat (by simp);refine⟨Wk.set rfl,?_⟩;walk_at "rd";refine⟨_,cI.of hat',sV n,rfl,_,cI.of hat',oV (ak vt.m n),rfl,by omega,fun t ht=>?_⟩;have k5:Kp H' (upd H' t (.tup [sV n,oV (ak vt.m n)])) []:=(Kp.refl H' []).new ht;refine r1 _ _ ⟨⟨ps++[t],by rw[List.map_append];rfl,by rw[List.length_append,hl'];rfl,?_⟩,kp.trans k5⟩;rw[List.take_add_one,hn];exact aZ (Paired.imp' (fun a n x=>k5 _ _ x (by simp)) hpr) aa
    ·rintro ys H' ⟨⟨ps,rfl,hl',hpr⟩,kp⟩ d2 hd2
     rw[List.length_map,rl,List.take_of_length_le (Nat.le_refl _)] at hpr;have k5:Kp H' (upd H' d2 (.lst (ps.map V.ref))) []:=(Kp.refl H' []).new hd2;have hio:0<=io:=by
      unfold bJ at e2;simp only[Bool.or_eq_false_iff,decide_eq_false_iff_not] at e2;omega
     have ei:V.int io=V.int ((io.toNat:Nat):Int):=by congr 1;omega
     have k6:=(k3.trans kp).trans k5;refine⟨bk,vl,al,d2,ves,as,io.toNat,vo,ps,cc vb.m vo.m vt.m,vt.m,nd,st,by rw[ei],Bk.kp k6,hl,hvo,aa,Paired.imp' (fun a n x=>k5 _ _ x (by simp)) hpr,by omega,fun n hn=>?_,fun g' H5 Bk' k7=>?_⟩
     ·have h2:=(dI.mp hn).2
      have hor:(ak vo.m n).isSome=true\/(ak vt.m n).isSome=true:=by
       cases e1:ak vo.m n with
       | some _=>exact .inl rfl
       | none =>
        cases e2:ak vt.m n with
        | some _=>exact .inr rfl
        | none=>rw[e1,e2] at h2;exact absurd rfl h2
      have:=J.bd.lo n (J.bd.mem n hor);exact⟨by omega,hor.elim (J.nm.1 n) (J.nm.2 n)⟩
     ·refine kd q g' H5 ?_ fun c o hc hn=>k7 c o (k6 c o hc (by simp)) hn
      rw[vP J.n1 J.n3];exact Bk'
   ·have c1:0<cs.length:=by
     rw[cl];exact List.length_pos_iff.mpr q
    rw[if_pos (by simp;omega)];refine⟨by omega,fun p hp=>?_⟩;have k5:Kp H2 (upd H2 p (HO.tup [V.str (Str.ofString "clash"),V.ref d])) []:=(Kp.refl H2 []).new hp;exact kc q _ _ ⟨p,d,cs,rfl,k1.free hd (by simp),aa,k5 _ _ f1 (by simp),d_ f2 k5⟩ (k3.trans k5)
end
end
section
section
variable {B0 newId initId:String}{bmB:List Value}
structure nZ (CN CV CB:Addr) (H:Hp) (bk vl al:Addr) (k:Nat) (S:LS) (ves:List fj) (as:List V):Prop where
 bk:gj CN CV CB H bk vl al ves as
 ms:ves.map (·.m)=S.ms
 par:ves.map (·.p)=S.par
 day:dX k S
 nm:Cq S
noncomputable def fF (ves:List fj) (a:xO) (md:Nat):Prop:=match a with
 | .ver n=>∃ v,ves[n]?=some v/\v.k=md
 | _=>md=0
theorem nZ.len {CN CV CB:Addr}{H:Hp}{bk vl al:Addr}{k:Nat}{S:LS}{ves:List fj}{as:List V} (b:nZ CN CV CB H bk vl al k S ves as):ves.length=S.ms.length:=by rw[<- b.ms,List.length_map]
theorem jS {S:LS}{ves:List fj} (h:ves.length=S.ms.length) (i:Int):bJ ves.length i=(decide (i<0) || decide ((S.ms.length:Int)<=i)):=by unfold bJ;rw[h]
theorem nZ.at {CN CV CB:Addr}{H:Hp}{bk vl al:Addr}{k:Nat}{S:LS}{ves:List fj}{as:List V} (b:nZ CN CV CB H bk vl al k S ves as) {i:Nat}{v:fj} (h:ves[i]?=some v):S.ms.getD i []=v.m/\S.ms[i]?=some v.m:=by
 have:S.ms[i]?=some v.m:=by rw[<- b.ms,List.getElem?_map,h];rfl
 exact⟨by rw[List.getD_eq_getElem?_getD,this];rfl,this⟩
noncomputable abbrev FP:Stmt:=(inClass (top 31) 10)
theorem Fe:az ["self","deed"] ["self","deed"] (aq FP):=by walk_at "s"
noncomputable def B9 (CN CV CB CNV CNN:Addr):Sp:=fun vs H Q E=>∃ (bk vl al d:Addr) (k:Nat) (S:LS) (ves:List fj) (as:List V) (D:cb),vs=[.ref bk,.ref d]/\nZ CN CV CB H bk vl al k S ves as/\k<=62/\H d=some (.tup (bT D))/\cW D /\
 (e_ S D=true->∀ H',Kp H H' []->E (.ref CNV) none H')/\(e_ S D=false->fJ D=true->∀ H',Kp H H' []->E (.ref CNN) none H') /\
 (e_ S D=false->fJ D=false->∀ (v:V) (ves':List fj) H',nZ CN CV CB H' bk vl al (k+1) (aC S D).2 ves' as->cC (fun r=>H r=none) H' v (aC S D).1->(∃ md,(aC S D).2.made=S.made++[md]/\fF ves' (aC S D).1 md)->ves <+: ves'->Kp H H' [vl]->Q v H')
theorem qj:¬ (V.str (Str.ofString "take")=V.str (Str.ofString "put"))/\¬ (V.str (Str.ofString "join")=V.str (Str.ofString "put"))/\¬ (V.str (Str.ofString "join")=V.str (Str.ofString "take")):=by decide +kernel
theorem iX {CN CV CB:Addr}{H H1 H':Hp}{bk vl al:Addr}{k:Nat}{S:LS}{ves:List fj}{as:List V} (b:nZ CN CV CB H bk vl al k S ves as) (hk:k<=62) {D:cb} (ok:cW D) {i:Int}{n:Nm}{to:Option Nm} (e1:e_ S D=false) (e2:fJ D=false)
  (eD:aC S D=(.ver S.ms.length,pz S i.toNat n to)) {v:fj} (hv:ves[i.toNat]?=some v) {g':Nm->Option Addr}{kk:Nat} (ch:EZ CN H H1 v.m v.g n to g' kk) (bk':gj CN CV CB H' bk vl al (ves++[⟨xh v.m n to,g',some i.toNat,kk⟩]) as) :
  nZ CN CV CB H' bk vl al (k+1) (aC S D).2 (ves++[⟨xh v.m n to,g',some i.toNat,kk⟩]) as/\cC (fun r=>H r=none) H' (nV ves.length) (aC S D).1/\∃ md,(aC S D).2.made=S.made++[md]/\fF (ves++[⟨xh v.m n to,g',some i.toNat,kk⟩]) (aC S D).1 md:=by
 have hl:=b.len;have st:=b.day.step (by omega) ok;have sn:=jn b.nm D;rw[eD] at st sn ⊢;obtain⟨g1,g2⟩:=b.at hv;refine⟨⟨bk',?_,?_,st,sn⟩,?_,kk,?_,?_⟩
 ·show _=S.ms++[_]
  rw[List.map_append,b.ms,List.map_singleton,g1,ou]
 ·show _=S.par++[_]
  rw[List.map_append,b.par,List.map_singleton]
 ·show nV ves.length=nV S.ms.length
  rw[hl]
 ·show S.made++[(bU (S.ms.getD i.toNat []) _ _ n to).made]=_
  rw[g1,ch.made]
 ·exact⟨_,by rw[<- hl,List.getElem?_append_right (Nat.le_refl _),Nat.sub_self];rfl,rfl⟩
theorem Cw {f CN CV CB CNV CNN:Addr}{fd:FuncData} (m_Book_keep_changed:cz P w K mg base (fu P w) 13 CB "keep_changed" ["self","parent","name","value"] (zF CN CV CB CNV CNN)) (m_Book_keep_joined:cz P w K mg base (fu P w) 13 CB "keep_joined" ["self","base","one","two"] (zz CN CV CB CNV))
  (F:cG K "made_by" "Book.made_by" FP f fd):aS P w K mg base (fu P w) 14 f fd ["self","deed"] (B9 CN CV CB CNV CNN):=by
 have sc:=Fe;refine F.Bo sc (fun vs H Q E h=>?_) (fun cdv A outer s H vs Q E hr h=>?_)
 ·obtain⟨_,_,_,_,_,_,_,_,_,rfl,_⟩:=h
  rfl
 ·obtain⟨bk,vl,al,d,k,S,ves,as,D,rfl,b,hk,hd,ok,kb,kn,kg⟩:=h
  refine⟨_,(af (a_ (aF dj (aG (aH K) (pv 1) aj (fun _ _=>rfl)) ar (aK _)) (ao (aw (dn m_Book_keep_changed hr cm (pv 0) (ag (aG (aH K) (pv 1) aj (fun _ _=>rfl)) (ag (aG (aH K) (pv 1) aj (fun _ _=>rfl)) (ag (aG (aH K) (pv 1) aj (fun _ _=>rfl)) ae)))))) aJ)
   (af (a_ (aF dj (aG (aH K) (pv 1) aj (fun _ _=>rfl)) ar (aK _)) (ao (aw (dn m_Book_keep_changed hr cm (pv 0) (ag (aG (aH K) (pv 1) aj (fun _ _=>rfl)) (ag (aG (aH K) (pv 1) aj (fun _ _=>rfl)) (ag fP ae)))))) aJ)
   (ao (aw (dn m_Book_keep_joined hr cm (pv 0) (ag (aG (aH K) (pv 1) aj (fun _ _=>rfl)) (ag (aG (aH K) (pv 1) aj (fun _ _=>rfl)) (ag (aG (aH K) (pv 1) aj (fun _ _=>rfl)) ae)))))))),?_⟩
  walk_at "rd";obtain⟨dx,hb⟩:=id b.bk.ob;have no:∀ {m:Str},¬ m="answers"->¬ m="versions"->(xi (.ref vl) (.ref al)).lookup m=none:=fun h1 h2=>dY _ _ h1 h2;have hl:=b.len;have l1:=b.day.l1;have sq:cI K H d (bT D):=cI.of hd
  cases D with
  | put i n x =>
   have eV:e_ S (.put i n x)=bJ ves.length i:=by rw[jS hl];simp[e_,bI]
   have eN:fJ (.put i n x)=!isNm n:=rfl;obtain⟨o1,o2,o3⟩:=id ok;obtain⟨nl,nc⟩:=o1 n rfl;refine⟨_,sq,_,rfl,rfl,?_⟩;rw[if_pos (by simp)];refine⟨dx,_,hb,no (by decide +kernel) (by decide +kernel),_,sq,_,rfl,_,sq,_,rfl,_,sq,_,rfl,bk,vl,al,ves,as,i,n,some x,rfl,b.bk,by omega,by omega,nc,(fun e=>kb (by rw[eV];exact e)),(fun e e'=>kn (by rw[eV];exact e) (by rw[eN,e'];rfl)),fun e e' v g' kk H1 H' hv ch bk' k'=>?_⟩;have eD:aC S (.put i n x)=(.ver S.ms.length,pz S i.toNat n (some x)):=by
    unfold aC;rw[if_neg (by rw[eV,e];simp),if_neg (by rw[eN,e'];simp)]
   obtain⟨r1,r2,r3⟩:=iX b hk ok (by rw[eV];exact e) (by rw[eN,e'];rfl) eD hv ch bk';exact kg (by rw[eV];exact e) (by rw[eN,e'];rfl) _ _ H' r1 r2 r3 (List.prefix_append _ _) k'
  | take i n =>
   have eV:e_ S (.take i n)=bJ ves.length i:=by rw[jS hl];simp[e_,bI]
   have eN:fJ (.take i n)=!isNm n:=rfl;obtain⟨o1,o2,o3⟩:=id ok;obtain⟨nl,nc⟩:=o1 n rfl;refine⟨_,sq,_,rfl,rfl,?_⟩;rw[if_neg (by simp[qj.1])];refine⟨_,sq,_,rfl,rfl,?_⟩;rw[if_pos (by simp)];refine⟨dx,_,hb,no (by decide +kernel) (by decide +kernel),_,sq,_,rfl,_,sq,_,rfl,bk,vl,al,ves,as,i,n,none,rfl,b.bk,by omega,by omega,nc,(fun e=>kb (by rw[eV];exact e)),(fun e e'=>kn (by rw[eV];exact e) (by rw[eN,e'];rfl)),fun e e' v g' kk H1 H' hv ch bk' k'=>?_⟩;have eD:aC S (.take i n)=(.ver S.ms.length,pz S i.toNat n none):=by
    unfold aC;rw[if_neg (by rw[eV,e];simp),if_neg (by rw[eN,e'];simp)]
   obtain⟨r1,r2,r3⟩:=iX b hk ok (by rw[eV];exact e) (by rw[eN,e'];rfl) eD hv ch bk';exact kg (by rw[eV];exact e) (by rw[eN,e'];rfl) _ _ H' r1 r2 r3 (List.prefix_append _ _) k'
  | join ib io it =>
   have eV:e_ S (.join ib io it)=(bJ ves.length ib || bJ ves.length io || bJ ves.length it):=by rw[jS hl,jS hl,jS hl];simp[e_,bI,Bool.or_assoc]
   refine⟨_,sq,_,rfl,rfl,?_⟩;rw[if_neg (by simp[qj.2.1])];refine⟨_,sq,_,rfl,rfl,?_⟩;rw[if_neg (by simp[qj.2.2])];refine⟨dx,_,hb,no (by decide +kernel) (by decide +kernel),_,sq,_,rfl,_,sq,_,rfl,_,sq,_,rfl,bk,vl,al,ves,as,ib,io,it,S.ns.getD io.toNat [],S.st,rfl,b.bk,by omega,(fun e=>kb (by rw[eV];exact e)),fun e=>?_⟩;have gi:∀ {z:Int},bJ ves.length z=false->∃ v,ves[z.toNat]?=some v:=fun {z} h=>by
    unfold bJ at h;simp only[Bool.or_eq_false_iff,decide_eq_false_iff_not] at h;exact⟨ves[z.toNat]'(by omega),by simp[show z.toNat<ves.length by omega]⟩
   have e3:bJ ves.length ib=false/\bJ ves.length io=false/\bJ ves.length it=false:=by
    simp only[Bool.or_eq_false_iff] at e;exact⟨e.1.1,e.1.2,e.2⟩
   obtain⟨vb,hvb⟩:=gi e3.1;obtain⟨vo,hvo⟩:=gi e3.2.1;obtain⟨vt,hvt⟩:=gi e3.2.2;obtain⟨U,u1,u2,u3⟩:=b.day.us;have gb:=b.at hvb;have go:=b.at hvo;have gt:=b.at hvt;refine⟨vb,vo,vt,U,hvb,hvo,hvt,⟨⟨by omega,u2,fun n h=>h.elim ((u3 _ _ go.2).2 n) ((u3 _ _ gt.2).2 n)⟩,(u3 _ _ gb.2).1,(u3 _ _ go.2).1,(u3 _ _ gt.2).1,b.nm _ _ go.2,b.nm _ _ gt.2⟩,fun q v H' ra k'=>?_,fun q g' H' bk' k'=>?_⟩
   ·have eD:aC S (.join ib io it)=(.clash (bQ vb.m vo.m vt.m),{ S with made:=S.made++[0] }):=by
     unfold aC;rw[if_neg (by rw[eV,e];simp),if_neg (by show ¬ false=true;simp)];dsimp only;rw[gb.1,go.1,gt.1,if_neg q]
    refine kg (by rw[eV];exact e) rfl v ves H' ?_ ?_ ⟨0,by rw[eD],by rw[eD];exact rfl⟩ (List.prefix_refl _) fun c o hc _=>k' c o hc (by simp)
    ·have st:=b.day.step (by omega) ok
     have sn:=jn b.nm (.join ib io it);rw[eD] at st sn ⊢;exact⟨b.bk.kp k',b.ms,b.par,st,sn⟩
    ·rw[eD]
     exact ra
   ·have eD:aC S (.join ib io it)=(.ver S.ms.length,⟨S.ms++[(bF vb.m vo.m vt.m (S.ns.getD io.toNat []) S.st).m],S.ns++[(bF vb.m vo.m vt.m (S.ns.getD io.toNat []) S.st).nd],S.par++[some io.toNat],(bF vb.m vo.m vt.m (S.ns.getD io.toNat []) S.st).st,S.made++[(bF vb.m vo.m vt.m (S.ns.getD io.toNat []) S.st).made]⟩):=by
     unfold aC;rw[if_neg (by rw[eV,e];simp),if_neg (by show ¬ false=true;simp)];dsimp only;rw[gb.1,go.1,gt.1,if_pos q]
    refine kg (by rw[eV];exact e) rfl (nV ves.length) (ves++[⟨(bF vb.m vo.m vt.m (S.ns.getD io.toNat []) S.st).m,g',some io.toNat,(bF vb.m vo.m vt.m (S.ns.getD io.toNat []) S.st).made⟩]) H' ?_ ?_ ⟨_,by rw[eD],by rw[eD];exact⟨_,by rw[<- hl,List.getElem?_append_right (Nat.le_refl _),Nat.sub_self];rfl,rfl⟩⟩ (List.prefix_append _ _) k'
    ·have st:=b.day.step (by omega) ok
     have sn:=jn b.nm (.join ib io it);rw[eD] at st sn ⊢;refine⟨bk',?_,?_,st,sn⟩
     ·show _=S.ms++[_]
      rw[List.map_append,b.ms]
      rfl
     ·show _=S.par++[_]
      rw[List.map_append,b.par]
      rfl
    ·rw[eD]
     show nV ves.length=nV S.ms.length;rw[hl]
end
end
section
section
structure GG (K:PySem.W.Frag) (CNV CNN:Addr):Prop where
 vv:PySem.W.exmOne K (.ref CNV) (.ref CNV)=some true
 nv:PySem.W.exmOne K (.ref CNN) (.ref CNV)=some false
 nn:PySem.W.exmOne K (.ref CNN) (.ref CNN)=some true
noncomputable abbrev FV:Stmt:=(inClass (top 31) 9)
theorem Gz:az ["self","deed"] ["self","deed"] (aq FV):=by walk_at "s"
noncomputable def zZ (CN CV CB:Addr):Sp:=fun vs H Q _=>∃ (bk vl al d:Addr) (k:Nat) (S:LS) (ves:List fj) (as:List V) (D:cb),vs=[.ref bk,.ref d]/\nZ CN CV CB H bk vl al k S ves as/\k<=62/\H d=some (.tup (bT D))/\cW D /\
 ∀ (v:V) (ves':List fj) H',nZ CN CV CB H' bk vl al (k+1) (aC S D).2 ves' as->cC (fun r=>H r=none) H' v (aC S D).1->(∃ md,(aC S D).2.made=S.made++[md]/\fF ves' (aC S D).1 md)->ves <+: ves'->Kp H H' [vl]->Q v H'
theorem nZ.bad {CN CV CB:Addr}{H H':Hp}{bk vl al:Addr}{k:Nat}{S:LS}{ves:List fj}{as:List V} (b:nZ CN CV CB H bk vl al k S ves as) (h:Kp H H' []) (hk:k<=62) {D:cb} (ok:cW D) {a:xO} (e:aC S D=(a,{ S with made:=S.made++[0] })):nZ CN CV CB H' bk vl al (k+1) (aC S D).2 ves as:=by
 have st:=b.day.step (by omega) ok;have sn:=jn b.nm D;rw[e] at st sn ⊢;exact⟨b.bk.kp h,b.ms,b.par,st,sn⟩
theorem De {f CN CV CB CNV CNN:Addr}{fd:FuncData} (X_NoVersion:mg "NoVersion"=some (.ref CNV)) (X_NoName:mg "NoName"=some (.ref CNN)) (ex:GG K CNV CNN) (m_Book_made_by:cz P w K mg base (fu P w) 14 CB "made_by" ["self","deed"] (B9 CN CV CB CNV CNN))
  (F:cG K "answer_to" "Book.answer_to" FV f fd):aS P w K mg base aQ 15 f fd ["self","deed"] (zZ CN CV CB):=by
 have sc:=Gz;walk_at "f"
 ·obtain⟨_,_,_,_,_,_,_,_,_,rfl,_⟩:=h
  rfl
 ·obtain⟨bk,vl,al,d,k,S,ves,as,D,rfl,b,hk,hd,ok,kg⟩:=h
  refine⟨_,(ao (Bs ⟨rfl,rfl⟩ (fun pn E=>(ao (aw (dn m_Book_made_by hr qe (pv 0) (ag (pv 1) ae))))) (sF X_NoVersion (fun a=>(ao (aw ar))) (sF X_NoName (fun a=>(ao (aw ar))) x_)))),?_⟩;simp only[C3,DU];walk_at "rd";obtain⟨dx,hb⟩:=id b.bk.ob;refine⟨dx,_,hb,dY _ _ (by decide +kernel) (by decide +kernel),bk,vl,al,d,k,S,ves,as,D,rfl,b,hk,hd,ok,?_,?_,fun _ _ v ves' H'=>kg v ves' H'⟩
  ·intro e H' k' σ' hσ
   refine⟨_,ex.vv,?_⟩;rw[if_pos rfl];have eD:aC S D=(.noV,{ S with made:=S.made++[0] }):=by
    unfold aC;rw[if_pos e]
   exact kg _ ves H' (b.bad k' hk ok eD) (by rw[eD];rfl) ⟨0,by rw[eD],by rw[eD];rfl⟩ (List.prefix_refl _) fun c o hc _=>k' c o hc (by simp)
  ·intro e e' H' k' σ' hσ
   refine⟨_,ex.nv,?_⟩;rw[if_neg (by simp)];refine⟨_,ex.nn,?_⟩;rw[if_pos rfl];have eD:aC S D=(.noN,{ S with made:=S.made++[0] }):=by
    unfold aC;rw[if_neg (by rw[e];simp),if_pos e']
   exact kg _ ves H' (b.bad k' hk ok eD) (by rw[eD];rfl) ⟨0,by rw[eD],by rw[eD];rfl⟩ (List.prefix_refl _) fun c o hc _=>k' c o hc (by simp)
noncomputable abbrev FC:Stmt:=(inClass (top 31) 8)
theorem FF:az ["self","deed"] ["self","deed"] (aq FC):=by walk_at "s"
noncomputable def zS (CN CV CB:Addr):Sp:=fun vs H Q _=>∃ (bk vl al d:Addr) (k:Nat) (S:LS) (ves:List fj) (as:List V) (D:cb),vs=[.ref bk,.ref d]/\nZ CN CV CB H bk vl al k S ves as/\as.length=k/\k<=62/\H d=some (.tup (bT D))/\cW D /\
 ∀ (v:V) (ves':List fj) H',nZ CN CV CB H' bk vl al (k+1) (aC S D).2 ves' (as++[v])->cC (fun r=>H r=none) H' v (aC S D).1->(∃ md,(aC S D).2.made=S.made++[md]/\fF ves' (aC S D).1 md)->ves <+: ves'->Kp H H' [vl,al]->Q .non H'
theorem DQ {f CN CV CB:Addr}{fd:FuncData} (T:Cm K CB) (m_Book_answer_to:cz P w K mg base aQ 15 CB "answer_to" ["self","deed"] (zZ CN CV CB))
  (F:cG K "do" "Book.do" FC f fd):aS P w K mg base aQ 16 f fd ["self","deed"] (zS CN CV CB):=by
 have sc:=FF;walk_at "f"
 ·obtain⟨_,_,_,_,_,_,_,_,_,rfl,_⟩:=h
  rfl
 ·obtain⟨bk,vl,al,d,k,S,ves,as,D,rfl,b,la,hk,hd,ok,kg⟩:=h
  have hs:=sizeLine_eq;refine⟨_,(ao (ba (dF K PySem.F.plainAttrs_list PySem.F.slot_list_append PySem.F.type_list_append bf (aX K (pv 0) rfl) (ag (dn m_Book_answer_to hr eB (pv 0) (ag (pv 1) ae)) ae)))),?_⟩;walk_at "rd";obtain⟨dx,hb⟩:=id b.bk.ob;refine⟨CB,dx,_,hb,T.cl,T.na,_,iP _ _,.inl ⟨rfl,_,aO.of b.bk.an⟩,dx,_,hb,dY _ _ (by decide +kernel) (by decide +kernel),bk,vl,al,d,k,S,ves,as,D,rfl,b,hk,hd,ok,fun v ves' H' b' av md pre k'=>?_⟩;have han:=b'.bk.an;refine⟨al,rfl,_,han,by omega,?_⟩;obtain⟨⟨dx',hb'⟩,⟨vas,hv,hp⟩,_,ne⟩:=id b'.bk;refine kg v ves' _ ⟨⟨⟨dx',by rw[ah (bO hb' han (by intro z;cases z))];exact hb'⟩,⟨vas,by rw[ah ne];exact hv,Paired.imp' (fun a v x=>x.put han _) hp⟩,aa,ne⟩,b'.ms,b'.par,b'.day,b'.nm⟩ ?_ md pre fun c o hc hn=>?_
  ·have hkp:Kp H' (upd H' al (.lst (as++[v]))) [al]:=fun c o hc hn=>by
    rw[ah (fun z=>hn (by simp[z]))];exact hc
   refine cC.kp av hkp (fun _ _ f=>f) (fun r _ hr z=>?_) (fun c xs hc z=>?_)
   ·rw[List.mem_singleton] at z
    subst z;have h0:=b.bk.an;rw[hr] at h0
    cases h0
   ·rw[List.mem_singleton] at z
    subst z;rw[han] at hc
    cases hc
  ·rw[ah (fun z=>hn (by simp[z]))]
   exact k' c o hc (fun z=>hn (by rw[List.mem_singleton] at z;simp[z]))
noncomputable abbrev Gg:Stmt:=top 32
noncomputable abbrev G_:List Str:=["deeds","book","deed"]
theorem FT:az G_ ["deeds"] (aq Gg):=by walk_at "s"
structure FZ (CN CV CB:Addr) (H:Hp) (bk vl al:Addr) (ds:List cb) (ves:List fj) (as:List V):Prop where
 b:nZ CN CV CB H bk vl al ds.length (aU ds S0).2 ves as
 an:Paired (cC (fun r=>r∉[vl,al]) H) as (aU ds S0).1
 md:Paired (fun a md=>fF ves a md) (aU ds S0).1 (aU ds S0).2.made
noncomputable def yn (CN CV CB:Addr):Sp:=fun vs H Q _=>∃ (l:Addr) (das:List Addr) (ds:List cb),vs=[.ref l]/\ig H l das ds/\ds.length<=63 /\
 ∀ (bk vl al:Addr) (ves:List fj) (as:List V) H',FZ CN CV CB H' bk vl al ds ves as->H bk=none->Kp H H' []->Q (.ref bk) H'
theorem cC.imp {F F':Addr->Prop}{H:Hp}{v:V}{a:xO} (r:cC F H v a) (h:∀ r,F r->F' r):cC F' H v a:=by
 cases a with
 | ver n=>exact r
 | noV=>exact r
 | noN=>exact r
 | clash rows =>
  obtain⟨t,l,rs,e,f,z⟩:=r;exact⟨t,l,rs,e,h l f,z⟩
theorem fF.more {ves ves':List fj} (h:ves <+: ves') {a:xO}{md:Nat} (k:fF ves a md):fF ves' a md:=by
 cases a with
 | ver n =>
  obtain⟨v,hv,e⟩:=k;exact⟨v,xK h hv,e⟩
 | noV=>exact k
 | noN=>exact k
 | clash rows=>exact k
theorem gR {H:Hp}{p a:Addr}{o:HO} (h:upd H p o a=none):H a=none/\a≠p:=by
 by_cases z:a=p
 ·rw[z,aa] at h
  cases h
 ·rw[ah z] at h
  exact⟨h,z⟩
structure Ho (CN CV CB:Addr) (H1:Hp) (l bk vl al:Addr) (ds:List cb) (i:Nat) (σ:L2.St) (H2:Hp):Prop where
 ls:∃ x,σ=[some (.ref l),some (.ref bk),x]
 bd:∃ ves as,FZ CN CV CB H2 bk vl al (ds.take i) ves as
 kp:Kp H1 H2 [vl,al]
theorem Dy {f CN CV CB:Addr}{fd:FuncData} (n_Book:gg P w K mg base 15 "Book" CB ["self"] (wA CN CV CB)) (m_Book_do:cz P w K mg base aQ 16 CB "do" ["self","deed"] (zS CN CV CB))
  (F:cG K "book_of" "book_of" Gg f fd):aS P w K mg base aQ 17 f fd ["deeds"] (yn CN CV CB):=by
 have sc:=FT;walk_at "f"
 ·obtain⟨_,_,_,rfl,_⟩:=h
  rfl
 ·obtain⟨l,das,ds,rfl,⟨hl,hpd,_,okd⟩,h63,k⟩:=h
  have hs:=sizeLine_eq;refine⟨_,(af (au (i:=1) sc.nd rfl (by walk_at "o") (BA n_Book hr))
   (af (dt PassesOwn.never rfl (bq K (pv 0)) (aM (i:=2) sc.nd rfl (by walk_at "o")) (ao (ba (dn m_Book_do hr eB (pv 1) (ag (pv 2) ae)))))
   (ao (aw (pv 1))))),?_⟩
  walk_at "rd";intro bk dx nb nd neb;refine⟨bk,dx,rfl,aa,fun vl al H1 Bk nvl nal oth=>?_⟩;have n1:H vl=none/\H al=none:=⟨(gR (gR nvl).1).1,(gR (gR nal).1).1⟩;have kp1:Kp H H1 []:=fun b o e _=>by
   refine oth b o (ai e nb) ?_;rw[ah (ai e nb),ah (ai e nd)];exact e
  refine⟨rfl,?_⟩;have d0:FZ CN CV CB H1 bk vl al (ds.take 0) [V0] []:=by
   rw[List.take_zero];exact⟨⟨Bk,rfl,rfl,yK,CF⟩,.nil,.nil⟩
  have lp:=aN hpd;have nl:l∉[vl,al]:=fun z=>by
   simp only[List.mem_cons,List.not_mem_nil,or_false] at z;rcases z with rfl|rfl
   ·rw[n1.1] at hl;cases hl
   ·rw[n1.2] at hl;cases hl
  refine⟨⟨_,aO.of (kp1 _ _ hl (by simp))⟩,cq (xs:=das.map V.ref) (Ho CN CV CB H1 l bk vl al ds) ⟨⟨_,rfl⟩,⟨_,_,d0⟩,Kp.refl _ _⟩ (fun i σ H2 iv=>aO.of (iv.kp _ _ (kp1 _ _ hl (by simp)) nl)) (fun i x σ H2 hx iv=>?_) (fun σ H2 iv=>?_)⟩
  ·obtain⟨⟨x1,rfl⟩,⟨ves,as,BD⟩,kp⟩:=iv
   rw[List.getElem?_map] at hx;obtain⟨a,ha,rfl⟩:=Option.map_eq_some_iff.mp hx;obtain⟨D,hD,hat⟩:=cg hpd ha;have hi:i<ds.length:=(List.getElem?_eq_some_iff.mp hD).1;have na:a∉[vl,al]:=fun z=>by
    simp only[List.mem_cons,List.not_mem_nil,or_false] at z;rcases z with rfl|rfl
    ·rw[n1.1] at hat;cases hat
    ·rw[n1.2] at hat;cases hat
   have hat2:=kp _ _ (kp1 _ _ hat (by simp)) na;walk_at "rd";obtain⟨dx2,hb2⟩:=id BD.b.bk.ob;have lt:(ds.take i).length=i:=by rw[List.length_take];omega
   have la:as.length=i:=by
    have:=aN BD.an;rw[jJ,lt] at this;exact this
   have et:ds.take (i+1)=ds.take i++[D]:=by rw[List.take_add_one,hD];rfl
   have bb:=BD.b;rw[lt] at bb;refine⟨dx2,_,hb2,dY _ _ (by decide +kernel) (by decide +kernel),bk,vl,al,a,i,(aU (ds.take i) S0).2,ves,as,D,rfl,bb,la,by omega,hat2,okd D (List.mem_of_getElem? hD),fun v ves' H' b' av md pre k'=>⟨⟨_,rfl⟩,⟨ves',as++[v],?_⟩,kp.trans k'⟩⟩;obtain⟨md,em,mo⟩:=md;refine⟨?_,?_,?_⟩
   ·rw[et,dc,List.length_append,lt]
    exact b'
   ·rw[et,dc]
    have tt:∀ c xs,H2 c=some (.tup xs)->c∉[vl,al]:=fun c xs hc z=>by
     simp only[List.mem_cons,List.not_mem_nil,or_false] at z;obtain⟨_,⟨vas,hv,_⟩,ha,_⟩:=id bb.bk;rcases z with rfl|rfl
     ·rw[hv] at hc;cases hc
     ·rw[ha] at hc;cases hc
    refine aZ (Paired.imp' (fun a d q=>cC.kp q k' (fun _ _ f=>f) (fun _ _ f=>f) tt) BD.an) ?_;refine cC.imp av fun r hr z=>?_;simp only[List.mem_cons,List.not_mem_nil,or_false] at z;obtain⟨_,⟨vas,hv,_⟩,ha,_⟩:=id bb.bk;rcases z with rfl|rfl
    ·rw[hr] at hv;cases hv
    ·rw[hr] at ha;cases ha
   ·rw[et,dc]
    dsimp only;rw[em];exact aZ (Paired.imp' (fun a d q=>q.more pre) BD.md) mo
  ·obtain⟨⟨x1,rfl⟩,⟨ves,as,BD⟩,kp⟩:=iv
   rw[List.length_map,lp,List.take_of_length_le (Nat.le_refl _)] at BD;walk_at "rd";refine k bk vl al ves as H2 BD nb fun c o hc _=>kp c o (kp1 c o hc (by simp)) fun z=>?_;simp only[List.mem_cons,List.not_mem_nil,or_false] at z;rcases z with rfl|rfl
   ·rw[n1.1] at hc;cases hc
   ·rw[n1.2] at hc;cases hc
end
end
section
section
structure Full (m:Mp) (full:List Nm):Prop where
 ss:full.Pairwise (·<·)
 mem:∀ b,b∈full↔n_ m b
 len:full.length<=6000
 lo:∀ b∈full,b.length<=90
theorem lZ:∀ (l:List Nm),∃ r:List Nm,r.Nodup/\(∀ x,x∈r↔x∈l)/\r.length<=l.length
 | []=>⟨[],.nil,fun _=>Iff.rfl,Nat.le_refl _⟩
 | a::l=>by
  obtain⟨r,nd,hm,hl⟩:=lZ l
  by_cases h:a∈r
  ·refine⟨r,nd,fun x=>?_,Nat.le_succ_of_le hl⟩
   rw[List.mem_cons,hm];exact⟨.inr,fun z=>z.elim (fun e=>e ▸ (hm a).mp h) id⟩
  ·refine⟨a::r,List.nodup_cons.mpr ⟨h,nd⟩,fun x=>?_,Nat.succ_le_succ hl⟩
   rw[List.mem_cons,List.mem_cons,hm]
theorem yk {m:Mp}{U:List Nm} (h:yu m m U):∃ full,Full m full:=by
 obtain⟨r,nd,hm,hl⟩:=lZ ((oa U).filter fun b=>nF m b);have mem:∀ b,b∈dN r↔n_ m b:=fun b=>by
  rw[(aR r).mem_iff,hm,List.mem_filter,oO];exact⟨fun z=>z.2,fun z=>⟨mM h (.inl z),z⟩⟩
 refine⟨dN r,eT nd,mem,?_,fun b hb=>mq h (mM h (.inl ((mem b).mp hb)))⟩;rw[(aR r).length_eq];have:=List.length_filter_le (fun b=>nF m b) (oa U);have:=sP h;omega
noncomputable def gk (H:Hp) (g:Nm->Option Addr) (a:Addr) (b:Nm):Prop:=H a=some (.tup [sV b,pt (g b)])
noncomputable abbrev EG:Stmt:=top 27
noncomputable abbrev GC:List Str:=["beginning","node","letters"]
theorem Ge:az GC ["beginning","node"] (aq EG):=by walk_at "s"
theorem Ae:(["letter","beginning","node"]:List Str).Nodup:=by decide +kernel
noncomputable def Af (CN:Addr):Sp:=fun vs H Q _=>∃ (m:Mp) (g:Nm->Option Addr) (b:Nm) (a:Addr),vs=[sV b,.ref a]/\Tree CN H m g/\g b=some a/\b.length<=1000 /\
 ∀ (q:Addr) (L:List Nat) (ps:List Addr) H',L.Pairwise (·<·)->(∀ c,c∈L↔(g (b++[c])).isSome=true)->H' q=some (.lst (ps.map V.ref))->Paired (fun p c=>gk H' g p (b++[c])) ps L.reverse->Kp H H' []->Q (.ref q) H'
structure Fb (H4:Hp) (g:Nm->Option Addr) (b:Nm) (L:List Nat) (i:Nat) (ys:List V) (H':Hp):Prop where
 ex:∃ ps:List Addr,ys=ps.map V.ref/\ps.length=i/\Paired (fun p c=>gk H' g p (b++[c])) ps (L.reverse.take i)
 kp:Kp H4 H' []
theorem C1 {f CN:Addr}{fd:FuncData} (B:Bl mg) (T:zq K CN) (cnode_behind:bM P w K mg base aQ 2 "node_behind" ["node","letter"] (pN CN)) (F:cG K "pairs_behind" "pairs_behind" EG f fd):aS P w K mg base aQ 3 f fd ["beginning","node"] (Af CN):=by
 have sc:=Ge;have nd_letter_beginning_node:=Ae;walk_at "f"
 ·obtain⟨_,_,_,_,rfl,_⟩:=h
  rfl
 ·obtain⟨m,g,b,a,rfl,Tr,hg,hb,k⟩:=h
  have hs:=sizeLine_eq;refine⟨_,(af (au (i:=2) sc.nd rfl (by walk_at "o") (yF (tR rfl) rfl B.srt (aX K (pv 1) rfl)))
   (ao (aw (cx (N':=["letter","beginning","node"]) (ix:=[none,some 0,some 1]) rfl ?S1 (bq K (pv 2)) (fun cl C fp s H=>(aM (i:=0) nd_letter_beginning_node rfl (by walk_at "o"))) (fun cl C fp s H=>di) (fun cl C fp s H=>(bH (ag (aA cA (pv 1) (pv 0)) (ag (bh cnode_behind hr (ag (pv 2) (ag (pv 0) ae))) ae)))))))),?_⟩
  case S1=>exact kG.is (N:=GC) (osc:=aq EG) (by decide +kernel)
  walk_at "rd";simp only[y_];walk_at "rd";have hp:=(Tr b).1;rw[hg] at hp;obtain⟨dx,d,kvs,h1,h2,h3⟩:=hp;obtain⟨ds,nd,e,hl,hm,hab⟩:=mS h3;have hlen:=qf h3;refine⟨CN,dx,_,h1,T.cl,T.nb,_,cE _ _,d,rfl,_,h2,ds.map (fun c=>tx [c]),?_,by rw[List.length_map];omega,fun p ss hp pm srt=>?_⟩
  ·have:(aP V.ref kvs).map (fun kv=>kV kv.1)=(kvs.map (·.1)).map sV:=by
    unfold aP;rw[List.map_map,List.map_map]
    rfl
   rw[this,e,List.map_map,List.map_map]
   rfl
  ·obtain⟨L,eL,sL,pL⟩:=gJ nd ((List.reverse_perm _).trans pm) (List.pairwise_reverse.mpr srt)
   have es:ss=(L.reverse).map fun c=>tx [c]:=by rw[List.map_reverse,<- eL,List.reverse_reverse]
   subst es;have hll:L.length=ds.length:=pL.length_eq;have k1:Kp H (upd H p (.lst ((L.reverse.map fun c=>tx [c]).map V.str))) []:=(Kp.refl H []).new hp;have hp1:(upd H p (.lst ((L.reverse.map fun c=>tx [c]).map V.str))) p=some (.lst ((L.reverse.map fun c=>tx [c]).map V.str)):=aa;generalize upd H p (.lst ((L.reverse.map fun c=>tx [c]).map V.str))=H4 at k1 hp1 ⊢;refine⟨⟨_,aO.of hp1⟩,de (xs:=(L.reverse.map fun c=>tx [c]).map V.str) (Fb H4 g b L) ⟨⟨[],rfl,rfl,.nil⟩,Kp.refl _ _⟩ (by rw[List.length_map,List.length_map,List.length_reverse];omega) ?_ ?_ ?_ ?_⟩
   ·rintro i ys H' ⟨⟨ps,rfl,hl',_⟩,_⟩
    rw[List.length_map,hl'];exact Nat.le_refl _
   ·rintro i ys H' ⟨_,kp⟩
    exact aO.of (kp _ _ hp1 (by simp))
   ·rintro i ys H' x hx ⟨⟨ps,rfl,hl',hpr⟩,kp⟩ R R' r1 r2
    rw[List.map_map,List.getElem?_map] at hx;obtain⟨c,hc,rfl⟩:=Option.map_eq_some_iff.mp hx;refine⟨Wk.set rfl,?_⟩;walk_at "rd";have T4:=(Tr.kp k1).kp kp;have tl:(tx b).length+(tx [c]).length=b.length+1:=by simp[Str.length]
    have et:tx b++tx [c]=tx (b++[c]):=by
     rw[gx (tx b++tx [c]),ef,dM,dM]
    refine⟨tx b,rfl,tx [c],rfl,by omega,g b,_,_,c,by rw[hg];rfl,(T4 b).1,by omega,fun t ht=>?_⟩;rw[et];have k5:Kp H' (upd H' t (.tup [sV (b++[c]),pt (g (b++[c]))])) []:=(Kp.refl H' []).new ht;refine r1 _ _ ⟨⟨ps++[t],by rw[List.map_append];rfl,by rw[List.length_append,hl'];rfl,?_⟩,kp.trans k5⟩;rw[List.take_add_one,hc];exact aZ (Paired.imp' (fun p c x=>k5 _ _ x (by simp)) hpr) aa
   ·rintro ys H' ⟨⟨ps,rfl,hl',hpr⟩,kp⟩ d2 hd2
    rw[List.length_map,List.length_map,List.take_of_length_le (Nat.le_refl _)] at hpr;have k6:Kp H' (upd H' d2 (.lst (ps.map V.ref))) []:=(Kp.refl H' []).new hd2;refine k d2 L ps _ sL (fun c=>?_) aa (Paired.imp' (fun p c x=>k6 _ _ x (by simp)) hpr) ((k1.trans kp).trans k6);rw[pL.mem_iff,hm]
structure Gh (full done bs:List Nm) (M:Nat):Prop where
 all:full=done++(bs.reverse.flatMap fun b=>under full b)
 inB:∀ b∈bs,b∈full
 sum:(bs.map fun b=>cnt full b).sum=M
 le:M<=full.length
theorem sg {full:List Nm}:∀ (bs:List Nm),(∀ b∈bs,b∈full)->bs.length<=(bs.map fun b=>cnt full b).sum
 | [],_=>Nat.le_refl _
 | b::bs,h=>by
  rw[List.map_cons,List.sum_cons,List.length_cons];have:=sg bs fun x hx=>h x (List.mem_cons_of_mem _ hx);have:=nU (h b List.mem_cons_self);omega
theorem vy {full done bs:List Nm}{b:Nm}{M:Nat} (ss:full.Pairwise (·<·)) (S:Gh full done (bs++[b]) M) {L:List Nat} (sL:L.Pairwise (·<·)) (mL:∀ c,c∈L↔b++[c]∈full) (pre:∀ n∈full,∀ c,b++[c] <+: n->b++[c]∈full) :
  ∃ M',M'<M/\Gh full (done++[b]) (bs++L.reverse.map fun c=>b++[c]) M':=by
 have hb:=S.inB b (List.mem_append_right _ (List.mem_singleton.mpr rfl));have nd:L.Nodup:=by
  rw[List.nodup_iff_pairwise_ne];exact sL.imp fun {a b} h=>Nat.ne_of_lt h
 have st:=kA hb nd;have sm:=S.sum;have le:=S.le;rw[List.map_append,List.sum_append,List.map_singleton,List.sum_singleton] at sm;have e:((bs++L.reverse.map fun c=>b++[c]).map fun b=>cnt full b).sum=(bs.map fun b=>cnt full b).sum+(L.map fun c=>cnt full (b++[c])).sum:=by
  rw[List.map_append,List.sum_append,List.map_map];congr 1;exact rY L _
 refine⟨_,?_,?_,fun x hx=>?_,rfl,?_⟩
 ·rw[e];omega
 ·have al:=S.all
  rw[List.reverse_append,List.reverse_singleton,List.singleton_append,List.flatMap_cons] at al;have us:=kz ss b L sL fun n hn c p=>(mL c).mpr (pre n hn c p);rw[if_pos hb] at us;rw[us] at al;rw[List.reverse_append,<- List.map_reverse,List.reverse_reverse,List.flatMap_append,List.flatMap_map];rw[<- List.append_assoc] at al
  conv=>lhs;rw[al]
  simp only[List.append_assoc]
 ·rcases List.mem_append.mp hx with z|z
  ·exact S.inB x (List.mem_append_left _ z)
  ·obtain⟨c,hc,rfl⟩:=List.mem_map.mp z
   exact (mL c).mp (List.mem_reverse.mp hc)
 ·rw[e];omega
theorem oH {m:Mp}{b n:Nm} (h:n_ m n) (p:b <+: n):n_ m b:=by
 obtain⟨j,hj,q⟩:=h;exact⟨j,hj,p.trans q⟩
theorem vx {g:Nm->Option Addr}{H H':Hp}{ps:List Addr}{bs:List Nm} (h:Paired (gk H g) ps bs) (k:Kp H H' []):Paired (gk H' g) ps bs:=Paired.imp' (fun a b x=>k _ _ x (by simp)) h
theorem fY {g:Nm->Option Addr}{H:Hp}{ps:List Addr}{bs:List Nm} (h:Paired (gk H g) ps bs) {p:Addr}{xs:List V} (hp:H p=some (.lst xs)) (o:HO):Paired (gk (upd H p o) g) ps bs :=
 Paired.imp' (fun a b x=>by unfold gk;rw[ah (bO x hp (by intro z;cases z))];exact x) h
noncomputable abbrev Gn:Stmt:=top 26
noncomputable abbrev Hc:List Str:=["root","found","ahead","pair"]
theorem E_:az Hc ["root"] (aq Gn):=by walk_at "s"
noncomputable def A5 (CN:Addr):Sp:=fun vs H Q _=>∃ (m:Mp) (g:Nm->Option Addr) (full:List Nm),vs=[pt (g [])]/\Tree CN H m g/\Full m full /\
 ∀ (p:Addr) (ps:List Addr) H',H' p=some (.lst (ps.map V.ref))->Paired (gk H' g) ps full->Kp H H' []->Q (.ref p) H'
structure GD (H:Hp) (g:Nm->Option Addr) (full:List Nm) (r q:Addr) (M:Nat) (σ:L2.St) (H2:Hp):Prop where
 ex:∃ (pl:Option V) (rs ps:List Addr) (done bs:List Nm),σ=[some (pt (g [])),some (.ref r),some (.ref q),pl]/\H2 r=some (.lst (rs.map V.ref))/\Paired (gk H2 g) rs done/\H2 q=some (.lst (ps.map V.ref))/\Paired (gk H2 g) ps bs/\Gh full done bs M
 kp:Kp H H2 []
 hr:H r=none
 hq:H q=none
 ne:r≠q
theorem Df {f CN:Addr}{fd:FuncData} (B:Bl mg) (cpairs_behind:bM P w K mg base aQ 4 "pairs_behind" ["beginning","node"] (Af CN)) (F:cG K "nodes_of" "nodes_of" Gn f fd):aS P w K mg base aQ 5 f fd ["root"] (A5 CN):=by
 have sc:=E_;walk_at "f"
 ·obtain⟨_,_,_,rfl,_⟩:=h
  rfl
 ·obtain⟨m,g,full,rfl,T,Fu,k⟩:=h
  have hs:=sizeLine_eq;refine⟨_,(af (au (i:=1) sc.nd rfl (by walk_at "o") (aT ae))
   (af (au (i:=2) sc.nd rfl (by walk_at "o") (fw (da (fh (pv 0))) (aT ae) (aT (ag (bH (ag ar (ag (pv 0) ae))) ae))))
   (af (km PassesOwn.never (aF vK (br (bc K) rfl B.len boot_len (ag (pv 2) ae)) aj (aK _)) (af (au (i:=3) sc.nd rfl (by walk_at "o") (js K PySem.F.plainAttrs_list PySem.F.slot_list_pop PySem.F.type_list_pop nu (pv 2)))
    (af (ba (dF K PySem.F.plainAttrs_list PySem.F.slot_list_append PySem.F.type_list_append bf (pv 1) (ag (pv 3) ae)))
    (ao (ba (dF K PySem.F.plainAttrs_list PySem.F.slot_list_extend PySem.F.type_list_extend fX (pv 2) (ag (bh cpairs_behind hr (ag (aG (aH K) (pv 3) aj (fun _ _=>rfl)) (ag (aG (aH K) (pv 3) aj (fun _ _=>rfl)) ae))) ae)))))))
   (ao (aw (pv 1)))))),?_⟩
  walk_at "rd";refine⟨by omega,fun r hr0=>?_⟩;generalize hW:qL _ _ _=W;have loop:∀ (q:Addr) (H2:Hp) (M:Nat),GD H g full r q M [some (pt (g [])),some (.ref r),some (.ref q),none] H2->W [some (pt (g [])),some (.ref r),some (.ref q),none] H2:=by
   intro q H2 M iv;rw[<- hW];refine mw (fun m σ H'=>GD H g full r q m σ H') M iv ?_ ?_
   ·rintro M σ H3 ⟨⟨pl,rs,ps,done,bs,rfl,h1,h2,h3,h4,S⟩,kp,_,hq0,rq⟩
    walk_at "rd";have dl:done.length<=full.length:=by
     have:=congrArg List.length S.all;rw[List.length_append] at this;omega
    have fl:=Fu.len;have rl:=aN h2;rcases List.eq_nil_or_concat bs with rfl|⟨bs',b,rfl⟩
    ·cases h4
     refine⟨0,.inl ⟨_,aO.of h3,rfl⟩,?_⟩;rw[if_neg (by simp)];have al:=S.all;rw[List.reverse_nil,List.flatMap_nil,List.append_nil] at al;exact k r rs _ h1 (by rw[al];exact h2) kp
    ·rw[List.concat_eq_append] at h4 S
     obtain⟨ps',a,rfl,h4',pa⟩:=eG h4;refine⟨ps'.length+1,.inl ⟨_,aO.of h3,by simp⟩,?_⟩;rw[if_pos (by simp)];have em:(ps'++[a]).map V.ref=ps'.map V.ref++[.ref a]:=by rw[List.map_append];rfl
     rw[em] at h3;refine⟨.inl ⟨rfl,_,aO.of h3⟩,_,h3,V.ref a,by simp,?_⟩;rw[List.dropLast_concat];have k4:Kp H (upd H3 q (.lst (ps'.map V.ref))) []:=kp.new hq0;have f3:(upd H3 q (.lst (ps'.map V.ref))) q=some (.lst (ps'.map V.ref)):=aa;have f1:(upd H3 q (.lst (ps'.map V.ref))) r=some (.lst (rs.map V.ref)):=by rw[ah rq];exact h1
     have f2:=fY h2 h3 (.lst (ps'.map V.ref));have f4:=fY h4' h3 (.lst (ps'.map V.ref));have fa:gk (upd H3 q (.lst (ps'.map V.ref))) g a b:=by
      unfold gk;rw[ah (bO pa h3 (by intro z;cases z))];exact pa
     generalize upd H3 q (.lst (ps'.map V.ref))=H4 at k4 f1 f2 f3 f4 fa ⊢;have hbf:=S.inB b (List.mem_append_right _ (List.mem_singleton.mpr rfl));have k5:Kp H (upd H4 r (.lst (rs.map V.ref++[.ref a]))) []:=k4.new hr0;have i1:(upd H4 r (.lst (rs.map V.ref++[.ref a]))) r=some (.lst ((rs++[a]).map V.ref)):=by rw[aa,List.map_append];rfl
     have i2:=fY (aZ f2 fa) f1 (.lst (rs.map V.ref++[.ref a]));have i3:(upd H4 r (.lst (rs.map V.ref++[.ref a]))) q=some (.lst (ps'.map V.ref)):=by rw[ah rq.symm];exact f3
     have i4:=fY f4 f1 (.lst (rs.map V.ref++[.ref a]));have ia:gk (upd H4 r (.lst (rs.map V.ref++[.ref a]))) g a b:=by
      unfold gk;rw[ah (bO fa f1 (by intro z;cases z))];exact fa
     refine⟨.inl ⟨rfl,_,aO.of f1⟩,_,f1,by rw[List.length_map];omega,?_⟩;generalize upd H4 r (.lst (rs.map V.ref++[.ref a]))=H5 at k5 i1 i2 i3 i4 ia ⊢;have T5:=T.kp k5;obtain⟨ga,hga⟩:∃ ga,g b=some ga:=Option.isSome_iff_exists.mp ((T5 b).2.mpr ((Fu.mem b).mp hbf));have ia':H5 a=some (.tup [sV b,.ref ga]):=by
      have:=ia;unfold gk at this;rw[hga] at this;exact this
     have bl:=Fu.lo b hbf;refine⟨.inl ⟨rfl,_,aO.of i3⟩,a,rfl,_,cI.of ia',sV b,rfl,a,rfl,_,cI.of ia',.ref ga,rfl,m,g,b,ga,rfl,T5,hga,by omega,fun q2 L ps2 H7 sL mL hq2 hpr k7=>?_⟩;obtain⟨M',lt,S'⟩:=vy Fu.ss S sL (fun c=>by rw[mL,(T5 _).2,Fu.mem]) fun n hn c p=>(Fu.mem _).mpr (oH ((Fu.mem n).mp hn) p);have j1:=k7 r _ i1 (by simp);have j3:=k7 q _ i3 (by simp);have ln:=sg _ S'.inB;rw[S'.sum] at ln;have le:=S'.le;have lp2:=aN hpr;have lp1:=aN i4;have l1:(bs'++L.reverse.map fun c=>b++[c]).length=ps'.length+ps2.length:=by rw[List.length_append,List.length_map,<- lp2,<- lp1]
     refine⟨q2,rfl,_,j3,_,hq2,by rw[List.length_map,List.length_map];omega,M',lt,⟨some (.ref a),rs++[a],ps'++ps2,_,_,rfl,?_,fY (vx i2 k7) j3 _,?_,?_,S'⟩,(k5.trans k7).new hq0,hr0,hq0,rq⟩
     ·rw[ah rq];exact j1
     ·rw[aa,List.map_append]
     ·exact fY (gF (vx i4 k7) (gG (fun c=>b++[c]) hpr)) j3 _
   ·intro σ H2 Q1 Q2 mono h
    revert h;walk_at "rd";rintro ⟨v,e1,n,e2,z⟩;exact⟨v,e1,n,e2,mono _ _ z⟩
  have k0:Kp H (upd H r (.lst [])) []:=(Kp.refl H []).new hr0
  cases eg:g [] with
  | none =>
   rw[if_pos Ck];refine⟨by omega,fun q hq=>?_⟩;have e0:full=[]:=by
    cases hf:full with
    | nil=>rfl
    | cons b t =>
     have hb:n_ m b:=(Fu.mem b).mp (by rw[hf];exact List.mem_cons_self);have:=(T []).2.mpr (oH hb (List.nil_prefix));rw[eg] at this
     cases this
   have rq:r≠q:=fun z=>by rw[<- z,aa] at hq;cases hq
   rw[<- eg];exact loop q _ 0 ⟨⟨none,[],[],[],[],rfl,by rw[ah rq];exact aa,.nil,aa,.nil,⟨by rw[e0];rfl,(fun b hb=>nomatch hb),rfl,Nat.zero_le _⟩⟩,k0.new (k0.free hq (by simp)),hr0,k0.free hq (by simp),rq⟩
  | some a =>
   rw[if_neg (Cr _)];refine⟨by omega,fun t ht=>⟨by omega,fun q hq=>?_⟩⟩;have k1:Kp (upd H r (.lst [])) (upd (upd H r (.lst [])) t (.tup [V.str (Str.ofString ""),pt (some a)])) []:=(Kp.refl _ []).new ht;have k2:=k0.trans k1;have hr1:=k1 r _ aa (by simp);have ht1:(upd (upd H r (.lst [])) t (.tup [V.str (Str.ofString ""),pt (some a)])) t=some (.tup [V.str (Str.ofString ""),pt (some a)]):=aa;generalize (upd (upd H r (.lst [])) t (.tup [V.str (Str.ofString ""),pt (some a)]))=H1 at k1 k2 hr1 ht1 hq ⊢;have rq:r≠q:=ai hr1 hq;have hf:[]∈full:=(Fu.mem []).mpr ((T []).2.mp (by rw[eg];rfl));have et:V.str (Str.ofString "")=sV []:=by decide +kernel
   rw[<- eg];refine loop q _ (cnt full []) ⟨⟨none,[],[t],[],[[]],rfl,by rw[ah rq];exact hr1,.nil,aa,.cons ?_ .nil,⟨?_,?_,?_,?_⟩⟩,k2.new (k2.free hq (by simp)),hr0,k2.free hq (by simp),rq⟩
   ·unfold gk
    rw[ah (ai ht1 hq),ht1,et,eg]
   ·rw[List.nil_append,List.reverse_singleton,List.flatMap_singleton]
    unfold under
    symm
    rw[List.filter_eq_self];intro a _
    rfl
   ·intro b hb
    rw[List.mem_singleton.mp hb];exact hf
   ·rw[List.map_singleton,List.sum_singleton]
   ·unfold cnt
    exact List.length_filter_le _ _
theorem nZ.get' {CN CV CB:Addr}{H:Hp}{bk vl al:Addr}{k:Nat}{S:LS}{ves:List fj}{as:List V} (b:nZ CN CV CB H bk vl al k S ves as) (hk:k<=63) {i:Nat}{m:Mp} (h:S.ms[i]?=some m):∃ v full,ves[i]?=some v/\v.m=m/\bJ ves.length (i:Int)=false/\Full m full/\aB m:=by
 obtain⟨U,u1,u2,u3⟩:=b.day.us;have h0:=h;obtain⟨nd,hu⟩:=u3 i m h;obtain⟨full,Fu⟩:=yk (m:=m) (U:=U) ⟨by omega,u2,fun n z=>hu n (z.elim id id)⟩;rw[<- b.ms,List.getElem?_map] at h;obtain⟨v,hv,e⟩:=Option.map_eq_some_iff.mp h;have hi:i<ves.length:=(List.getElem?_eq_some_iff.mp hv).1;refine⟨v,full,hv,e,?_,Fu,nd⟩;unfold bJ;simp only[Bool.or_eq_false_iff,decide_eq_false_iff_not];omega
end
end
section
section
noncomputable abbrev EW:Stmt:=top 28
theorem Fl:az ["root"] ["root"] (aq EW):=by walk_at "s"
theorem DO:(["beginning","node"]:List Str).Nodup:=by decide +kernel
noncomputable def Ac (CN:Addr):Sp:=fun vs H Q _=>∃ (m:Mp) (g:Nm->Option Addr) (full:List Nm),vs=[pt (g [])]/\Tree CN H m g/\Full m full/\aB m /\
 ∀ (p:Addr) H',gQ H' p m (bo m)->Kp H H' []->Q (.ref p) H'
structure Hj (H4:Hp) (m:Mp) (full:List Nm) (i:Nat) (ys:List V) (H':Hp):Prop where
 ex:∃ rs:List Addr,ys=rs.map V.ref/\rs.length<=i/\Paired (fun a n=>∃ v,ak m n=some v/\H' a=some (.tup [sV n,sV v])) rs ((full.take i).filter fun b=>(ak m b).isSome)
 kp:Kp H4 H' []
theorem sU {m:Mp}{full:List Nm} (Fu:Full m full) (nd:aB m):(full.filter fun b=>(ak m b).isSome)=bo m:=by
 refine fB (Fu.ss.sublist List.filter_sublist) (eT nd) fun x=>?_;unfold bo;rw[List.mem_filter,(aR _).mem_iff,Fu.mem];constructor
 ·rintro ⟨_,h⟩
  exact (mem_keys _ _).mpr h
 ·intro h
  exact⟨⟨x,(mem_keys _ _).mp h,List.prefix_refl _⟩,(mem_keys _ _).mp h⟩
theorem CU {f CN:Addr}{fd:FuncData} (T0:zq K CN) (cnodes_of:bM P w K mg base aQ 6 "nodes_of" ["root"] (A5 CN)) (F:cG K "entries_of" "entries_of" EW f fd):aS P w K mg base aQ 7 f fd ["root"] (Ac CN):=by
 have sc:=Fl;have nd_beginning_node:=DO;walk_at "f"
 ·obtain⟨_,_,_,rfl,_⟩:=h
  rfl
 ·obtain⟨m,g,full,rfl,T,Fu,nd,k⟩:=h
  have hs:=sizeLine_eq;have fl:=Fu.len;refine⟨_,(ao (aw (cx (N':=["beginning","node"]) (ix:=[none,none]) rfl ?S1 (bq K (bh cnodes_of hr (ag (pv 0) ae))) (fun cl C fp s H=>(mB K (n:=2) rfl (cN (aM (i:=0) nd_beginning_node rfl (by walk_at "o")) (cN (aM (i:=1) nd_beginning_node rfl (by walk_at "o")) jj)))) (fun cl C fp s H=>(dA (da (jm (aX K (pv 1) rfl))))) (fun cl C fp s H=>(bH (ag (pv 0) (ag (aX K (pv 1) rfl) ae))))))),?_⟩
  case S1=>exact kG.is (N:=["root"]) (osc:=aq EW) (by decide +kernel)
  walk_at "rd";refine⟨m,g,full,rfl,T,Fu,fun p ps H1 hp hpr k1=>?_⟩;have pl:=aN hpr;have T1:=T.kp k1;refine⟨p,rfl,⟨_,aO.of hp⟩,de (xs:=ps.map V.ref) (Hj H1 m full) ⟨⟨[],rfl,Nat.le_refl _,.nil⟩,Kp.refl _ _⟩ (by rw[List.length_map];omega) ?_ ?_ ?_ ?_⟩
  ·rintro i ys H' ⟨⟨rs,rfl,hl',_⟩,_⟩
   rw[List.length_map];exact hl'
  ·rintro i ys H' ⟨_,kp⟩
   exact aO.of (kp _ _ hp (by simp))
  ·rintro i ys H' x hx ⟨⟨rs,rfl,hl',hrs⟩,kp⟩ R R' r1 r2
   rw[List.getElem?_map] at hx;obtain⟨a,ha,rfl⟩:=Option.map_eq_some_iff.mp hx;obtain⟨b,hb,hat⟩:=cg hpr ha;have hat':H' a=some (.tup [sV b,pt (g b)]):=kp _ _ hat (by simp);have T4:=T1.kp kp;have hbf:=(Fu.mem b).mp (List.mem_of_getElem? hb);obtain⟨ga,hga⟩:∃ ga,g b=some ga:=Option.isSome_iff_exists.mp ((T4 b).2.mpr hbf);have hn:=(T4 b).1;rw[hga] at hn hat';obtain⟨dx,d,kvs,h1,h2,h3⟩:=hn;walk_at "rd";refine⟨_,cI.of hat',rfl,_,_,rfl,_,_,rfl,rfl,Wk.FJ (i:=0) (j:=1) rfl rfl,ga,rfl,CN,dx,_,h1,T0.cl,T0.nv,_,eC _ _,?_⟩;have tk:full.take (i+1)=full.take i++[b]:=by rw[List.take_add_one,hb];rfl
   cases ev:ak m b with
   | none =>
    rw[if_neg (by simp[oV])];refine r2 _ ⟨⟨rs,rfl,Nat.le_succ_of_le hl',?_⟩,kp⟩;rw[tk,List.filter_append,List.filter_cons,if_neg (by rw[ev];simp),List.filter_nil,List.append_nil];exact hrs
   | some v =>
    rw[ev] at h1;rw[if_pos (by simp[oV,sV])];refine⟨ga,rfl,CN,dx,_,h1,T0.cl,T0.nv,_,eC _ _,by omega,fun t ht=>?_⟩;have k5:Kp H' (upd H' t (.tup [sV b,sV v])) []:=(Kp.refl H' []).new ht;refine r1 _ _ ⟨⟨rs++[t],by rw[List.map_append];rfl,by rw[List.length_append,List.length_singleton];omega,?_⟩,kp.trans k5⟩;rw[tk,List.filter_append,List.filter_cons,if_pos (by rw[ev];rfl),List.filter_nil];exact aZ (Paired.imp' (fun a n ⟨v,e,z⟩=>⟨v,e,k5 _ _ z (by simp)⟩) hrs) ⟨v,ev,aa⟩
  ·rintro ys H' ⟨⟨rs,rfl,hl',hrs⟩,kp⟩ d2 hd2
   rw[List.length_map,pl,List.take_of_length_le (Nat.le_refl _),sU Fu nd] at hrs;have k6:Kp H' (upd H' d2 (.lst (rs.map V.ref))) []:=(Kp.refl H' []).new hd2;exact k d2 _ ⟨rs,aa,Paired.imp' (fun a n ⟨v,e,z⟩=>⟨v,e,k6 _ _ z (by simp)⟩) hrs⟩ ((k1.trans kp).trans k6)
noncomputable abbrev u_:Stmt:=top 35
theorem zR:az ["deeds","version"] ["deeds","version"] (aq u_):=by walk_at "s"
theorem qJ {f CN CV CB CNV:Addr}{fd:FuncData} (cbook_of:bM P w K mg base aQ 17 "book_of" ["deeds"] (yn CN CV CB)) (m_Book_root_at:cz P w K mg base (fu P w) 17 CB "root_at" ["self","number"] (lE CN CV CB CNV)) (centries_of:bM P w K mg base aQ 17 "entries_of" ["root"] (Ac CN))
  (F:cG K "entries" "entries" u_ f fd):aS P w K mg base aQ 18 f fd ["deeds","version"] iD:=by
 have sc:=zR;walk_at "f"
 ·obtain⟨_,_,_,_,_,rfl,_⟩:=h
  rfl
 ·obtain⟨l,das,ds,v,m,rfl,hda,h63,hm,k⟩:=h
  refine⟨_,(ao (aw (bh centries_of hr (ag (dn m_Book_root_at hr gN (bh cbook_of hr (ag (pv 0) ae)) (ag (pv 1) ae)) ae)))),?_⟩;walk_at "rd";refine⟨l,das,ds,rfl,hda,h63,fun bk vl al ves as H' BD nb kp=>?_⟩;have ll:=BD.b.len;have l1:=BD.b.day.l1;obtain⟨dx,hb⟩:=id BD.b.bk.ob;obtain⟨ve,full,hv,rfl,eb,Fu,nd⟩:=BD.b.get' h63 hm;refine⟨bk,rfl,dx,_,hb,dY _ _ (by decide +kernel) (by decide +kernel),bk,vl,al,ves,as,(v:Int),rfl,BD.b.bk,by omega,(fun e=>absurd e (by rw[eb];simp)),fun _ v' hv' Tv=>?_⟩;rw[Int.toNat_natCast,hv] at hv'
  cases hv';exact⟨ve.m,ve.g,full,rfl,Tv,Fu,nd,fun p H2 he k2=>k p H2 he (kp.trans k2)⟩
end
end
section
section
noncomputable abbrev BU:Stmt:=top 34
theorem Ey:az ["deeds"] ["deeds"] (aq BU):=by walk_at "s"
theorem qp {f CN CV CB:Addr}{fd:FuncData} (T:Cm K CB) (cbook_of:bM P w K mg base aQ 17 "book_of" ["deeds"] (yn CN CV CB)) (F:cG K "answers" "answers" BU f fd):aS P w K mg base aQ 18 f fd ["deeds"] iC:=by
 have sc:=Ey;walk_at "f"
 ·obtain⟨_,_,_,rfl,_⟩:=h
  rfl
 ·obtain⟨l,das,ds,rfl,hda,h63,k⟩:=h
  refine⟨_,(ao (aw (aX K (bh cbook_of hr (ag (pv 0) ae)) rfl))),?_⟩;walk_at "rd";refine⟨l,das,ds,rfl,hda,h63,fun bk vl al ves as H' BD nb kp=>?_⟩;obtain⟨dx,hb⟩:=id BD.b.bk.ob;exact⟨bk,rfl,CB,dx,_,hb,T.cl,T.na,_,iP _ _,k al as H' BD.b.bk.an (Paired.imp' (fun a d q=>cC.imp q fun _ _=>trivial) BD.an) kp⟩
end
end
section
open PySem L2
noncomputable def pI (mb mo mt:Mp):List Nm:=(bw mo mt).filter fun n=>decide (ak mb n≠ak mo n) && decide (ak mb n≠ak mt n)
theorem ik {mb mo mt:Mp}{n:Nm}:n∈pI mb mo mt↔ak mo n≠ak mt n/\ak mb n≠ak mo n/\ak mb n≠ak mt n:=by
 unfold pI;rw[List.mem_filter,cT,Bool.and_eq_true,decide_eq_true_eq,decide_eq_true_eq]
theorem qD {mb mo mt:Mp} (h2:aB mo) (h3:aB mt):(pI mb mo mt).Pairwise (·<·):=(iy h2 h3).sublist List.filter_sublist
theorem fC {mb mo mt:Mp} (h1:aB mb) (h2:aB mo) (h3:aB mt):bQ mb mo mt=(pI mb mo mt).map (eZ mb mo mt):=by
 unfold bQ;congr 1;refine fB ((iy h1 h2).sublist List.filter_sublist) (qD h2 h3) fun n=>?_;rw[List.mem_filter,ik,cT,Bool.and_eq_true,decide_eq_true_eq,decide_eq_true_eq,cT];exact⟨fun ⟨a,b,c⟩=>⟨c,a,b⟩,fun ⟨a,b,c⟩=>⟨b,c,a⟩⟩
theorem ie {mb mo mt:Mp} (h2:aB mo) (h3:aB mt):pI mb mt mo=pI mb mo mt:=by
 refine fB (qD h3 h2) (qD h2 h3) fun n=>?_;rw[ik,ik];exact⟨fun ⟨a,b,c⟩=>⟨fun z=>a z.symm,c,b⟩,fun ⟨a,b,c⟩=>⟨fun z=>a z.symm,c,b⟩⟩
theorem eU {mb mo mt:Mp} (h1:aB mb) (h2:aB mo) (h3:aB mt):bQ mb mo mt=[]↔pI mb mo mt=[]:=by
 rw[fC h1 h2 h3,List.map_eq_nil_iff]
theorem px (mt:Mp) (j:Nm):∀ (l:List Nm) (a:LR),ak (l.foldl (aY mt) a).m j=if j∈l then ak mt j else ak a.m j
 | [],a=>by rw[if_neg (List.not_mem_nil)];rfl
 | n::l,a=>by
  rw[List.foldl_cons,px mt j l];have e:ak (aY mt a n).m j=if j=n then ak mt n else ak a.m j:=jA a.m a.nd a.st n (ak mt n) j
  rw[e]
  by_cases q:j∈l
  ·rw[if_pos q,if_pos (List.mem_cons_of_mem _ q)]
  ·rw[if_neg q]
   by_cases q2:j=n
   ·rw[if_pos q2,if_pos (by rw[q2];exact List.mem_cons_self),q2]
   ·rw[if_neg q2,if_neg (by simp[q,q2])]
theorem fS (mb mo mt:Mp) (nd:Nd) (st:Nat) (j:Nm):ak (bF mb mo mt nd st).m j=if ak mb j≠ak mt j then ak mt j else ak mo j:=by
 unfold bF;rw[px]
 by_cases q:ak mb j≠ak mt j
 ·rw[if_pos (cT.mpr q),if_pos q]
 ·rw[if_neg (fun z=>q (cT.mp z)),if_neg q]
theorem tP {mb mo mt:Mp} (h:pI mb mo mt=[]) (nd nd':Nd) (st st':Nat) (j:Nm):ak (bF mb mt mo nd' st').m j=ak (bF mb mo mt nd st).m j:=by
 rw[fS,fS];have hj:¬ (ak mo j≠ak mt j/\ak mb j≠ak mo j/\ak mb j≠ak mt j):=fun z=>by
  have:=ik.mpr z;rw[h] at this
  cases this
 by_cases q1:ak mb j=ak mo j
 ·by_cases q2:ak mb j=ak mt j
  ·rw[if_neg (by simp[q1]),if_neg (by simp[q2]),<- q1,<- q2]
  ·rw[if_neg (by simp[q1]),if_pos q2]
 ·by_cases q2:ak mb j=ak mt j
  ·rw[if_pos q1,if_neg (by simp[q2])]
  ·rw[if_pos q1,if_pos q2]
   by_cases q3:ak mo j=ak mt j
   ·exact q3
   ·exact absurd ⟨q3,q1,q2⟩ hj
theorem lB (mb mt:Mp) (nd:Nd) (st:Nat) (j:Nm):ak (bF mb mb mt nd st).m j=ak mt j:=by
 rw[fS]
 by_cases q:ak mb j=ak mt j
 ·rw[if_neg (by simp[q]),q]
 ·rw[if_pos q]
theorem vU (mb mt:Mp):pI mb mb mt=[]:=by
 rw[List.eq_nil_iff_forall_not_mem];exact fun n hn=>(ik.mp hn).2.1 rfl
theorem jK {m m':Mp} (h:aB m) (h':aB m') (e:∀ j,ak m j=ak m' j):bo m=bo m':=by
 refine fB (eT h) (eT h') fun x=>?_;unfold bo;rw[(aR _).mem_iff,(aR _).mem_iff,mem_keys,mem_keys,e]
noncomputable def ee (mt:Mp) (L:Mp) (n:Nm):Mp:=L.filter (fun p=>decide (p.1≠n))++(match ak mt n with
 | none=>[]
 | some v=>[(n,v)])
theorem xb (l r:Mp) (j:Nm):ak (l++r) j=if (ak l j).isSome=true then ak l j else ak r j:=by
 unfold ak;rw[List.find?_append]
 cases h:l.find? fun p=>decide (p.1=j) with
 | none=>simp
 | some x=>simp
theorem pP (l:Mp) (n j:Nm):ak (l.filter fun p=>decide (p.1≠n)) j=if j=n then none else ak l j:=by
 unfold ak;rw[List.find?_filter]
 by_cases e:j=n
 ·rw[if_pos e]
  rw[Option.map_eq_none_iff,List.find?_eq_none];intro x _;rw[e];simp
 ·rw[if_neg e]
  congr 2
  funext a
  by_cases q:a.1=j
  ·simp[q,e]
  ·simp[q]
theorem tw (mt L:Mp) (n j:Nm):ak (ee mt L n) j=if j=n then ak mt n else ak L j:=by
 unfold ee;rw[xb,pP]
 by_cases e:j=n
 ·rw[if_pos e,if_pos e,if_neg (by simp)]
  cases h:ak mt n with
  | none=>rfl
  | some v=>simp[ak,e]
 ·rw[if_neg e,if_neg e]
  by_cases q:(ak L j).isSome=true
  ·rw[if_pos q]
  ·rw[if_neg q]
   rw[Option.not_isSome_iff_eq_none] at q;rw[q]
   cases h:ak mt n with
   | none=>rfl
   | some v=>simp[ak,show ¬ n=j from fun z=>e z.symm]
theorem wH {L:Mp} (h:aB L) (mt:Mp) (n:Nm):aB (ee mt L n):=by
 unfold ee aB;rw[List.map_append,List.nodup_append];refine⟨List.Nodup.sublist (List.Sublist.map _ List.filter_sublist) h,?_,?_⟩
 ·cases ak mt n <;> simp
 ·intro a ha b hb
  obtain⟨p,hp,rfl⟩:=List.mem_map.mp ha;have h1:=(List.mem_filter.mp hp).2;rw[decide_eq_true_eq] at h1
  cases h2:ak mt n with
  | none=>rw[h2] at hb;cases hb
  | some v =>
   rw[h2] at hb;have:b=n:=by simpa using hb
   rw[this];exact h1
theorem ly (mt:Mp) (j:Nm):∀ (l:List Nm) (L:Mp),ak (l.foldl (ee mt) L) j=if j∈l then ak mt j else ak L j
 | [],L=>by rw[if_neg (List.not_mem_nil)];rfl
 | n::l,L=>by
  rw[List.foldl_cons,ly mt j l,tw]
  by_cases q:j∈l
  ·rw[if_pos q,if_pos (List.mem_cons_of_mem _ q)]
  ·rw[if_neg q]
   by_cases q2:j=n
   ·rw[if_pos q2,if_pos (by rw[q2];exact List.mem_cons_self),q2]
   ·rw[if_neg q2,if_neg (by simp[q,q2])]
theorem ot (mt:Mp):∀ (l:List Nm) {L:Mp},aB L->aB (l.foldl (ee mt) L)
 | [],_,h=>h
 | n::l,L,h=>ot mt l (wH h mt n)
noncomputable def eP (mb mo mt:Mp):Mp:=(bw mb mt).foldl (ee mt) ((bo mo).map fun n=>(n,(ak mo n).getD []))
theorem sj (mo:Mp) (j:Nm):∀ l:List Nm,(∀ n∈l,(ak mo n).isSome=true)->ak (l.map fun n=>(n,(ak mo n).getD [])) j=if j∈l then ak mo j else none
 | [],_=>by rw[if_neg (List.not_mem_nil)];rfl
 | n::l,h=>by
  have ih:=sj mo j l fun x hx=>h x (List.mem_cons_of_mem _ hx);rw[List.map_cons]
  by_cases e:n=j
  ·obtain⟨v,hv⟩:=Option.isSome_iff_exists.mp (h n List.mem_cons_self)
   rw[if_pos (by rw[e];exact List.mem_cons_self)];unfold ak at hv ⊢;rw[List.find?_cons_of_pos (by simp[e])];subst e;simp only[Option.map_some];rw[hv]
   rfl
  ·have e1:ak ((n,(ak mo n).getD [])::l.map fun n=>(n,(ak mo n).getD [])) j=ak (l.map fun n=>(n,(ak mo n).getD [])) j:=by
    conv=>lhs;unfold ak
    rw[List.find?_cons_of_neg (by simp[e])]
    rfl
   rw[e1,ih]
   by_cases q:j∈l
   ·rw[if_pos q,if_pos (List.mem_cons_of_mem _ q)]
   ·rw[if_neg q,if_neg (by simp[q,show ¬ j=n from fun z=>e z.symm])]
theorem iJ (m:Mp) (n:Nm):n∈bo m↔(ak m n).isSome=true:=by
 unfold bo;rw[(aR _).mem_iff,mem_keys]
theorem uO (mb mo mt:Mp) (nd:Nd) (st:Nat) (j:Nm):ak (eP mb mo mt) j=ak (bF mb mo mt nd st).m j:=by
 unfold eP;rw[ly,fS,sj mo j _ fun n hn=>(iJ mo n).mp hn]
 by_cases q:ak mb j≠ak mt j
 ·rw[if_pos (cT.mpr q),if_pos q]
 ·rw[if_neg (fun z=>q (cT.mp z)),if_neg q]
  by_cases q2:j∈bo mo
  ·rw[if_pos q2]
  ·rw[if_neg q2]
   rw[iJ,Option.not_isSome_iff_eq_none] at q2;rw[q2]
theorem su {mo:Mp} (h:aB mo) (mb mt:Mp):aB (eP mb mo mt):=by
 refine ot mt _ ?_;unfold aB;rw[List.map_map];have e:(bo mo).map ((fun p:Nm×Nm=>p.1) ∘ fun n=>(n,(ak mo n).getD []))=bo mo:=by
  conv=>rhs;rw[<- List.map_id' (bo mo)]
  rfl
 show (List.map _ _).Nodup;rw[e];exact (aR _).nodup_iff.mpr h
end
section
section
noncomputable abbrev Ff:Stmt:=top 37
theorem Fs:az ["_law_found"] ["_law_found"] (aq Ff):=by walk_at "s"
noncomputable def BP:Sp:=fun vs H Q _=>∃ i:Int,vs=[.int i]/\Q (.bl true) H
theorem DJ {f:Addr}{fd:FuncData} (B:Bl mg) (F:cG K "_law_whole" "_law_whole" Ff f fd):aS P w K mg base aQ 1 f fd ["_law_found"] BP:=by
 have sc:=Fs;walk_at "f"
 ·obtain⟨_,rfl,_⟩:=h
  rfl
 ·obtain⟨i,rfl,k⟩:=h
  have hu0:=hr.cu;refine⟨_,(ao (aw (uP (br (bL K) rfl B.isi boot_isinstance (ag (pv 0) (ag (cv (v:=.ty "int") rfl B.int boot_int rfl) ae))) (qd (BE (br (bL K) rfl B.isi boot_isinstance (ag (pv 0) (ag (cv (v:=.ty "bool") rfl B.bool boot_bool rfl) ae)))))))),?_⟩;walk_at "rd";refine⟨_,_,⟨rfl,rfl⟩,true,_,cJ.int i,rfl,?_⟩;rw[if_pos rfl];refine⟨_,_,⟨rfl,rfl⟩,false,_,cJ.int i,rfl,?_⟩;exact k
theorem DC (x y:Option Nm):xM (oV x) (oV y)=decide (x=y):=by
 cases x with
 | none=>cases y <;> rfl
 | some a =>
  cases y with
  | none=>rfl
  | some b =>
   show (tx a == tx b)=_;rw[Bool.eq_iff_iff,beq_iff_eq,decide_eq_true_eq,Option.some.injEq];exact⟨fun z=>by simpa using congrArg (fun q:Str=>q.cps.toList) z,fun z=>by rw[z]⟩
theorem wR (x:Option Nm):fE (oV x)=true:=by cases x <;> rfl
noncomputable def yX (mb mo mt:Mp) (n:Nm):Bool:=decide (ak mb n≠ak mo n) && decide (ak mb n≠ak mt n)
theorem F_ (mb mo mt:Mp) (n:Nm):(!Cj (oV (ak mb n)) [oV (ak mo n),oV (ak mt n)])=yX mb mo mt n:=by
 unfold Cj yX;simp only[List.any_cons,List.any_nil,Bool.or_false,DC,Bool.not_or];congr 1
 ·rw[<- decide_not];exact decide_eq_decide.mpr ⟨fun z e=>z e.symm,fun z e=>z e.symm⟩
 ·rw[<- decide_not];exact decide_eq_decide.mpr ⟨fun z e=>z e.symm,fun z e=>z e.symm⟩
noncomputable def rW (H:Hp) (mb mo mt:Mp) (rs:List Addr) (ns:List Nm):Prop:=Paired (fun a n=>H a=some (.tup (eF (eZ mb mo mt n)))) rs ns
noncomputable abbrev Bf:Stmt:=top 53
noncomputable abbrev Fq:List Str:=["_law_older","_law_mine","_law_yours","_law_rows","_law_name","_law_row"]
theorem Dp:az Fq ["_law_older","_law_mine","_law_yours"] (aq Bf):=by walk_at "s"
noncomputable def vV:Sp:=fun vs H Q _=>∃ (a b c:Addr) (mb mo mt:Mp),vs=[.ref a,.ref b,.ref c]/\H a=some (.dK (aP sV mb))/\H b=some (.dK (aP sV mo))/\H c=some (.dK (aP sV mt))/\mo.length<=1000/\mt.length<=1000/\(bY mo mt).length<64 /\
 ∀ (p:Addr) (rs:List Addr) H',H' p=some (.lst (rs.map V.ref))->rW H' mb mo mt rs (pI mb mo mt)->Kp H H' []->Q (.ref p) H'
theorem nH (mo mt:Mp):(bw mo mt).length<=(bY mo mt).length:=by
 unfold bw;refine Nat.le_trans (List.length_filter_le _ _) ?_;rw[(aR _).length_eq];exact Nat.le_refl _
theorem zI {f:Addr}{fd:FuncData} (B:Bl mg) (c_law_changes:bM P w K mg base aQ 2 "_law_changes" ["_law_old","_law_new"] om) (F:cG K "_law_clashing" "_law_clashing" Bf f fd):aS P w K mg base aQ 3 f fd ["_law_older","_law_mine","_law_yours"] vV:=by
 have sc:=Dp;walk_at "f"
 ·obtain⟨_,_,_,_,_,_,rfl,_⟩:=h
  rfl
 ·obtain⟨a,b,c,mb,mo,mt,rfl,ha,hb,hc,lo,lt,lu,k⟩:=h
  have hu0:=hr.cu;have hu:=dk hr;have hs:=sizeLine_eq;refine⟨_,(af (au (i:=3) sc.nd rfl (by walk_at "o") (aT ae))
   (af (dt PassesOwn.never rfl (bq K (bh c_law_changes hr (ag (pv 1) (ag (pv 2) ae)))) (aM (i:=4) sc.nd rfl (by walk_at "o")) (af (au (i:=5) sc.nd rfl (by walk_at "o") (bH (ag (pv 4) (ag (bV hu (pv 0) (pv 4) ⟨rfl,rfl,rfl,rfl⟩) (ag (bV hu (pv 1) (pv 4) ⟨rfl,rfl,rfl,rfl⟩) (ag (bV hu (pv 2) (pv 4) ⟨rfl,rfl,rfl,rfl⟩) ae))))))
    (ao (a_ (aF (kI K) (aG (aH K) (pv 5) aj (fun _ _=>rfl)) (dq (ny K) (pv 5) (dD aj) fe) (by with_unfolding_all rfl)) (ao (ba (dF K PySem.F.plainAttrs_list PySem.F.slot_list_append PySem.F.type_list_append bf (pv 3) (ag (pv 5) ae)))) aJ))))
   (ao (aw (pv 3))))),?_⟩
  walk_at "rd";refine⟨by omega,fun p hp=>?_⟩;have s0:=(aE.refl H).new (o:=.lst []) hp;have f0:upd H p (.lst []) p=some (.lst []):=aa;generalize upd H p (.lst [])=G0 at s0 f0 ⊢;refine⟨b,c,mo,mt,rfl,s0 _ _ hb,s0 _ _ hc,lo,lt,lu,fun p1 G1 hp1 f1 kp1=>?_⟩;have s1:aE G0 G1:=fun c o hc=>kp1 c o hc (by simp);have n1:p1≠p:=fun e=>by rw[e,f0] at hp1;cases hp1
  have lc:=nH mo mt;refine⟨p1,rfl,⟨_,aO.of f1⟩,?_⟩;refine cq (K:=K) (a:=p1) (xs:=(bw mo mt).map sV) (fun i σ G=>aE H G/\G p1=some (.lst ((bw mo mt).map sV))/\∃ (o1 o2:Option V) (rs:List Addr),σ=[some (.ref a),some (.ref b),some (.ref c),some (.ref p),o1,o2]/\G p=some (.lst (rs.map V.ref))/\rs.length<=i/\rW G mb mo mt rs (((bw mo mt).take i).filter (yX mb mo mt)))
   ⟨s0.trans s1,f1,none,none,[],rfl,s1 _ _ f0,Nat.le_refl _,.nil⟩ (fun i σ G I=>aO.of I.2.1) ?_ ?_
  ·rintro i y σ G hi ⟨sG,fG,o1,o2,rs,rfl,hr',lr,hpr⟩
   rw[List.getElem?_map] at hi;obtain⟨n,hn,rfl⟩:=Option.map_eq_some_iff.mp hi;have li:=(List.getElem?_eq_some_iff.mp hn).1;have ha':=sG _ _ ha;have hb':=sG _ _ hb;have hc':=sG _ _ hc;walk_at "rd";refine⟨.inl ⟨_,.inl ha'⟩,_,bE.k (k:=.inr (tx n)) ha',.inl ⟨_,.inl hb'⟩,_,bE.k (k:=.inr (tx n)) hb',.inl ⟨_,.inl hc'⟩,_,bE.k (k:=.inr (tx n)) hc',by omega,fun t ht=>?_⟩;rw[bR,bR,bR,dw,dw,dw];have st:=sG.trans ((aE.refl G).new (o:=.tup [sV n,oV (ak mb n),oV (ak mo n),oV (ak mt n)]) ht);have st':=(aE.refl G).new (o:=.tup [sV n,oV (ak mb n),oV (ak mo n),oV (ak mt n)]) ht;have ft:upd G t (.tup [sV n,oV (ak mb n),oV (ak mo n),oV (ak mt n)]) t=some (.tup [sV n,oV (ak mb n),oV (ak mo n),oV (ak mt n)]):=aa;generalize upd G t (.tup [sV n,oV (ak mb n),oV (ak mo n),oV (ak mt n)])=G2 at st st' ft ⊢;refine⟨_,cI.of ft,oV (ak mb n),rfl,_,cI.of ft,(by decide:¬ (HT.cL 4 0 (some 2)=0/\HT.cL 4 4 none=4)),fun t2 ht2=>?_⟩;rw[show gp [sV n,oV (ak mb n),oV (ak mo n),oV (ak mt n)] (some 2) none=[oV (ak mo n),oV (ak mt n)] from rfl];have s3:=(aE.refl G2).new (o:=.tup [oV (ak mo n),oV (ak mt n)]) ht2;have f3:upd G2 t2 (.tup [oV (ak mo n),oV (ak mt n)]) t2=some (.tup [oV (ak mo n),oV (ak mt n)]):=aa;generalize upd G2 t2 (.tup [oV (ak mo n),oV (ak mt n)])=G3 at s3 f3 ⊢;have sm:aE G G3:=st'.trans s3;refine⟨_,.inr (cI.of f3),wR _,by simp[wR],?_⟩;rw[F_];have tk:((bw mo mt).take (i+1)).filter (yX mb mo mt)=((bw mo mt).take i).filter (yX mb mo mt)++if yX mb mo mt n=true then [n] else []:=by
    rw[List.take_add_one,hn,List.filter_append,Option.toList_some]
    cases e:yX mb mo mt n <;> simp[e]
   rw[tk]
   cases ec:yX mb mo mt n with
   | false =>
    rw[if_neg (by simp),if_neg (by simp),List.append_nil];exact⟨sG.trans sm,sm _ _ fG,_,_,⟨rfl,rfl⟩,rs,sm _ _ hr',by omega,Paired.imp' (fun a n x=>sm _ _ x) hpr⟩
   | true =>
    rw[if_pos rfl,if_pos rfl];have hr3:=sm _ _ hr';have ne:∀ {c:Addr}{o:HO},H c=some o->c≠p:=fun hc e=>by rw[e,hp] at hc;cases hc
    refine⟨.inl ⟨rfl,_,aO.of hr3⟩,_,hr3,by rw[List.length_map];omega,fun c o hc=>by rw[ah (ne hc)];exact sm _ _ (sG _ _ hc),by rw[ah n1];exact sm _ _ fG,_,_,⟨rfl,rfl⟩,rs++[t],by rw[aa,List.map_append];rfl,by rw[List.length_append,List.length_singleton];omega,?_⟩;exact aZ (Paired.imp' (fun a n x=>by rw[ah (bO (sm _ _ x) hr3 (by intro z;cases z))];exact sm _ _ x) hpr) (by rw[ah (bO (s3 _ _ ft) hr3 (by intro z;cases z))];exact s3 _ _ ft)
  ·rintro σ G ⟨sG,fG,o1,o2,rs,rfl,hr',lr,hpr⟩
   rw[List.length_map,List.take_length] at hpr;walk_at "rd";exact k p rs G hr' hpr fun c o hc _=>sG c o hc
noncomputable abbrev sf:Stmt:=top 54
noncomputable abbrev zi:List Str:=["_law_older","_law_mine","_law_yours","_law_due","_law_name"]
theorem AE:az zi ["_law_older","_law_mine","_law_yours"] (aq sf):=by walk_at "s"
theorem nK:(["_law_pair","_law_name"]:List Str).Nodup:=by decide +kernel
noncomputable def mf (H:Hp) (rs:List Addr) (L:Mp):Prop:=Paired (fun a (p:Nm×Nm)=>H a=some (.tup [sV p.1,sV p.2])) rs L
theorem A4 {a b:Nm} (h:sV a=sV b):a=b:=by
 have:tx a=tx b:=V.str.inj h
 simpa using congrArg (fun q:Str=>q.cps.toList) this
theorem uR {l:List Nm} (h:l.Nodup):(l.map tx).Nodup:=by
 rw[List.nodup_iff_pairwise_ne,List.pairwise_map];rw[List.nodup_iff_pairwise_ne] at h;exact h.imp fun {a b} ne e=>ne (by simpa using congrArg (fun q:Str=>q.cps.toList) e)
theorem vI {m:Mp} (nd:aB m) {n v:Nm} (h:(n,v)∈m):ak m n=some v:=by
 unfold aB at nd
 induction m with
 | nil=>cases h
 | cons p r ih =>
  rw[List.map_cons,List.nodup_cons] at nd;rcases List.mem_cons.mp h with e|h
  ·unfold ak
   rw[List.find?_cons_of_pos (by rw[<- e];simp),<- e]
   rfl
  ·have ne:p.1≠n:=fun e=>nd.1 (by rw[e];exact List.mem_map.mpr ⟨_,h,rfl⟩)
   have:=ih nd.2 h;unfold ak at this ⊢;rw[List.find?_cons_of_neg (by simp[ne])];exact this
theorem iU {α β γ:Type}{R:β->γ->Prop}{f:α->β}{g:α->γ}:∀ {l:List α},(∀ i∈l,R (f i) (g i))->Paired R (l.map f) (l.map g)
 | [],_=>.nil
 | i::l,h=>.cons (h i List.mem_cons_self) (iU fun j hj=>h j (List.mem_cons_of_mem _ hj))
theorem rn {G:Hp}{rs:List Addr}{L:Mp} (hp:mf G rs L) (nd:aB L) {o:List Nat} (po:o.Perm (List.range rs.length)) (pw:(o.map fun i=>(L.map fun p=>tx p.1).getD i ⟨#[]⟩).Pairwise fun a b=>a.cps.toList<b.cps.toList) :
  Paired (fun a n=>∃ v,ak L n=some v/\G a=some (.tup [sV n,sV v])) (o.map fun i=>rs.getD i 0) (bo L):=by
 have ll:rs.length=L.length:=Paired.length hp;have mo:∀ {i},i∈o↔i<L.length:=fun {i}=>by rw[po.mem_iff,List.mem_range,ll]
 have at_:∀ i,i∈o->(L.map fun p=>tx p.1).getD i ⟨#[]⟩=tx (L.getD i ([],[])).1/\L[i]?=some (L.getD i ([],[]))/\rs[i]?=some (rs.getD i 0):=fun i hi=>by
  have h1:=mo.mp hi;have h2:i<rs.length:=by omega
  refine⟨by simp[List.getD,h1],by simp[List.getD,h1],by simp[List.getD,h2]⟩
 have e:o.map (fun i=>(L.getD i ([],[])).1)=bo L:=by
  refine fB ?_ (eT nd) fun x=>?_
  ·rw[List.pairwise_map] at pw ⊢
   refine pw.imp_of_mem fun {a b} ha hb h=>?_;rw[(at_ a ha).1,(at_ b hb).1] at h
   simpa using h
  ·rw[iJ,<- mem_keys,List.mem_map,List.mem_map]
   constructor
   ·rintro ⟨i,hi,rfl⟩
    exact⟨_,List.mem_of_getElem? (at_ i hi).2.1,rfl⟩
   ·rintro ⟨q,hq,rfl⟩
    obtain⟨i,hi,rfl⟩:=List.mem_iff_getElem.mp hq;exact⟨i,mo.mpr hi,by simp[List.getD,hi]⟩
 rw[<- e];refine iU fun i hi=>?_;obtain⟨_,h1,h2⟩:=at_ i hi;obtain⟨q,hq,hat⟩:=cg hp h2;rw[h1] at hq;rw[Option.some.inj hq];exact⟨q.2,vI nd (List.mem_of_getElem? (by rw[h1,Option.some.inj hq])),hat⟩
noncomputable def qy:Sp:=fun vs H Q _=>∃ (a b c:Addr) (mb mo mt:Mp),vs=[.ref a,.ref b,.ref c]/\H a=some (.dK (aP sV mb))/\H b=some (.dK (aP sV mo))/\H c=some (.dK (aP sV mt))/\mb.length<=1000/\mt.length<=1000/\mo.length<64/\(bY mb mt).length<64/\aB mo/\(eP mb mo mt).length<64 /\
 ∀ (p:Addr) H',gQ H' p (eP mb mo mt) (bo (eP mb mo mt))->Kp H H' []->Q (.ref p) H'
theorem ya {f:Addr}{fd:FuncData} (B:Bl mg) (c_law_changes:bM P w K mg base aQ 2 "_law_changes" ["_law_old","_law_new"] om) (c_law_entries_of:bM P w K mg base aQ 2 "_law_entries_of" ["_law_values"] rN) (F:cG K "_law_both" "_law_both" sf f fd):aS P w K mg base aQ 3 f fd ["_law_older","_law_mine","_law_yours"] qy:=by
 have sc:=AE;walk_at "f"
 ·obtain⟨_,_,_,_,_,_,rfl,_⟩:=h
  rfl
 ·obtain⟨a,b,c,mb,mo,mt,rfl,ha,hb,hc,lb,lt,lo,lu,ndo,ll,k⟩:=h
  have hu0:=hr.cu;have hu:=dk hr;have hs:=sizeLine_eq;refine⟨_,(af (au (i:=3) sc.nd rfl (by walk_at "o") (bh c_law_entries_of hr (ag (pv 1) ae)))
   (af (dt PassesOwn.never rfl (bq K (bh c_law_changes hr (ag (pv 0) (ag (pv 2) ae)))) (aM (i:=4) sc.nd rfl (by walk_at "o")) (af (gY (i:=3) (N':=["_law_pair","_law_name"]) (ix:=[none,some 4]) sc.nd rfl rfl rfl ?S1 (bq K (pv 3)) (fun cl C fp s H=>(aM (i:=0) nK rfl (by walk_at "o"))) (fun cl C fp s H=>(dA (aF dS (aG (aH K) (pv 0) aj (fun _ _=>rfl)) (pv 1) (aK _)))) (fun cl C fp s H=>(pv 0)))
    (ao (a_ (da (jm (bV hu (pv 2) (pv 4) ⟨rfl,rfl,rfl,rfl⟩))) (ao (ba (dF K PySem.F.plainAttrs_list PySem.F.slot_list_append PySem.F.type_list_append bf (pv 3) (ag (bH (ag (pv 4) (ag (bu hu (pv 2) (pv 4) (fun _ _=>rfl)) ae))) ae)))) aJ))))
   (ao (aw (br (jd rfl) rfl B.srt boot_sorted (ag (pv 3) ae)))))),?_⟩
  case S1=>exact kG.is (N:=zi) (osc:=aq sf) (by decide +kernel)
  walk_at "rd";refine⟨b,mo,rfl,hb,lo,fun d0 G0 e0 kp0=>?_⟩;have s0:aE H G0:=fun c o hc=>kp0 c o hc (by simp);refine⟨a,c,mb,mt,rfl,s0 _ _ ha,s0 _ _ hc,lb,lt,lu,fun p1 G1 hp1 f1 kp1=>?_⟩;have s1:aE G0 G1:=fun c o hc=>kp1 c o hc (by simp);have lc:=nH mb mt;obtain⟨rs0,z1,z2⟩:=e0;have n1:p1≠d0:=fun e=>by rw[e,z1] at hp1;cases hp1
  refine⟨p1,rfl,⟨_,aO.of f1⟩,?_⟩;have lk:(bo mo).length=mo.length:=by
   unfold bo;rw[(aR _).length_eq,List.length_map]
  refine cq (K:=K) (a:=p1) (xs:=(bw mb mt).map sV) (fun i σ G=>aE H G/\G p1=some (.lst ((bw mb mt).map sV))/\∃ (d:Addr) (o1:Option V) (rs:List Addr),σ=[some (.ref a),some (.ref b),some (.ref c),some (.ref d),o1]/\G d=some (.lst (rs.map V.ref))/\rs.length<=64+i /\
   mf G rs (((bw mb mt).take i).foldl (ee mt) ((bo mo).map fun n=>(n,(ak mo n).getD [])))) ?_ (fun i σ G I=>aO.of I.2.1) ?_ ?_
  ·have z2':mf G1 rs0 ((bo mo).map fun n=>(n,(ak mo n).getD [])):=by
    have go:∀ {rs:List Addr}{l:List Nm},Paired (fun a n=>∃ v,ak mo n=some v/\G0 a=some (.tup [sV n,sV v])) rs l->mf G1 rs (l.map fun n=>(n,(ak mo n).getD [])):=fun {rs l} h=>by
     induction h with
     | nil=>exact .nil
     | cons h t ih =>
      obtain⟨v,e1,e2⟩:=h;exact .cons (by dsimp only;rw[e1];exact s1 _ _ e2) ih
    exact go z2
   exact⟨s0.trans s1,f1,d0,none,rs0,rfl,s1 _ _ z1,by rw[Paired.length z2];omega,z2'⟩
  ·rintro i y σ G hi ⟨sG,fG,d,o1,rs,rfl,hd,lr,hpr⟩
   rw[List.getElem?_map] at hi;obtain⟨n,hn,rfl⟩:=Option.map_eq_some_iff.mp hi;have li:=(List.getElem?_eq_some_iff.mp hn).1;have tk:((bw mb mt).take (i+1)).foldl (ee mt) ((bo mo).map fun n=>(n,(ak mo n).getD []))=ee mt (((bw mb mt).take i).foldl (ee mt) ((bo mo).map fun n=>(n,(ak mo n).getD []))) n:=by
    rw[List.take_add_one,hn,List.foldl_append]
    rfl
   rw[tk];generalize ((bw mb mt).take i).foldl (ee mt) ((bo mo).map fun n=>(n,(ak mo n).getD []))=L at hpr;walk_at "rd";refine⟨⟨_,aO.of hd⟩,de (xs:=rs.map V.ref) (fun j ys H2=>G=H2/\∃ rs':List Addr,ys=rs'.map V.ref/\rs'.length<=j/\mf G rs' ((L.take j).filter fun p=>decide (p.1≠n))) ⟨rfl,[],rfl,Nat.le_refl _,.nil⟩ (by rw[List.length_map];omega) ?_ ?_ ?_ ?_⟩
   ·rintro j ys H2 ⟨rfl,rs',rfl,hl,_⟩
    rw[List.length_map];exact hl
   ·rintro j ys H2 ⟨rfl,_⟩
    exact aO.of hd
   ·rintro j ys H2 x hx ⟨rfl,rs',rfl,hl,hp'⟩ R R' r1 r2
    rw[List.getElem?_map] at hx;obtain⟨ra,hra,rfl⟩:=Option.map_eq_some_iff.mp hx;obtain⟨⟨m,v⟩,hmv,hat⟩:=cg hpr hra;refine⟨Wk.set rfl,?_⟩;walk_at "rd";refine⟨_,cI.of hat,sV m,rfl,rfl,?_⟩;have tk2:(L.take (j+1)).filter (fun p=>decide (p.1≠n))=(L.take j).filter (fun p=>decide (p.1≠n))++if m=n then [] else [(m,v)]:=by
     rw[List.take_add_one,hmv,List.filter_append,Option.toList_some]
     by_cases e:m=n <;> simp[e]
    by_cases e:m=n
    ·rw[if_neg (by simp[e])]
     refine r2 _ ⟨rfl,rs',rfl,by omega,?_⟩;rw[tk2,if_pos e,List.append_nil];exact hp'
    ·rw[if_pos (by
      rw[Bool.not_eq_true',decide_eq_false_iff_not];exact fun z=>e (A4 z))]
     refine r1 _ _ ⟨rfl,rs'++[ra],by rw[List.map_append];rfl,by rw[List.length_append,List.length_singleton];omega,?_⟩;rw[tk2,if_neg e];exact aZ hp' hat
   ·rintro ys H2 ⟨rfl,rs',rfl,hl,hp'⟩ d' hd'
    rw[List.length_map] at hl hp';rw[Paired.length hpr,List.take_length] at hp';have sd:=(aE.refl G).new (o:=.lst (rs'.map V.ref)) hd';have fd':upd G d' (.lst (rs'.map V.ref)) d'=some (.lst (rs'.map V.ref)):=aa;have nd':∀ {c:Addr}{o:HO},G c=some o->c≠d':=fun hc=>ai hc hd';generalize upd G d' (.lst (rs'.map V.ref))=G2 at sd fd' ⊢;have hc2:=sd _ _ (sG _ _ hc);refine⟨.inl ⟨_,.inl hc2⟩,_,bE.k (k:=.inr (tx n)) hc2,?_⟩;rw[bR]
    cases ev:ak mt n with
    | none =>
     rw[if_neg (by simp)];exact⟨sG.trans sd,sd _ _ fG,d',_,⟨rfl,rfl⟩,rs',fd',by omega,by unfold ee;rw[ev,List.append_nil];exact Paired.imp' (fun a n x=>sd _ _ x) hp'⟩
    | some x =>
     rw[if_pos (by simp[sV])];refine⟨.inl ⟨rfl,_,aO.of fd'⟩,sV x,bE.k' (k:=.inr (tx n)) hc2 (by rw[bR,ev];rfl),by omega,fun t ht=>⟨rs'.map V.ref,by rw[ah (ai fd' ht)];exact fd',by rw[List.length_map];omega,fun c o hc=>?_,?_,d',_,⟨rfl,rfl⟩,rs'++[t],by rw[aa,List.map_append];rfl,by rw[List.length_append,List.length_singleton];omega,?_⟩⟩
     ·have hc':=sG _ _ hc
      rw[ah (nd' hc'),ah (ai (sd _ _ hc') ht)];exact sd _ _ hc'
     ·rw[ah (nd' fG),ah (ai (sd _ _ fG) ht)]
      exact sd _ _ fG
     ·unfold ee
      rw[ev];have nt:t≠d':=fun e=>by rw[e,fd'] at ht;cases ht
      exact aZ (Paired.imp' (fun a n x=>by rw[ah (nd' x),ah (ai (sd _ _ x) ht)];exact sd _ _ x) hp') (by rw[ah nt,aa])
  ·rintro σ G ⟨sG,fG,d,o1,rs,rfl,hd,lr,hpr⟩
   rw[List.length_map,List.take_length] at hpr;have hL:mf G rs (eP mb mo mt):=hpr;have ndL:=su ndo mb mt;walk_at "rd";have lr':rs.length=(eP mb mo mt).length:=Paired.length hL;refine⟨rs,hd,(eP mb mo mt).map fun p=>tx p.1,by rw[List.length_map];exact lr',fun i r k hr hk=>?_,?_,by omega,fun p o hp po pw=>?_⟩
   ·obtain⟨q,hq,hat⟩:=cg hL hr
    rw[List.getElem?_map,hq] at hk;rw[<- Option.some.inj hk];exact⟨_,hat⟩
   ·have e:((eP mb mo mt).map fun p=>tx p.1)=((eP mb mo mt).map (·.1)).map tx:=by rw[List.map_map];rfl
    rw[e];exact uR ndL
   ·have sp:=(aE.refl G).new (o:=.lst (o.map fun i=>V.ref (rs.getD i 0))) hp
    refine k p _ ⟨o.map fun i=>rs.getD i 0,by rw[aa,List.map_map];rfl,?_⟩ fun c o' hc _=>sp _ _ (sG _ _ hc);exact Paired.imp' (fun a n ⟨v,e1,e2⟩=>⟨v,e1,sp _ _ e2⟩) (rn hL ndL po pw)
theorem xP (xs:List V) (a b:Nat):(gp xs (some (a:Int)) (some (b:Int))).length<=b - a:=by
 unfold gp;rw[HT.nP,HT.nP,List.length_take,List.length_drop];omega
theorem eA {α β:Type}{R:α->β->Prop}{y:β}:∀ {xs:List α}{ys:List β},Paired R xs (ys++[y])->∃ xs' x,xs=xs'++[x]/\R x y
 | _,[],.cons h .nil=>⟨[],_,rfl,h⟩
 | _,_::ys,.cons (a:=a) h t=>by
  obtain⟨xs',x,rfl,hx⟩:=eA (ys:=ys) t;exact⟨a::xs',x,rfl,hx⟩
theorem gD {S:LS}{b o t:Nat}{mb mo mt:Mp} (hb:S.ms[b]?=some mb) (ho:S.ms[o]?=some mo) (ht:S.ms[t]?=some mt) :
  (bQ mb mo mt=[]->(aC S (.join (b:Int) (o:Int) (t:Int))).1=.ver S.ms.length/\∃ nd st,(aC S (.join (b:Int) (o:Int) (t:Int))).2.ms=S.ms++[(bF mb mo mt nd st).m]) /\
  (bQ mb mo mt≠[]->(aC S (.join (b:Int) (o:Int) (t:Int))).1=.clash (bQ mb mo mt)):=by
 have lb:=(List.getElem?_eq_some_iff.mp hb).1;have lo:=(List.getElem?_eq_some_iff.mp ho).1;have lt:=(List.getElem?_eq_some_iff.mp ht).1;have e1:¬ e_ S (.join (b:Int) (o:Int) (t:Int))=true:=by
  rw[jl];simp only[bI,List.any_cons,List.any_nil,Bool.or_false,hE,Bool.or_eq_true,decide_eq_true_eq,not_or];omega
 have e2:¬ fJ (.join (b:Int) (o:Int) (t:Int))=true:=by unfold fJ ky;simp
 have g:∀ {i:Nat}{m:Mp},S.ms[i]?=some m->S.ms.getD i []=m:=fun h=>by simp[List.getD,h]
 unfold aC;rw[if_neg e1,if_neg e2];dsimp only;rw[Int.toNat_natCast,Int.toNat_natCast,Int.toNat_natCast,g hb,g ho,g ht];refine⟨fun e=>?_,fun e=>?_⟩
 ·rw[if_pos e]
  exact⟨rfl,_,_,rfl⟩
 ·rw[if_neg e]
theorem fg {α β γ:Type}{R:α->γ->Prop}{f:β->γ}:∀ {xs:List α}{ys:List β},Paired (fun a n=>R a (f n)) xs ys->Paired R xs (ys.map f)
 | _,_,.nil=>.nil
 | _,_,.cons h t=>.cons h (fg t)
noncomputable abbrev GB:List Str:=["_law_script","_law_deeds","_law_told","_law_hall","_law_seed","_law_base","_law_one","_law_two","_law_count","_law_first","_law_second","_law_third","_law_left","_law_right","_law_plain","_law_found","_law_due","_law_older","_law_mine","_law_yours","_law_rows","_law_turned"]
noncomputable abbrev yH:Stmt:=top 56
theorem EC:az GB ["_law_script"] (aq yH):=by walk_at "s"
theorem yr:(["_law_row"]:List Str).Nodup:=by decide +kernel
noncomputable def rP (K:PySem.W.Frag):Sp:=fun vs H Q _=>∃ (a:Addr) (ns:List Int),vs=[.ref a]/\aO K H a (ns.map V.int)/\ns.length<=63/\∀ H',Q (.bl true) H'
theorem AZ {f:Addr}{fd:FuncData} (B:Bl mg) (c_law_mixed:bM P w K mg base aQ 19 "_law_mixed" ["_law_script"] wJ) (c_law_day:bM P w K mg base aQ 19 "_law_day" ["_law_cells"] wF) (c_law_stays_so:bM P w K mg base aQ 19 "_law_stays_so" ["_law_handed","_law_own"] AQ)
  (c_law_at:bM P w K mg base aQ 19 "_law_at" ["_law_script","_law_k"] Aj) (c_law_pick:bM P w K mg base aQ 19 "_law_pick" ["_law_hall","_law_seed"] qQ) (c_law_entries_of:bM P w K mg base aQ 19 "_law_entries_of" ["_law_values"] rN) (c_law_whole:bM P w K mg base aQ 19 "_law_whole" ["_law_found"] BP)
  (c_law_clashing:bM P w K mg base aQ 19 "_law_clashing" ["_law_older","_law_mine","_law_yours"] vV) (c_law_both:bM P w K mg base aQ 19 "_law_both" ["_law_older","_law_mine","_law_yours"] qy)
  (canswers:bM P w K mg base aQ 19 "answers" ["deeds"] iC) (centries:bM P w K mg base aQ 19 "entries" ["deeds","version"] iD) (F:cG K "law" "law" yH f fd):aS P w K mg base aQ 20 f fd ["_law_script"] (rP K):=by
 have sc:=EC;have nk:=yr;walk_at "f"
 ·obtain⟨_,_,rfl,_⟩:=h
  rfl
 ·obtain⟨a,xs,rfl,ha,lx,k⟩:=h
  have hu0:=hr.cu;have hu:=dk hr;have hs:=sizeLine_eq;refine⟨_,(af (au (i:=0) sc.nd rfl (by walk_at "o") (dq (pO K) (pv 0) fe (dD aj)))
   (af (au (i:=0) sc.nd rfl (by walk_at "o") (bh c_law_mixed hr (ag (pv 0) ae)))
   (af (cH (uQ (bh c_law_day hr (ag (dq (pO K) (pv 0) (dD aj) (dD aj)) ae)) (mB K (n:=3) rfl (cN (aM (i:=1) sc.nd rfl (by walk_at "o")) (cN (aM (i:=2) sc.nd rfl (by walk_at "o")) (cN (aM (i:=3) sc.nd rfl (by walk_at "o")) jj))))))
   (af (au (i:=4) sc.nd rfl (by walk_at "o") (aA bp (bh c_law_at hr (ag (pv 0) (ag aj ae))) aj))
   (af (cH (au (i:=5) sc.nd rfl (by walk_at "o") (bh c_law_pick hr (ag (pv 3) (ag (bh c_law_at hr (ag (pv 0) (ag aj ae))) ae)))))
   (af (au (i:=6) sc.nd rfl (by walk_at "o") (bh c_law_pick hr (ag (pv 3) (ag (pv 4) ae))))
   (af (cH (au (i:=7) sc.nd rfl (by walk_at "o") (bh c_law_pick hr (ag (pv 3) (ag (bh c_law_at hr (ag (pv 0) (ag aj ae))) ae)))))
   (af (au (i:=8) sc.nd rfl (by walk_at "o") (br (bc K) rfl B.len boot_len (ag (bu hu (pv 3) ar (fun _ _=>rfl)) ae)))
   (af (cH (au (i:=9) sc.nd rfl (by walk_at "o") (aA mT (pv 1) (aT (ag (bH (ag ar (ag (pv 5) (ag (pv 6) (ag (pv 7) ae))))) ae)))))
   (af (cH (au (i:=10) sc.nd rfl (by walk_at "o") (aA mT (pv 1) (aT (ag (bH (ag ar (ag (pv 5) (ag (pv 7) (ag (pv 6) ae))))) ae)))))
   (af (cH (au (i:=11) sc.nd rfl (by walk_at "o") (aA mT (pv 1) (aT (ag (bH (ag ar (ag (pv 5) (ag (pv 5) (ag (pv 7) ae))))) ae)))))
   (af (cH (au (i:=12) sc.nd rfl (by walk_at "o") (bh canswers hr (ag (cS (bP K) rfl B.lst boot_list (ag (pv 9) ae)) ae))))
   (af (cH (au (i:=13) sc.nd rfl (by walk_at "o") (bh canswers hr (ag (cS (bP K) rfl B.lst boot_list (ag (pv 10) ae)) ae))))
   (af (cH (au (i:=14) sc.nd rfl (by walk_at "o") (bh canswers hr (ag (cS (bP K) rfl B.lst boot_list (ag (pv 11) ae)) ae))))
   (af (dt PassesOwn.never rfl (bq K (aT (ag (pv 12) (ag (pv 13) (ag (pv 14) ae))))) (aM (i:=15) sc.nd rfl (by walk_at "o")) (ao (a_ (PW.pt (hJ (eM (cK (br (bL K) rfl B.isi boot_isinstance (ag (pv 15) (ag (cv (v:=.ty "list") rfl B.lst boot_list rfl) ae))))) (fU (aF dS (br (bc K) rfl B.len boot_len (ag (pv 15) ae)) (aA dO (br (bc K) rfl B.len boot_len (ag (pv 1) ae)) aj) (aK _))))) (ao (aw fo)) aJ)))
   (af (cH (a_ (PW.pt (hJ (eM (cK (bh c_law_whole hr (ag (aG (aI K) (pv 14) (dr cF aj) (fun _ _=>rfl)) ae)))) (fU (aF dS (aG (aI K) (pv 14) (dr cF aj) (fun _ _=>rfl)) (pv 8) (aK _))))) (ao (aw fo)) aJ))
   (af (au (i:=16) sc.nd rfl (by walk_at "o") (bh c_law_entries_of hr (ag (aG (aI K) (bu hu (pv 3) ar (fun _ _=>rfl)) (pv 7) (fun _ _=>rfl)) ae)))
   (af (cH (a_ (eM (cK (bh c_law_stays_so hr (ag (bh centries hr (ag (cS (bP K) rfl B.lst boot_list (ag (pv 11) ae)) (ag (pv 8) ae))) (ag (pv 16) ae))))) (ao (aw fo)) aJ))
   (af (au (i:=17) sc.nd rfl (by walk_at "o") (aG (aI K) (bu hu (pv 3) ar (fun _ _=>rfl)) (pv 5) (fun _ _=>rfl)))
   (af (au (i:=18) sc.nd rfl (by walk_at "o") (aG (aI K) (bu hu (pv 3) ar (fun _ _=>rfl)) (pv 6) (fun _ _=>rfl)))
   (af (cH (au (i:=19) sc.nd rfl (by walk_at "o") (aG (aI K) (bu hu (pv 3) ar (fun _ _=>rfl)) (pv 7) (fun _ _=>rfl))))
   (af (cH (au (i:=20) sc.nd rfl (by walk_at "o") (bh c_law_clashing hr (ag (pv 17) (ag (pv 18) (ag (pv 19) ae))))))
   (af (a_ (aF (nD K hu0) (pv 20) (aT ae) (aK _)) (af (gY (i:=21) (N':=["_law_row"]) (ix:=[none]) sc.nd rfl rfl rfl ?S1 (bq K (pv 20)) (fun cl C fp s H=>(aM (i:=0) nk rfl (by walk_at "o"))) (fun cl C fp s H=>di) (fun cl C fp s H=>(bH (ag (aG (aH K) (pv 0) aj (fun _ _=>rfl)) (ag (aG (aH K) (pv 0) aj (fun _ _=>rfl)) (ag (aG (aH K) (pv 0) aj (fun _ _=>rfl)) (ag (aG (aH K) (pv 0) aj (fun _ _=>rfl)) ae)))))))
    (ao (aw (bh c_law_stays_so hr (ag (aT (ag (aG (aI K) (pv 12) (dr cF aj) (fun _ _=>rfl)) (ag (aG (aI K) (pv 13) (dr cF aj) (fun _ _=>rfl)) ae))) (ag (aT (ag (bH (ag ar (ag (pv 20) ae))) (ag (bH (ag ar (ag (pv 21) ae))) ae))) ae)))))) aJ)
   (af (cH (a_ (eM (cK (bh c_law_stays_so hr (ag (aT (ag (aG (aI K) (pv 12) (dr cF aj) (fun _ _=>rfl)) (ag (aG (aI K) (pv 13) (dr cF aj) (fun _ _=>rfl)) ae))) (ag (aT (ag (pv 8) (ag (pv 8) ae))) ae))))) (ao (aw fo)) aJ))
   (af (cH (au (i:=16) sc.nd rfl (by walk_at "o") (bh c_law_both hr (ag (pv 17) (ag (pv 18) (ag (pv 19) ae))))))
   (af (cH (a_ (eM (cK (bh c_law_stays_so hr (ag (bh centries hr (ag (cS (bP K) rfl B.lst boot_list (ag (pv 9) ae)) (ag (pv 8) ae))) (ag (pv 16) ae))))) (ao (aw fo)) aJ))
   (ao (aw (bh c_law_stays_so hr (ag (bh centries hr (ag (cS (bP K) rfl B.lst boot_list (ag (pv 10) ae)) (ag (pv 8) ae))) (ag (pv 16) ae))))))))))))))))))))))))))))))),?_⟩
  case S1=>exact kG.is (N:=GB) (osc:=aq yH) (by decide +kernel)
  walk_at "rd";refine⟨_,ha,fun p0 hp0=>?_⟩;rw[Bz _ (by rw[List.length_map];omega)];have f0:upd H p0 (.lst (xs.map V.int)) p0=some (.lst (xs.map V.int)):=aa;generalize upd H p0 (.lst (xs.map V.int))=G0 at f0 ⊢;refine⟨p0,xs,rfl,f0,by omega,fun p1 ns hp1 ln hn=>?_⟩;have f1:upd G0 p1 (.lst (ns.map nV)) p1=some (.lst (ns.map nV)):=aa;generalize upd G0 p1 (.lst (ns.map nV))=G1 at f1 ⊢;intro I hI;refine⟨p1,rfl,_,aO.of f1,fun p1b hp1b=>?_⟩;obtain⟨ns',ec,lns⟩:=yd nV ns (some 2) (some 28);have l30:ns'.length<=26:=by
   have q1:=xP (ns.map nV) 2 28;have q2:=congrArg List.length ec;rw[List.length_map] at q2;have q3:(gp (ns.map nV) (some 2) (some 28)).length<=26:=q1;omega
  rw[ec];have s1b:=(aE.refl G1).new (o:=.lst (ns'.map nV)) hp1b;have f1b:upd G1 p1b (.lst (ns'.map nV)) p1b=some (.lst (ns'.map nV)):=aa;generalize upd G1 p1b (.lst (ns'.map nV))=G1b at s1b f1b ⊢;refine⟨p1b,ns'.map fun n:Nat=>(n:Int),rfl,by rw[f1b,List.map_map];rfl,by rw[List.length_map];omega,fun p dl tl h a1 a2 a3 a5 ds das tvs mas nas G2 ld okd hp DA kp2=>?_⟩;rw[List.length_map] at ld;have DS:=mQ ds yK (by omega) okd;rw[Nat.zero_add] at DS;have pre:=DS.pre (by omega);have l0:=DS.l0;have l1:=DS.l1;have small:∀ (i:Nat) m,(aU ds S0).2.ms[i]?=some m->m.length<64:=fun i m e=>by
   have:=pre.un i i m m e e;unfold bY at this;rw[List.length_append,List.length_map] at this;omega
  have lm:=DA.hl.lm;have gmas:∀ {v:Nat},v<(aU ds S0).2.ms.length->mas[v]?=some (mas.getD v 0)/\(aU ds S0).2.ms[v]?=some ((aU ds S0).2.ms.getD v []):=fun {v} hv=>⟨by simp[List.getD,show v<mas.length by omega],by simp[List.getD,hv]⟩;have gi:∀ {v:Nat},v<(aU ds S0).2.ms.length->∀ {G:Hp},fk G dl tl h a1 a2 a3 a5 ds das tvs mas nas->G (mas.getD v 0)=some (.dK (aP sV ((aU ds S0).2.ms.getD v []))):=fun {v} hv {G} DG=>DG.hl.mm v _ _ (gmas hv).1 (gmas hv).2;have nw:∀ {G:Hp}{l:Addr},fk G dl tl h a1 a2 a3 a5 ds das tvs mas nas->G l=none->∃ G',upd G l (.lst (das.map V.ref))=G'/\aE G G'/\fk G' dl tl h a1 a2 a3 a5 ds das tvs mas nas/\ig G' l das ds:=fun {G l} DG hl=>by
   have sm:=(aE.refl G).new (o:=.lst (das.map V.ref)) hl;have DG':=DG.same sm;exact⟨_,rfl,sm,DG',aa,DG'.pd,by omega,okd⟩
  refine⟨p,rfl,_,cI.of hp,rfl,_,_,rfl,_,_,rfl,_,_,rfl,rfl,hI.go ?_⟩;walk_at "rd";have e1s:∀ {G},aE G2 G->G p1=some (.lst (ns.map nV)):=fun sm=>sm _ _ (kp2 _ _ (s1b _ _ f1) (by simp));refine⟨p1,ns,0,rfl,e1s (aE.refl _),hn,fun sd hsd=>⟨_,rfl,by omega,?_⟩⟩;intro I hI;refine⟨p1,ns,2,rfl,e1s (aE.refl _),hn,fun sd2 hsd2=>?_⟩;refine⟨h,a1,a2,a3,a5,_,mas,sd2,rfl,DA.hl.hh,DA.hl.h1,by omega,fun b G3 hb kp3=>?_⟩;refine hI.go ?_;walk_at "rd";have s3:aE G2 G3:=fun c o hc=>kp3 c o hc (by simp);have D3:=DA.same s3;refine⟨h,a1,a2,a3,a5,_,mas,sd % 1000000,by rw[show ((sd:Int) % 1000000)=((sd % 1000000:Nat):Int) by omega];rfl,D3.hl.hh,D3.hl.h1,by omega,fun o G4 ho kp4=>?_⟩;have s4:aE G3 G4:=fun c o hc=>kp4 c o hc (by simp);have D4:=D3.same s4;intro I hI;refine⟨p1,ns,1,rfl,e1s (s3.trans s4),hn,fun sd5 hsd5=>?_⟩;refine⟨h,a1,a2,a3,a5,_,mas,sd5,rfl,D4.hl.hh,D4.hl.h1,by omega,fun t G5 ht kp5=>?_⟩;refine hI.go ?_;walk_at "rd";have s5:aE G4 G5:=fun c o hc=>kp5 c o hc (by simp);have D5:=D4.same s5;have hb':b<(aU ds S0).2.ms.length:=by omega
  have ho':o<(aU ds S0).2.ms.length:=by omega
  have ht':t<(aU ds S0).2.ms.length:=by omega
  have lda:das.length=ds.length:=Paired.length DA.pd;have okJ:∀ {i j k:Nat},i<(aU ds S0).2.ms.length->j<(aU ds S0).2.ms.length->k<(aU ds S0).2.ms.length->cW (.join (i:Int) (j:Int) (k:Int)):=fun {i j k} hi hj hk=>by
   refine⟨fun n e=>(by cases e),fun _ _ _ e=>(by cases e),fun z hz=>?_⟩;simp only[bI,List.mem_cons,List.not_mem_nil,or_false] at hz;rcases hz with rfl|rfl|rfl <;> omega
  have nwJ:∀ {G:Hp}{l e:Addr} (d:cb),cW d->fk G dl tl h a1 a2 a3 a5 ds das tvs mas nas->G e=some (.tup (bT d))->G l=none->∃ G',upd G l (.lst (das.map V.ref++[.ref e]))=G'/\aE G G'/\ig G' l (das++[e]) (ds++[d]):=fun {G l e} d okd' DG he hl=>by
   have sm:=(aE.refl G).new (o:=.lst (das.map V.ref++[.ref e])) hl;refine⟨_,rfl,sm,by rw[aa,List.map_append];rfl,Paired.snoc (DG.same sm).pd (sm _ _ he),by rw[List.length_append,List.length_singleton];omega,fun x hx=>?_⟩;rcases List.mem_append.mp hx with hx|hx
   ·exact okd x hx
   ·rw[List.mem_singleton.mp hx];exact okd'
  have lJ:∀ d:cb,(ds++[d]).length<=63:=fun d=>by rw[List.length_append,List.length_singleton];omega
  have lmm:(mas.map V.ref).length=(aU ds S0).2.ms.length:=by rw[List.length_map];exact lm
  refine⟨_,bE.k' (k:=.inr ("maps":Str)) D5.hl.hh (bS _ _ _ _ _),_,.inl ⟨_,aO.of D5.hl.h1,rfl⟩,?_⟩;rw[lmm];intro I hI;refine⟨by omega,fun e1 he1=>⟨by omega,fun x1 hx1=>?_⟩⟩;have t6:=(aE.refl G5).new (o:=.tup [V.str (Str.ofString "join"),nV b,nV o,nV t]) he1;have f6:upd G5 e1 (.tup [V.str (Str.ofString "join"),nV b,nV o,nV t]) e1=some (.tup (bT (.join (b:Int) (o:Int) (t:Int)))):=aa;generalize upd G5 e1 (.tup [V.str (Str.ofString "join"),nV b,nV o,nV t])=G6 at t6 f6 hx1 ⊢;have t7:=(aE.refl G6).new (o:=.lst [.ref e1]) hx1;have f7:upd G6 x1 (.lst [.ref e1]) x1=some (.lst [.ref e1]):=aa;generalize upd G6 x1 (.lst [.ref e1])=G7 at t7 f7 ⊢;have D7:=(D5.same t6).same t7;refine⟨_,D7.hd,_,f7,by rw[List.length_map,List.length_singleton];omega,fun r1 hr1=>?_⟩;have t8:=(aE.refl G7).new (o:=.lst (das.map V.ref++[.ref e1])) hr1;have f8:upd G7 r1 (.lst (das.map V.ref++[.ref e1])) r1=some (.lst (das.map V.ref++[.ref e1])):=aa;generalize upd G7 r1 (.lst (das.map V.ref++[.ref e1]))=G8 at t8 f8 ⊢;have D8:=D7.same t8;have g8:=t8 _ _ (t7 _ _ f6);refine hI.go ?_;walk_at "rd";intro I hI;refine⟨by omega,fun e2 he2=>⟨by omega,fun x2 hx2=>?_⟩⟩;have t9:=(aE.refl G8).new (o:=.tup [V.str (Str.ofString "join"),nV b,nV t,nV o]) he2;have f9:upd G8 e2 (.tup [V.str (Str.ofString "join"),nV b,nV t,nV o]) e2=some (.tup (bT (.join (b:Int) (t:Int) (o:Int)))):=aa;generalize upd G8 e2 (.tup [V.str (Str.ofString "join"),nV b,nV t,nV o])=G9 at t9 f9 hx2 ⊢;have t10:=(aE.refl G9).new (o:=.lst [.ref e2]) hx2;have f10:upd G9 x2 (.lst [.ref e2]) x2=some (.lst [.ref e2]):=aa;generalize upd G9 x2 (.lst [.ref e2])=G10 at t10 f10 ⊢;have D10:=(D8.same t9).same t10;refine⟨_,D10.hd,_,f10,by rw[List.length_map,List.length_singleton];omega,fun r2 hr2=>?_⟩;have t11:=(aE.refl G10).new (o:=.lst (das.map V.ref++[.ref e2])) hr2;have f11:upd G10 r2 (.lst (das.map V.ref++[.ref e2])) r2=some (.lst (das.map V.ref++[.ref e2])):=aa;generalize upd G10 r2 (.lst (das.map V.ref++[.ref e2]))=G11 at t11 f11 ⊢;have D11:=D10.same t11;have g11:=t11 _ _ (t10 _ _ f9);refine hI.go ?_;walk_at "rd";intro I hI;refine⟨by omega,fun e3 he3=>⟨by omega,fun x3 hx3=>?_⟩⟩;have t12:=(aE.refl G11).new (o:=.tup [V.str (Str.ofString "join"),nV b,nV b,nV t]) he3;have f12:upd G11 e3 (.tup [V.str (Str.ofString "join"),nV b,nV b,nV t]) e3=some (.tup (bT (.join (b:Int) (b:Int) (t:Int)))):=aa;generalize upd G11 e3 (.tup [V.str (Str.ofString "join"),nV b,nV b,nV t])=G12 at t12 f12 hx3 ⊢;have t13:=(aE.refl G12).new (o:=.lst [.ref e3]) hx3;have f13:upd G12 x3 (.lst [.ref e3]) x3=some (.lst [.ref e3]):=aa;generalize upd G12 x3 (.lst [.ref e3])=G13 at t13 f13 ⊢;have D13:=(D11.same t12).same t13;refine⟨_,D13.hd,_,f13,by rw[List.length_map,List.length_singleton];omega,fun r3 hr3=>?_⟩;have t14:=(aE.refl G13).new (o:=.lst (das.map V.ref++[.ref e3])) hr3;have f14:upd G13 r3 (.lst (das.map V.ref++[.ref e3])) r3=some (.lst (das.map V.ref++[.ref e3])):=aa;generalize upd G13 r3 (.lst (das.map V.ref++[.ref e3]))=G14 at t14 f14 ⊢;have D14:=D13.same t14;have g14:=t14 _ _ (t13 _ _ f12);refine hI.go ?_;walk_at "rd";have w11:aE G8 G11:=(t9.trans t10).trans t11;have w14:aE G11 G14:=(t12.trans t13).trans t14;have o1:=okJ hb' ho' ht';have o2:=okJ hb' ht' ho';have o3:=okJ hb' hb' ht';intro I hI;refine⟨_,.inl (aO.of (w14 _ _ (w11 _ _ f8))),fun l1 hl1=>?_⟩;obtain⟨G15,e15,s15,dd15⟩:=nwJ _ o1 D14 (w14 _ _ (w11 _ _ g8)) hl1;rw[e15];refine⟨l1,_,_,rfl,dd15,lJ _,fun q1 u1 G16 c1 Ec kp16=>?_⟩;refine hI.go ?_;walk_at "rd";have s16:aE G14 G16:=s15.trans fun c o hc=>kp16 c o hc (by simp);have D16:=D14.same s16;intro I hI;refine⟨_,.inl (aO.of (s16 _ _ (w14 _ _ f11))),fun l2 hl2=>?_⟩;obtain⟨G17,e17,s17,dd17⟩:=nwJ _ o2 D16 (s16 _ _ (w14 _ _ g11)) hl2;rw[e17];refine⟨l2,_,_,rfl,dd17,lJ _,fun q2 u2 G18 c2 Ej kp18=>?_⟩;refine hI.go ?_;walk_at "rd";have s18:aE G16 G18:=s17.trans fun c o hc=>kp18 c o hc (by simp);have D18:=D16.same s18;intro I hI;refine⟨_,.inl (aO.of (s18 _ _ (s16 _ _ f14))),fun l3 hl3=>?_⟩;obtain⟨G19,e19,s19,dd19⟩:=nwJ _ o3 D18 (s18 _ _ (s16 _ _ g14)) hl3;rw[e19];refine⟨l3,_,_,rfl,dd19,lJ _,fun q3 u3 G20 c3 C5 kp20=>?_⟩;refine hI.go ?_;walk_at "rd";have s20:aE G18 G20:=s19.trans fun c o hc=>kp20 c o hc (by simp);have D20:=D18.same s20;have c1':=s20 _ _ (s18 _ _ c1);have c2':=s20 _ _ c2;refine⟨by omega,fun p21 hp21=>?_⟩;have t21:=(aE.refl G20).new (o:=.lst [V.ref q1,V.ref q2,V.ref q3]) hp21;have f21:upd G20 p21 (.lst [V.ref q1,V.ref q2,V.ref q3]) p21=some (.lst [V.ref q1,V.ref q2,V.ref q3]):=aa;generalize upd G20 p21 (.lst [V.ref q1,V.ref q2,V.ref q3])=G21 at t21 f21 ⊢;have D21:=D20.same t21;have c1g:=t21 _ _ c1';have c2g:=t21 _ _ c2';have c3g:=t21 _ _ c3;have lu:∀ {u:List V}{G:Hp} (d:cb),Paired (cC (fun _=>True) G) u (aU (ds++[d]) S0).1->u.length=ds.length+1:=fun d p=>by rw[Paired.length p,jJ,List.length_append];rfl
  refine⟨⟨_,aO.of f21⟩,cq (K:=K) (a:=p21) (xs:=[V.ref q1,V.ref q2,V.ref q3]) (fun i σ G=>G21=G/\∃ o',σ=[some (.ref p1),some (.ref dl),some (.ref tl),some (.ref h),some (.int ((sd:Int) % 1000000)),some (nV b),some (nV o),some (nV t),some (.int ((aU ds S0).2.ms.length:Int)),some (.ref r1),some (.ref r2),some (.ref r3),some (.ref q1),some (.ref q2),some (.ref q3),o',none,none,none,none,none,none]) ⟨rfl,none,rfl⟩ (fun i σ G I=>by rw[<- I.1];exact aO.of f21) ?_ ?_⟩
  ·rintro i y σ G hi ⟨rfl,o',rfl⟩
   obtain⟨q,us,rfl,hq,lq⟩:∃ q us,y=.ref q/\G21 q=some (.lst us)/\us.length=ds.length+1:=by
    have:=List.mem_of_getElem? hi;simp only[List.mem_cons,List.not_mem_nil,or_false] at this;rcases this with rfl|rfl|rfl
    ·exact⟨_,_,rfl,c1g,lu _ Ec⟩
    ·exact⟨_,_,rfl,c2g,lu _ Ej⟩
    ·exact⟨_,_,rfl,c3g,lu _ C5⟩
   walk_at "rd";refine⟨_,_,⟨rfl,rfl⟩,true,_,cJ.lst hq,rfl,?_⟩;rw[if_neg (by simp)];refine⟨_,.inl ⟨_,aO.of hq,rfl⟩,_,.inl ⟨_,aO.of D21.hd,rfl⟩,rfl,?_⟩;rw[if_neg (by rw[List.length_map,lda,lq];simp)];exact⟨_,rfl⟩
  ·rintro σ G ⟨rfl,o',rfl⟩
   walk_at "rd";have gmb:=(gmas hb').2;have gmo:=(gmas ho').2;have gmt:=(gmas ht').2;have gib:∀ {G:Hp},fk G dl tl h a1 a2 a3 a5 ds das tvs mas nas->G (mas.getD b 0)=some (.dK (aP sV ((aU ds S0).2.ms.getD b []))):=fun DG=>gi hb' DG;have gio:∀ {G:Hp},fk G dl tl h a1 a2 a3 a5 ds das tvs mas nas->G (mas.getD o 0)=some (.dK (aP sV ((aU ds S0).2.ms.getD o []))):=fun DG=>gi ho' DG;have git:∀ {G:Hp},fk G dl tl h a1 a2 a3 a5 ds das tvs mas nas->G (mas.getD t 0)=some (.dK (aP sV ((aU ds S0).2.ms.getD t []))):=fun DG=>gi ht' DG;generalize (aU ds S0).2.ms.getD b []=mb at gmb gib;generalize (aU ds S0).2.ms.getD o []=mo at gmo gio;generalize (aU ds S0).2.ms.getD t []=mt at gmt git;obtain⟨U,u1',u2',u3'⟩:=DS.us;have ndb:=(u3' _ _ gmb).1;have ndo:=(u3' _ _ gmo).1;have ndt:=(u3' _ _ gmt).1;rw[dc] at Ec Ej C5;obtain⟨xs1,y1,rfl,hy1⟩:=eA Ec;obtain⟨xs2,y2,rfl,hy2⟩:=eA Ej;obtain⟨xs3,y3,rfl,hy3⟩:=eA C5;have j1:=gD gmb gmo gmt;have j2:=gD gmb gmt gmo;have j3:=gD gmb gmb gmt;have j3':=j3.1 ((eU ndb ndb ndt).mpr (vU mb mt));obtain⟨j3a,nd3,st3,j3m⟩:=j3';rw[j3a] at hy3;have hy3':y3=nV (aU ds S0).2.ms.length:=hy3;subst hy3';intro I hI;refine⟨_,aO.of c3g,_,cX _ _,_,rfl,true,rfl,?_⟩;rw[if_neg (by simp)];refine⟨_,aO.of c3g,_,cX _ _,rfl,?_⟩;rw[if_neg (by simp[nV])];refine hI.go ?_;walk_at "rd";have r1g:=t21 _ _ (s20 _ _ (s18 _ _ (s16 _ _ (w14 _ _ (w11 _ _ f8)))));have r2g:=t21 _ _ (s20 _ _ (s18 _ _ (s16 _ _ (w14 _ _ f11))));have r3g:=t21 _ _ (s20 _ _ (s18 _ _ (s16 _ _ f14)));have e1g:=t21 _ _ (s20 _ _ (s18 _ _ (s16 _ _ (w14 _ _ (w11 _ _ g8)))));have e2g:=t21 _ _ (s20 _ _ (s18 _ _ (s16 _ _ (w14 _ _ g11))));have e3g:=t21 _ _ (s20 _ _ (s18 _ _ (s16 _ _ g14)));have al:∀ {G:Hp}{q r:Addr}{m m':Mp},m'.length<64->bo m=bo m'->(∀ j,ak m j=ak m' j)->gQ G q m (bo m)->gQ G r m' (bo m')->∃ n,n<=1000000/\eS G n [.ref q] [.ref r]:=fun {G q r m m'} hm ek ea e1 e2=>by
    rw[ek] at e1;obtain⟨rs,h1,h2⟩:=e1;obtain⟨rs',h1',h2'⟩:=e2;refine⟨_,?_,eS.lst h1 h1' (sr _ (fun j _=>ea j) h2 h2') .nil⟩;have:(bo m').length=m'.length:=by
     unfold bo;rw[(aR _).length_eq,List.length_map]
    omega
   have ndJ:∀ {d:cb}{m:Mp},cW d->(aU (ds++[d]) S0).2.ms[(aU ds S0).2.ms.length]?=some m->aB m:=fun {d m} ok hm=>by
    obtain⟨_,_,_,u⟩:=(mQ (ds++[d]) yK (by have:=lJ d;omega) fun x hx=>(List.mem_append.mp hx).elim (okd x) fun hx=>by rw[List.mem_singleton.mp hx];exact ok).us;exact (u _ _ hm).1
   have atJ:∀ {d:cb}{m:Mp},(aC (aU ds S0).2 d).2.ms=(aU ds S0).2.ms++[m]->(aU (ds++[d]) S0).2.ms[(aU ds S0).2.ms.length]?=some m:=fun {d m} e=>by
    rw[dc];show (aC (aU ds S0).2 d).2.ms[_]?=_;rw[e,List.getElem?_append_right (Nat.le_refl _),Nat.sub_self]
    rfl
   refine⟨_,bE.k' (k:=.inr ("maps":Str)) D21.hl.hh (bS _ _ _ _ _),a1,rfl,_,_,rfl,aO.of D21.hl.h1,.ref (mas.getD t 0),bX (by rw[List.getElem?_map,(gmas ht').1];rfl),_,mt,rfl,git D21,small _ _ gmt,fun q22 G22 e22 kp22=>?_⟩;have s22:aE G21 G22:=fun c o hc=>kp22 c o hc (by simp);have D22:=D21.same s22;intro I hI;refine⟨_,.inl (aO.of (s22 _ _ r3g)),fun l23 hl23=>?_⟩;obtain⟨G23,e23,s23,dd23⟩:=nwJ _ o3 D22 (s22 _ _ e3g) hl23;rw[e23];have k3:=atJ j3m;refine⟨l23,_,_,(aU ds S0).2.ms.length,_,rfl,dd23,lJ _,k3,fun q24 G24 e24 kp24=>?_⟩;have s24:aE G22 G24:=s23.trans fun c o hc=>kp24 c o hc (by simp);obtain⟨n24,hn24,al24⟩:=al (small _ _ gmt) (jK (ndJ o3 k3) ndt (lB mb mt nd3 st3)) (lB mb mt nd3 st3) e24 (e22.same s24);refine⟨_,_,_,rfl,al24,hn24,fun G25 kp25=>⟨true,rfl,?_⟩⟩;rw[if_neg (by simp)];refine hI.go ?_;walk_at "rd";have s25:aE G21 G25:=(s22.trans s24).trans fun c o hc=>kp25 c o hc (by simp);have D25:=D21.same s25;refine⟨_,bE.k' (k:=.inr ("maps":Str)) D25.hl.hh (bS _ _ _ _ _),a1,rfl,_,_,rfl,aO.of D25.hl.h1,.ref (mas.getD b 0),bX (by rw[List.getElem?_map,(gmas hb').1];rfl),?_⟩;refine⟨_,bE.k' (k:=.inr ("maps":Str)) D25.hl.hh (bS _ _ _ _ _),a1,rfl,_,_,rfl,aO.of D25.hl.h1,.ref (mas.getD o 0),bX (by rw[List.getElem?_map,(gmas ho').1];rfl),?_⟩;intro I hI;refine⟨_,bE.k' (k:=.inr ("maps":Str)) D25.hl.hh (bS _ _ _ _ _),a1,rfl,_,_,rfl,aO.of D25.hl.h1,.ref (mas.getD t 0),bX (by rw[List.getElem?_map,(gmas ht').1];rfl),?_⟩;refine hI.go ?_;walk_at "rd";have smb:=small _ _ gmb;have smo:=small _ _ gmo;have smt:=small _ _ gmt;intro I hI;refine⟨_,_,_,mb,mo,mt,rfl,gib D25,gio D25,git D25,by omega,by omega,pre.un o t _ _ gmo gmt,fun p26 rs26 G26 h26 pr26 kp26=>?_⟩;refine hI.go ?_;walk_at "rd";have s26:aE G21 G26:=s25.trans fun c o hc=>kp26 c o hc (by simp);have D26:=D21.same s26;refine⟨by omega,fun p27 hp27=>?_⟩;have t27:=(aE.refl G26).new (o:=.lst []) hp27;have f27:upd G26 p27 (.lst []) p27=some (.lst []):=aa;generalize upd G26 p27 (.lst [])=G27 at t27 f27 ⊢;have s27:=s26.trans t27;have h27:=t27 _ _ h26;have pr27:rW G27 mb mo mt rs26 (pI mb mo mt):=Paired.imp' (fun a n x=>t27 _ _ x) pr26;refine⟨_,aO.of h27,aO.of f27,?_⟩;have lrs:rs26.length=(pI mb mo mt).length:=Paired.length pr26;have unot:=pre.un o t _ _ gmo gmt;have lcc:(pI mb mo mt).length<64:=by
    refine Nat.lt_of_le_of_lt ?_ unot;unfold pI;exact Nat.le_trans (List.length_filter_le _ _) (nH mo mt)
   by_cases ec:pI mb mo mt=[]
   ·have er:rs26=[]:=List.length_eq_zero_iff.mp (by rw[lrs,ec];rfl)
    subst er;rw[if_neg (by simp)];obtain⟨j1a,nd1,st1,j1m⟩:=j1.1 ((eU ndb ndo ndt).mpr ec);have ec2:pI mb mt mo=[]:=by rw[ie ndo ndt];exact ec
    obtain⟨j2a,nd2,st2,j2m⟩:=j2.1 ((eU ndb ndt ndo).mpr ec2);rw[j1a] at hy1;rw[j2a] at hy2;have hy1':y1=nV (aU ds S0).2.ms.length:=hy1;have hy2':y2=nV (aU ds S0).2.ms.length:=hy2;subst hy1' hy2';intro I hI;refine⟨_,aO.of (s27 _ _ c1g),_,cX _ _,_,aO.of (s27 _ _ c2g),_,cX _ _,by omega,fun p28 hp28=>?_⟩;have t28:=(aE.refl G27).new (o:=.lst [nV (aU ds S0).2.ms.length,nV (aU ds S0).2.ms.length]) hp28;have f28:upd G27 p28 (.lst [nV (aU ds S0).2.ms.length,nV (aU ds S0).2.ms.length]) p28=some (.lst [nV (aU ds S0).2.ms.length,nV (aU ds S0).2.ms.length]):=aa;generalize upd G27 p28 (.lst [nV (aU ds S0).2.ms.length,nV (aU ds S0).2.ms.length])=G28 at t28 f28 ⊢;refine⟨by omega,fun p29 hp29=>?_⟩;have t29:=(aE.refl G28).new (o:=.lst [V.int ((aU ds S0).2.ms.length:Int),V.int ((aU ds S0).2.ms.length:Int)]) hp29;have f29:upd G28 p29 (.lst [V.int ((aU ds S0).2.ms.length:Int),V.int ((aU ds S0).2.ms.length:Int)]) p29=some (.lst [V.int ((aU ds S0).2.ms.length:Int),V.int ((aU ds S0).2.ms.length:Int)]):=aa;generalize upd G28 p29 (.lst [V.int ((aU ds S0).2.ms.length:Int),V.int ((aU ds S0).2.ms.length:Int)])=G29 at t29 f29 ⊢;refine⟨_,_,_,rfl,eS.lst (t29 _ _ f28) f29 (.int _ (.int _ .nil)) .nil,by omega,fun G30 kp30=>⟨true,rfl,?_⟩⟩;rw[if_neg (by simp)];refine hI.go ?_;walk_at "rd";have s30:aE G21 G30:=((s27.trans t28).trans t29).trans fun c o hc=>kp30 c o hc (by simp);have D30:=D21.same s30;have bg:=uO mb mo mt nd1 st1;have bn:=su ndo mb mt;have lbo:(eP mb mo mt).length<64:=by
     have:=eY bn (u:=U) fun x hx=>by
      have hx':=(mem_keys _ x).mp hx;rw[bg x,fS] at hx'
      split at hx'
      ·exact (u3' _ _ gmt).2 x hx'
      ·exact (u3' _ _ gmo).2 x hx'
     rw[List.length_map] at this;omega
    intro I hI;refine⟨_,_,_,mb,mo,mt,rfl,gib D30,gio D30,git D30,by omega,by omega,smo,pre.un b t _ _ gmb gmt,ndo,lbo,fun p31 G31 e31 kp31=>?_⟩;refine hI.go ?_;walk_at "rd";have s31:aE G21 G31:=s30.trans fun c o hc=>kp31 c o hc (by simp);have D31:=D21.same s31;intro I hI;refine⟨_,.inl (aO.of (s31 _ _ r1g)),fun l32 hl32=>?_⟩;obtain⟨G32,e32,s32,dd32⟩:=nwJ _ o1 D31 (s31 _ _ e1g) hl32;rw[e32];have k1:=atJ j1m;have k2:=atJ j2m;refine⟨l32,_,_,(aU ds S0).2.ms.length,_,rfl,dd32,lJ _,k1,fun q33 G33 e33 kp33=>?_⟩;have s33:aE G31 G33:=s32.trans fun c o hc=>kp33 c o hc (by simp);obtain⟨n33,hn33,al33⟩:=al lbo (jK (ndJ o1 k1) bn fun j=>(bg j).symm) (fun j=>(bg j).symm) e33 (e31.same s33);refine⟨_,_,_,rfl,al33,hn33,fun G34 kp34=>⟨true,rfl,?_⟩⟩;rw[if_neg (by simp)];refine hI.go ?_;walk_at "rd";have s34:aE G31 G34:=s33.trans fun c o hc=>kp34 c o hc (by simp);have D34:=D31.same s34;refine⟨_,.inl (aO.of (s34 _ _ (s31 _ _ r2g))),fun l35 hl35=>?_⟩;obtain⟨G35,e35,s35,dd35⟩:=nwJ _ o2 D34 (s34 _ _ (s31 _ _ e2g)) hl35;rw[e35];refine⟨l35,_,_,(aU ds S0).2.ms.length,_,rfl,dd35,lJ _,k2,fun q36 G36 e36 kp36=>?_⟩;have s36:aE G34 G36:=s35.trans fun c o hc=>kp36 c o hc (by simp);have bg2:∀ j,ak (bF mb mt mo nd2 st2).m j=ak (eP mb mo mt) j:=fun j=>(tP ec nd1 nd2 st1 st2 j).trans (bg j).symm;obtain⟨n36,hn36,al36⟩:=al lbo (jK (ndJ o2 k2) bn bg2) bg2 e36 (e31.same (s34.trans s36));exact⟨_,_,_,rfl,al36,hn36,fun H' _=>k H'⟩
   ·have er:rs26≠[]:=fun e=>ec (List.length_eq_zero_iff.mp (by rw[<- lrs,e];rfl))
    rw[if_pos (by simp[er])];have j1a:=j1.2 fun e=>ec ((eU ndb ndo ndt).mp e);have j2a:=j2.2 fun e=>ec (by rw[<- ie ndo ndt];exact (eU ndb ndt ndo).mp e);rw[j1a] at hy1;rw[j2a] at hy2;obtain⟨ta,ra,rsa,rfl,_,z1,z2,z3⟩:=hy1;obtain⟨tb,rb,rsb,rfl,_,w1,w2,w3⟩:=hy2;refine⟨⟨_,aO.of h27⟩,de (xs:=rs26.map V.ref) (fun i ys H2=>aE G27 H2/\∃ ps:List Addr,ys=ps.map V.ref/\ps.length=i/\rW H2 mb mt mo ps ((pI mb mo mt).take i)) ⟨aE.refl _,[],rfl,rfl,.nil⟩ (by rw[List.length_map];omega) ?_ ?_ ?_ ?_⟩
    ·rintro i ys H2 ⟨_,ps,rfl,lp,_⟩
     rw[List.length_map,lp];exact Nat.le_refl _
    ·rintro i ys H2 ⟨sm,_⟩
     exact aO.of (sm _ _ h27)
    ·rintro i ys H2 x hx ⟨sm,ps,rfl,lp,pp⟩ R R' g1 g2
     rw[List.getElem?_map] at hx;obtain⟨rw_,hrw,rfl⟩:=Option.map_eq_some_iff.mp hx;obtain⟨n,hn',hat⟩:=cg pr27 hrw;have hat':=sm _ _ hat;refine⟨Wk.set rfl,?_⟩;walk_at "rd";refine⟨_,cI.of hat',sV n,rfl,_,cI.of hat',oV (ak mb n),rfl,_,cI.of hat',oV (ak mt n),rfl,_,cI.of hat',oV (ak mo n),rfl,by omega,fun d hd=>g1 _ _ ?_⟩;have sd':=(aE.refl H2).new (o:=.tup [sV n,oV (ak mb n),oV (ak mt n),oV (ak mo n)]) hd;refine⟨sm.trans sd',ps++[d],by rw[List.map_append];rfl,by rw[List.length_append,lp];rfl,?_⟩;rw[List.take_add_one,hn'];exact aZ (Paired.imp' (fun a n x=>sd' _ _ x) pp) aa
    ·rintro ys H2 ⟨sm,ps,rfl,lp,pp⟩ d hd
     rw[List.length_map,lrs,List.take_length] at pp;have t28:=(aE.refl H2).new (o:=.lst (ps.map V.ref)) hd;have f28:upd H2 d (.lst (ps.map V.ref)) d=some (.lst (ps.map V.ref)):=aa;generalize upd H2 d (.lst (ps.map V.ref))=G28 at t28 f28 ⊢;have s28:=sm.trans t28;have s28':=s27.trans s28;refine⟨_,aO.of (s28' _ _ c1g),_,cX _ _,_,aO.of (s28' _ _ c2g),_,cX _ _,by omega,fun p29 hp29=>⟨by omega,fun p30 hp30=>⟨by omega,fun p31 hp31=>⟨by omega,fun p32 hp32=>?_⟩⟩⟩⟩;have t29:=(aE.refl G28).new (o:=.lst [V.ref ta,V.ref tb]) hp29;have f29:upd G28 p29 (.lst [V.ref ta,V.ref tb]) p29=some (.lst [V.ref ta,V.ref tb]):=aa;generalize upd G28 p29 (.lst [V.ref ta,V.ref tb])=G29 at t29 f29 hp30 hp31 hp32 ⊢;have t30:=(aE.refl G29).new (o:=.tup [V.str (Str.ofString "clash"),V.ref p26]) hp30;have f30:upd G29 p30 (.tup [V.str (Str.ofString "clash"),V.ref p26]) p30=some (.tup [V.str (Str.ofString "clash"),V.ref p26]):=aa;generalize upd G29 p30 (.tup [V.str (Str.ofString "clash"),V.ref p26])=G30 at t30 f30 hp31 hp32 ⊢;have t31:=(aE.refl G30).new (o:=.tup [V.str (Str.ofString "clash"),V.ref d]) hp31;have f31:upd G30 p31 (.tup [V.str (Str.ofString "clash"),V.ref d]) p31=some (.tup [V.str (Str.ofString "clash"),V.ref d]):=aa;generalize upd G30 p31 (.tup [V.str (Str.ofString "clash"),V.ref d])=G31 at t31 f31 hp32 ⊢;have t32:=(aE.refl G31).new (o:=.lst [V.ref p30,V.ref p31]) hp32;have f32:upd G31 p32 (.lst [V.ref p30,V.ref p31]) p32=some (.lst [V.ref p30,V.ref p31]):=aa;generalize upd G31 p32 (.lst [V.ref p30,V.ref p31])=G32 at t32 f32 ⊢;have y29:aE G29 G32:=(t30.trans t31).trans t32;have y28:aE G28 G32:=t29.trans y29;have y27:aE G27 G32:=s28.trans y28;have y16:aE G16 G32:=((s18.trans s20).trans t21).trans (s27.trans y27);have y18:aE G18 G32:=(s20.trans t21).trans (s27.trans y27);have a3:Paired (fun a row=>G32 a=some (.tup (eF row))) rsa (bQ mb mo mt):=Paired.imp' (fun a n x=>y16 _ _ x) z3;have b3:Paired (fun a row=>G32 a=some (.tup (eF row))) rsb (bQ mb mt mo):=Paired.imp' (fun a n x=>y18 _ _ x) w3;have a4:Paired (fun a row=>G32 a=some (.tup (eF row))) rs26 (bQ mb mo mt):=by
      rw[fC ndb ndo ndt];exact fg (Paired.imp' (fun a n x=>y27 _ _ x) pr27)
     have b4:Paired (fun a row=>G32 a=some (.tup (eF row))) ps (bQ mb mt mo):=by
      rw[fC ndb ndt ndo,ie ndo ndt];exact fg (Paired.imp' (fun a n x=>y28 _ _ (t28 _ _ x)) pp)
     have l1:(bQ mb mo mt).length<64:=by rw[fC ndb ndo ndt,List.length_map];exact lcc
     have l2:(bQ mb mt mo).length<64:=by rw[fC ndb ndt ndo,ie ndo ndt,List.length_map];exact lcc
     exact⟨_,_,_,rfl,eS.lst (y29 _ _ f29) f32 (.tup (y16 _ _ z1) (t32 _ _ (t31 _ _ f30)) (.str _ (.lst (y16 _ _ z2) (y27 _ _ h27) (jD a3 a4) .nil)) (.tup (y18 _ _ w1) (t32 _ _ f31) (.str _ (.lst (y18 _ _ w2) (y28 _ _ f28) (jD b3 b4) .nil)) .nil)) .nil,by omega,fun H' _=>k H'⟩
end
end
end Lw
set_option hygiene false in
local macro_rules|`(tactic| walk_at "A")=>`(tactic| exact ji (by k_is) (by k_is) (by k_is) (by k_is) (by k_is) (fun us hl=>match us,hl with|[_,_,_,_],_=>rfl))
set_option hygiene false in
local macro_rules|`(tactic| walk_at "B")=>`(tactic| exact ji (by k_is) (by k_is) (by k_is) (by k_is) (by k_is) (fun us hl=>match us,hl with|[_,_,_],_=>rfl))
set_option hygiene false in
local macro_rules|`(tactic| walk_at "C")=>`(tactic| exact ji (by k_is) (by k_is) (by k_is) (by k_is) (by k_is) (fun us hl=>match us,hl with|[_,_],_=>rfl))
set_option hygiene false in
local macro_rules|`(tactic| walk_at "D")=>`(tactic| exact ji (by k_is) (by k_is) (by k_is) (by k_is) (by k_is) (fun us hl=>match us,hl with|[_],_=>rfl))
set_option hygiene false in
local macro_rules|`(tactic| walk_at "E")=>`(tactic| exact mU (by k_is) (by k_is) (by k_is) (by k_is) (by k_is) (by k_is) (by k_is) (fun us hl=>match us,hl with|[_,_,_,_,_],_=>rfl))
set_option hygiene false in
local macro_rules|`(tactic| walk_at "F")=>`(tactic| exact mU (by k_is) (by k_is) (by k_is) (by k_is) (by k_is) (by k_is) (by k_is) (fun us hl=>match us,hl with|[_,_,_,_],_=>rfl))
set_option hygiene false in
local macro_rules|`(tactic| walk_at "G")=>`(tactic| exact mU (by k_is) (by k_is) (by k_is) (by k_is) (by k_is) (by k_is) (by k_is) (fun us hl=>match us,hl with|[_,_,_],_=>rfl))
set_option hygiene false in
local macro_rules|`(tactic| walk_at "H")=>`(tactic| exact mU (by k_is) (by k_is) (by k_is) (by k_is) (by k_is) (by k_is) (by k_is) (fun us hl=>match us,hl with|[_],_=>rfl))
set_option hygiene false in
local macro_rules|`(tactic| walk_at "I")=>`(tactic| exact iN KX G (by k_is) (by k_is) (by k_is) (by k_is) (fun us hl=>match us,hl with|[],_=>rfl))
set_option hygiene false in
local macro_rules|`(tactic| walk_at "J")=>`(tactic| exact iN KX G (by k_is) (by k_is) (by k_is) (by k_is) (fun us hl=>match us,hl with|[_,_,_,_,_],_=>rfl))
set_option hygiene false in
local macro_rules|`(tactic| walk_at "K")=>`(tactic| exact iN KX G (by k_is) (by k_is) (by k_is) (by k_is) (fun us hl=>match us,hl with|[_,_,_,_],_=>rfl))
set_option hygiene false in
local macro_rules|`(tactic| walk_at "L")=>`(tactic| exact iN KX G (by k_is) (by k_is) (by k_is) (by k_is) (fun us hl=>match us,hl with|[_,_,_],_=>rfl))
set_option hygiene false in
local macro_rules|`(tactic| walk_at "M")=>`(tactic| exact iN KX G (by k_is) (by k_is) (by k_is) (by k_is) (fun us hl=>match us,hl with|[_,_],_=>rfl))
set_option hygiene false in
local macro_rules|`(tactic| walk_at "N")=>`(tactic| exact iN KX G (by k_is) (by k_is) (by k_is) (by k_is) (fun us hl=>match us,hl with|[_],_=>rfl))
namespace Lw
open PySem L2 PyProof.Rows
theorem all_mk {l:PySem.W.OpenLaw}{w:World}{K:PySem.W.Frag}{h:Heap}{mg:Str->Option Value}{fa CN CP CNV CNN CV CB:Addr}{B0 newId initId:String}{bmB:List Value} (X:K.In h) (G:h.Ns mainGlobals mg) (hfa:mg "law"=some (.ref fa))
  (a_Node:PySem.W.nsIn K mainGlobals "Node"=some (some (.ref CN)))
  (a_Place:PySem.W.nsIn K mainGlobals "Place"=some (some (.ref CP)))
  (a_NoVersion:PySem.W.nsIn K mainGlobals "NoVersion"=some (some (.ref CNV)))
  (a_NoName:PySem.W.nsIn K mainGlobals "NoName"=some (some (.ref CNN)))
  (a_Version:PySem.W.nsIn K mainGlobals "Version"=some (some (.ref CV)))
  (a_Book:PySem.W.nsIn K mainGlobals "Book"=some (some (.ref CB)))
  (t_Node:zq K CN)
  (t_Place:Ct K CP)
  (t_Version:Gk K CV)
  (t_Book:Cm K CB)
  (eqN:A2 K CN)
  (FB:ExcBaseFacts B0 newId initId bmB)
  (x_NoVersion:PySem.W.excIn K CNV bmB newId=true)
  (x_NoName:PySem.W.excIn K CNN bmB newId=true)
  (ex:GG K CNV CNN)
  (gE:PySem.W.nsIn K mainGlobals "EMPTY"=some (some .none))
  (b_len:PySem.W.nsIn K mainGlobals "len"=some none)
  (b_range:PySem.W.nsIn K mainGlobals "range"=some none)
  (b_sorted:PySem.W.nsIn K mainGlobals "sorted"=some none)
  (b_list:PySem.W.nsIn K mainGlobals "list"=some none)
  (b_dict:PySem.W.nsIn K mainGlobals "dict"=some none)
  (b_isinstance:PySem.W.nsIn K mainGlobals "isinstance"=some none)
  (b_str:PySem.W.nsIn K mainGlobals "str"=some none)
  (b_int:PySem.W.nsIn K mainGlobals "int"=some none)
  (b_bool:PySem.W.nsIn K mainGlobals "bool"=some none)
  (b_tuple:PySem.W.nsIn K mainGlobals "tuple"=some none)
  (b_max:PySem.W.nsIn K mainGlobals "max"=some none)
  (b_all:PySem.W.nsIn K mainGlobals "all"=some none)
  (b_reversed:PySem.W.nsIn K mainGlobals "reversed"=some none)
  (b_set:PySem.W.nsIn K mainGlobals "set"=some none)
  (b_zip:PySem.W.nsIn K mainGlobals "zip"=some none)
  (F__law_is_name:eh K mg "_law_is_name" yG ["_law_name"])
  (F__law_beginnings_of:eh K mg "_law_beginnings_of" yJ ["_law_name"])
  (F__law_set:eh K mg "_law_set" ym ["_law_hall","_law_values","_law_nodes","_law_name","_law_to"])
  (F__law_changes:eh K mg "_law_changes" wC ["_law_old","_law_new"])
  (F__law_note:eh K mg "_law_note" uK ["_law_hall","_law_values","_law_nodes","_law_parent"])
  (F__law_start:eh K mg "_law_start" qv [])
  (F__law_joining:eh K mg "_law_joining" rV ["_law_hall","_law_deed"])
  (F__law_plainly:eh K mg "_law_plainly" EF ["_law_hall","_law_deed"])
  (F__law_name_by:eh K mg "_law_name_by" Fc ["_law_seed"])
  (F__law_deed_by:eh K mg "_law_deed_by" Gv ["_law_seed","_law_count"])
  (F__law_day:eh K mg "_law_day" Aa ["_law_cells"])
  (F__law_mixed:eh K mg "_law_mixed" yQ ["_law_script"])
  (F__law_at:eh K mg "_law_at" Gd ["_law_script","_law_k"])
  (F__law_pick:eh K mg "_law_pick" wX ["_law_hall","_law_seed"])
  (F__law_entries_of:eh K mg "_law_entries_of" xF ["_law_values"])
  (F__law_stays_so:eh K mg "_law_stays_so" FY ["_law_handed","_law_own"])
  (F_Node___init__:zT K CN "Node.__init__" AV ["self","value","branches"])
  (F_value_at:eh K mg "value_at" BJ ["node"])
  (F_branches_at:eh K mg "branches_at" Ak ["node"])
  (F_node_behind:eh K mg "node_behind" BO ["node","letter"])
  (F_letters_on:eh K mg "letters_on" AB ["node"])
  (F_node_if_needed:eh K mg "node_if_needed" BR ["value","branches"])
  (F_with_value:eh K mg "with_value" Fo ["node","value"])
  (F_with_branch:eh K mg "with_branch" FX ["node","letter","behind"])
  (F_is_name:eh K mg "is_name" ER ["text"])
  (F_nodes_along:eh K mg "nodes_along" Fw ["root","name"])
  (F_rebuilt:eh K mg "rebuilt" yL ["along","name","value"])
  (F_refuse_no_name:eh K mg "refuse_no_name" zA ["text"])
  (F_changed:eh K mg "changed" A3 ["root","name","value"])
  (F_Place___init__:zT K CP "Place.__init__" BI ["self","text","base","one","two"])
  (F_Place_is_shared:qa K CP "is_shared" "Place.is_shared" FQ ["self"])
  (F_Place_row:qa K CP "row" "Place.row" AJ ["self"])
  (F_Place_place_behind:qa K CP "place_behind" "Place.place_behind" EJ ["self","letter"])
  (F_Place_places_behind:qa K CP "places_behind" "Place.places_behind" xu ["self"])
  (F_is_changed_from_both:eh K mg "is_changed_from_both" Be ["row"])
  (F_rows_apart:eh K mg "rows_apart" FK ["base","one","two"])
  (F_rows_to_join:eh K mg "rows_to_join" Gr ["base","one","two"])
  (F_Version___init__:zT K CV "Version.__init__" Bw ["self","root","parent","made"])
  (F_Book___init__:zT K CB "Book.__init__" Ad ["self"])
  (F_Book_version_at:qa K CB "version_at" "Book.version_at" zD ["self","number"])
  (F_Book_root_at:qa K CB "root_at" "Book.root_at" AD ["self","number"])
  (F_Book_keep:qa K CB "keep" "Book.keep" uW ["self","root","parent","made"])
  (F_Book_keep_changed:qa K CB "keep_changed" "Book.keep_changed" FO ["self","parent","name","value"])
  (F_Book_keep_all_changed:qa K CB "keep_all_changed" "Book.keep_all_changed" Gb ["self","parent","pairs"])
  (F_Book_keep_joined:qa K CB "keep_joined" "Book.keep_joined" Ea ["self","base","one","two"])
  (F_Book_made_by:qa K CB "made_by" "Book.made_by" FP ["self","deed"])
  (F_Book_answer_to:qa K CB "answer_to" "Book.answer_to" FV ["self","deed"])
  (F_Book_do:qa K CB "do" "Book.do" FC ["self","deed"])
  (F_book_of:eh K mg "book_of" Gg ["deeds"])
  (F_pairs_behind:eh K mg "pairs_behind" EG ["beginning","node"])
  (F_nodes_of:eh K mg "nodes_of" Gn ["root"])
  (F_entries_of:eh K mg "entries_of" EW ["root"])
  (F_entries:eh K mg "entries" u_ ["deeds","version"])
  (F_answers:eh K mg "answers" BU ["deeds"])
  (F__law_whole:eh K mg "_law_whole" Ff ["_law_found"])
  (F__law_clashing:eh K mg "_law_clashing" Bf ["_law_older","_law_mine","_law_yours"])
  (F__law_both:eh K mg "_law_both" sf ["_law_older","_law_mine","_law_yours"])
  (F_law:eh K mg "law" yH ["_law_script"]) :
  ∃ fd:FuncData,(∀ (s:Shared) (v:Value),BindsTo s fd ⟨[v],[]⟩ [("_law_script",v)])/\∀ base:Heap,K.In base->base.Ns mainGlobals mg->aS l.prog w K mg base aQ 20 fa fd ["_law_script"] (rP K):=by
 have e:=hfa;obtain⟨f,fd,F,hm,hb⟩:=F_law;have e:=hfa.symm.trans hm
 cases e;refine⟨fd,fun s v=>.of_eq (hb [v] rfl),fun base I _=>?_⟩;have B:Bl mg:=⟨PySem.W.mg_none_of X G b_len,PySem.W.mg_none_of X G b_range,PySem.W.mg_none_of X G b_sorted,PySem.W.mg_none_of X G b_list,PySem.W.mg_none_of X G b_dict,PySem.W.mg_none_of X G b_isinstance,PySem.W.mg_none_of X G b_str,PySem.W.mg_none_of X G b_int,PySem.W.mg_none_of X G b_bool,PySem.W.mg_none_of X G b_tuple,PySem.W.mg_none_of X G b_max,PySem.W.mg_none_of X G b_all⟩;have B2:GL mg:=⟨PySem.W.mg_none_of X G b_reversed,PySem.W.mg_none_of X G b_set⟩;have g_EMPTY:=PySem.W.mg_of X G gE;have g_Node:=PySem.W.mg_of X G a_Node;have g_Place:=PySem.W.mg_of X G a_Place;have g_NoVersion:=PySem.W.mg_of X G a_NoVersion;have g_NoName:=PySem.W.mg_of X G a_NoName;have g_Version:=PySem.W.mg_of X G a_Version;have g_Book:=PySem.W.mg_of X G a_Book;have o_NoVersion:=iY I g_NoVersion x_NoVersion;have o_NoName:=iY I g_NoName x_NoName;have c__law_is_name:bM l.prog w K mg base aQ 1 "_law_is_name" ["_law_name"] vM:=F__law_is_name.cV (fun _ _ F=>B5 B F);have c__law_beginnings_of:bM l.prog w K mg base aQ 1 "_law_beginnings_of" ["_law_name"] rL:=F__law_beginnings_of.cV (fun _ _ F=>A6 B F);have c__law_set:bM l.prog w K mg base aQ 2 "_law_set" ["_law_hall","_law_values","_law_nodes","_law_name","_law_to"] so:=F__law_set.cV (fun _ _ F=>BX B (c__law_beginnings_of.mono (by omega)) F);have c__law_changes:bM l.prog w K mg base aQ 1 "_law_changes" ["_law_old","_law_new"] om:=F__law_changes.cV (fun _ _ F=>zu B F);have c__law_note:bM l.prog w K mg base aQ 1 "_law_note" ["_law_hall","_law_values","_law_nodes","_law_parent"] mv:=F__law_note.cV (fun _ _ F=>xn B F);have c__law_start:bM l.prog w K mg base aQ 1 "_law_start" [] nA:=F__law_start.cV (fun _ _ F=>uM  F);have c__law_joining:bM l.prog w K mg base aQ 3 "_law_joining" ["_law_hall","_law_deed"] rC:=F__law_joining.cV (fun _ _ F=>xZ B (c__law_changes.mono (by omega)) (c__law_set.mono (by omega)) (c__law_note.mono (by omega)) F);have c__law_plainly:bM l.prog w K mg base aQ 4 "_law_plainly" ["_law_hall","_law_deed"] A9:=F__law_plainly.cV (fun _ _ F=>C_ B (c__law_is_name.mono (by omega)) (c__law_joining.mono (by omega)) (c__law_set.mono (by omega)) (c__law_note.mono (by omega)) F);have c__law_name_by:bM l.prog w K mg base aQ 1 "_law_name_by" ["_law_seed"] AG:=F__law_name_by.cV (fun _ _ F=>CL B F);have c__law_deed_by:bM l.prog w K mg base aQ 2 "_law_deed_by" ["_law_seed","_law_count"] BZ:=F__law_deed_by.cV (fun _ _ F=>Ee B (c__law_name_by.mono (by omega)) F);have c__law_day:bM l.prog w K mg base aQ 5 "_law_day" ["_law_cells"] wF:=F__law_day.cV (fun _ _ F=>AR B (c__law_start.mono (by omega)) (c__law_deed_by.mono (by omega)) (c__law_plainly.mono (by omega)) F);have c__law_mixed:bM l.prog w K mg base aQ 1 "_law_mixed" ["_law_script"] wJ:=F__law_mixed.cV (fun _ _ F=>Cf B F);have c__law_at:bM l.prog w K mg base aQ 1 "_law_at" ["_law_script","_law_k"] Aj:=F__law_at.cV (fun _ _ F=>Eg B F);have c__law_pick:bM l.prog w K mg base aQ 1 "_law_pick" ["_law_hall","_law_seed"] qQ:=F__law_pick.cV (fun _ _ F=>xj B F);have c__law_entries_of:bM l.prog w K mg base aQ 1 "_law_entries_of" ["_law_values"] rN:=F__law_entries_of.cV (fun _ _ F=>BF B F);have c__law_stays_so:bM l.prog w K mg base aQ 1 "_law_stays_so" ["_law_handed","_law_own"] AQ:=F__law_stays_so.cV (fun _ _ F=>DV B F);have n_Node:gg l.prog w K mg base 1 "Node" CN ["self","value","branches"] (sQ CN):=F_Node___init__.cV g_Node (fun _ _ F=>zX t_Node F);have c_value_at:bM l.prog w K mg base aQ 1 "value_at" ["node"] (pB CN):=F_value_at.cV (fun _ _ F=>Ay t_Node F);have c_branches_at:bM l.prog w K mg base aQ 1 "branches_at" ["node"] (sE CN):=F_branches_at.cV (fun _ _ F=>AI B t_Node F);have c_node_behind:bM l.prog w K mg base aQ 1 "node_behind" ["node","letter"] (pN CN):=F_node_behind.cV (fun _ _ F=>Ce t_Node F);have c_letters_on:bM l.prog w K mg base aQ 1 "letters_on" ["node"] (vg CN):=F_letters_on.cV (fun _ _ F=>Cd B t_Node F);have c_node_if_needed:bM l.prog w K mg base aQ 3 "node_if_needed" ["value","branches"] (rH CN):=F_node_if_needed.cV (fun _ _ F=>Bp B (n_Node.mono (by omega)) F);have c_with_value:bM l.prog w K mg base aQ 4 "with_value" ["node","value"] (Av CN):=F_with_value.cV (fun _ _ F=>C0 (c_node_if_needed.mono (by omega)) (c_branches_at.mono (by omega)) F);have c_with_branch:bM l.prog w K mg base aQ 4 "with_branch" ["node","letter","behind"] (BQ CN):=F_with_branch.cV (fun _ _ F=>DK (c_node_if_needed.mono (by omega)) (c_branches_at.mono (by omega)) (c_value_at.mono (by omega)) F);have c_is_name:bM l.prog w K mg base aQ 1 "is_name" ["text"] BC:=F_is_name.cV (fun _ _ F=>CA B F);have c_nodes_along:bM l.prog w K mg base aQ 3 "nodes_along" ["root","name"] (B7 CN):=F_nodes_along.cV (fun _ _ F=>Di (c_node_behind.mono (by omega)) F);have c_rebuilt:bM l.prog w K mg base aQ 6 "rebuilt" ["along","name","value"] (uC CN):=F_rebuilt.cV (fun _ _ F=>Ca B (c_with_value.mono (by omega)) (c_with_branch.mono (by omega)) F);have c_refuse_no_name:bM l.prog w K mg base (fu l.prog w) 2 "refuse_no_name" ["text"] (we CNN):=F_refuse_no_name.cV (fun _ _ F=>zr o_NoName FB (c_is_name.mono (by omega)) F);have c_changed:bM l.prog w K mg base (fu l.prog w) 8 "changed" ["root","name","value"] (rR CN CNN):=F_changed.cV (fun _ _ F=>B3 (c_refuse_no_name.mono (by omega)) (c_nodes_along.mono (by omega)) (c_value_at.mono (by omega)) (c_rebuilt.mono (by omega)) F);have n_Place:gg l.prog w K mg base 1 "Place" CP tV (se CP):=F_Place___init__.cV g_Place (fun _ _ F=>Ar t_Place F);have m_Place_is_shared:cz l.prog w K mg base aQ 1 CP "is_shared" ["self"] (zY CN CP):=F_Place_is_shared.cV t_Place.cl (fun _ _ F=>Eo eqN t_Place F);have m_Place_row:cz l.prog w K mg base aQ 3 CP "row" ["self"] (vN CN CP):=F_Place_row.cV t_Place.cl (fun _ _ F=>Bq (c_value_at.mono (by omega)) t_Place F);have m_Place_place_behind:cz l.prog w K mg base aQ 3 CP "place_behind" ["self","letter"] (zE CN CP):=F_Place_place_behind.cV t_Place.cl (fun _ _ F=>Dx (c_node_behind.mono (by omega)) (n_Place.mono (by omega)) t_Place F);have m_Place_places_behind:cz l.prog w K mg base aQ 5 CP "places_behind" ["self"] (uX CN CP):=F_Place_places_behind.cV t_Place.cl (fun _ _ F=>By B B2 (c_letters_on.mono (by omega)) (m_Place_place_behind.mono (by omega)) t_Place F);have c_is_changed_from_both:bM l.prog w K mg base aQ 1 "is_changed_from_both" ["row"] vn:=F_is_changed_from_both.cV (fun _ _ F=>Br  F);have c_rows_apart:bM l.prog w K mg base aQ 7 "rows_apart" ["base","one","two"] (zL CN):=F_rows_apart.cV (fun _ _ F=>C6 B (n_Place.mono (by omega)) (m_Place_is_shared.mono (by omega)) (m_Place_row.mono (by omega)) (m_Place_places_behind.mono (by omega)) (c_is_changed_from_both.mono (by omega)) F);have c_rows_to_join:bM l.prog w K mg base aQ 9 "rows_to_join" ["base","one","two"] (Az CN):=F_rows_to_join.cV (fun _ _ F=>DZ (c_rows_apart.mono (by omega)) F);have n_Version:gg l.prog w K mg base 1 "Version" CV tO (rZ CV):=F_Version___init__.cV g_Version (fun _ _ F=>Bb t_Version F);have n_Book:gg l.prog w K mg base 3 "Book" CB ["self"] (wA CN CV CB):=F_Book___init__.cV g_Book (fun _ _ F=>Ah g_EMPTY (n_Version.mono (by omega)) t_Book F);have m_Book_version_at:cz l.prog w K mg base (fu l.prog w) 1 CB "version_at" ["self","number"] (uN CN CV CB CNV):=F_Book_version_at.cV t_Book.cl (fun _ _ F=>AN B o_NoVersion FB t_Book F);have m_Book_root_at:cz l.prog w K mg base (fu l.prog w) 3 CB "root_at" ["self","number"] (lE CN CV CB CNV):=F_Book_root_at.cV t_Book.cl (fun _ _ F=>AS (m_Book_version_at.mono (by omega)) t_Version F);have m_Book_keep:cz l.prog w K mg base aQ 3 CB "keep" lL (mZ CN CV CB):=F_Book_keep.cV t_Book.cl (fun _ _ F=>xE B (n_Version.mono (by omega)) t_Book F);have m_Book_keep_changed:cz l.prog w K mg base (fu l.prog w) 10 CB "keep_changed" ["self","parent","name","value"] (zF CN CV CB CNV CNN):=F_Book_keep_changed.cV t_Book.cl (fun _ _ F=>D1 (m_Book_root_at.mono (by omega)) (c_changed.mono (by omega)) (m_Book_keep.mono (by omega)) F);have m_Book_keep_all_changed:cz l.prog w K mg base aQ 10 CB "keep_all_changed" ["self","parent","pairs"] (zK CN CV CB):=F_Book_keep_all_changed.cV t_Book.cl (fun _ _ F=>Ez (m_Book_root_at.mono (by omega)) (c_changed.mono (by omega)) (m_Book_keep.mono (by omega)) F);have m_Book_keep_joined:cz l.prog w K mg base (fu l.prog w) 12 CB "keep_joined" ["self","base","one","two"] (zz CN CV CB CNV):=F_Book_keep_joined.cV t_Book.cl (fun _ _ F=>C9 B (m_Book_root_at.mono (by omega)) (c_rows_to_join.mono (by omega)) (m_Book_keep_all_changed.mono (by omega)) F);have m_Book_made_by:cz l.prog w K mg base (fu l.prog w) 14 CB "made_by" ["self","deed"] (B9 CN CV CB CNV CNN):=F_Book_made_by.cV t_Book.cl (fun _ _ F=>Cw (m_Book_keep_changed.mono (by omega)) (m_Book_keep_joined.mono (by omega)) F);have m_Book_answer_to:cz l.prog w K mg base aQ 15 CB "answer_to" ["self","deed"] (zZ CN CV CB):=F_Book_answer_to.cV t_Book.cl (fun _ _ F=>De g_NoVersion g_NoName ex (m_Book_made_by.mono (by omega)) F);have m_Book_do:cz l.prog w K mg base aQ 16 CB "do" ["self","deed"] (zS CN CV CB):=F_Book_do.cV t_Book.cl (fun _ _ F=>DQ t_Book (m_Book_answer_to.mono (by omega)) F);have c_book_of:bM l.prog w K mg base aQ 17 "book_of" ["deeds"] (yn CN CV CB):=F_book_of.cV (fun _ _ F=>Dy (n_Book.mono (by omega)) (m_Book_do.mono (by omega)) F);have c_pairs_behind:bM l.prog w K mg base aQ 3 "pairs_behind" ["beginning","node"] (Af CN):=F_pairs_behind.cV (fun _ _ F=>C1 B t_Node (c_node_behind.mono (by omega)) F);have c_nodes_of:bM l.prog w K mg base aQ 5 "nodes_of" ["root"] (A5 CN):=F_nodes_of.cV (fun _ _ F=>Df B (c_pairs_behind.mono (by omega)) F);have c_entries_of:bM l.prog w K mg base aQ 7 "entries_of" ["root"] (Ac CN):=F_entries_of.cV (fun _ _ F=>CU t_Node (c_nodes_of.mono (by omega)) F);have c_entries:bM l.prog w K mg base aQ 18 "entries" ["deeds","version"] iD:=F_entries.cV (fun _ _ F=>qJ (c_book_of.mono (by omega)) (m_Book_root_at.mono (by omega)) (c_entries_of.mono (by omega)) F);have c_answers:bM l.prog w K mg base aQ 18 "answers" ["deeds"] iC:=F_answers.cV (fun _ _ F=>qp t_Book (c_book_of.mono (by omega)) F);have c__law_whole:bM l.prog w K mg base aQ 1 "_law_whole" ["_law_found"] BP:=F__law_whole.cV (fun _ _ F=>DJ B F);have c__law_clashing:bM l.prog w K mg base aQ 3 "_law_clashing" ["_law_older","_law_mine","_law_yours"] vV:=F__law_clashing.cV (fun _ _ F=>zI B (c__law_changes.mono (by omega)) F);have c__law_both:bM l.prog w K mg base aQ 3 "_law_both" ["_law_older","_law_mine","_law_yours"] qy:=F__law_both.cV (fun _ _ F=>ya B (c__law_changes.mono (by omega)) (c__law_entries_of.mono (by omega)) F);exact AZ B (c__law_mixed.mono (by omega)) (c__law_day.mono (by omega)) (c__law_stays_so.mono (by omega)) (c__law_at.mono (by omega)) (c__law_pick.mono (by omega)) (c__law_entries_of.mono (by omega)) (c__law_whole.mono (by omega)) (c__law_clashing.mono (by omega)) (c__law_both.mono (by omega)) (c_answers.mono (by omega)) (c_entries.mono (by omega)) F
theorem walk {l:PySem.W.OpenLaw}{q:Program}{loose:List Str}{XP:(Str->Option Value)->Heap->Prop}{YP:World->Heap->Prop}{d:DefRec}{K:Params->PySem.W.Frag} (most:l.most=some 63) (plain:d.params.defaults=[])
  (at_:∀ (w:World) (h:Heap),YP w h->(K w.params).In h)
  (F:∀ (w:World) (mg:Str->Option Value) (fa:Addr) (h:Heap),(K w.params).In h->h.Ns mainGlobals mg->mg d.name=some (.ref fa) ->
   ∃ fd:FuncData,(∀ (s:Shared) (v:Value),BindsTo s fd ⟨[v],[]⟩ [("_law_script",v)])/\∀ base:Heap,(K w.params).In base->base.Ns mainGlobals mg->aS l.prog w (K w.params) mg base aQ 20 fa fd ["_law_script"] (rP (K w.params))) :
  PySem.W.WalkO q loose XP YP l.row.toRowW d [] (fun f vs=>PySem.call f vs):=by
 refine L2.xY (x:="_law_script") (CX:=fun _=>aQ) (sp:=fun w=>rP (K w.params)) most ?_ plain ?_ at_ F ?_ ?_
 ·decide
 ·exact⟨rfl,by decide,by decide⟩
 ·exact fun _ _ a xs few _ at_=>⟨a,xs,rfl,at_,few,fun _=>rfl⟩
 ·exact fun _ _ _ _ _ no=>no
end Lw
namespace PySem.W.Fast
def tw2044233412055644073:=0
def tw3753855280335315852:=0
def tw6910584493087245164:=0
def tw7790327251430282876:=0
def tw16140375672627058080:=0
def tw17584403037801256469:=0
def tw17857090462911043513:=0
def tw16528519328103492936:=0
def tw4400897277658932561:=0
def tw15919440994013918430:=0
def tw10266615365867318289:=0
def tw14869296289321361151:=0
def tw8242332107583936254:=0
def tw5740064679602838472:=0
def tw4169771165405412294:=0
def tw6172239351968933711:=0
def tw11500193160102590735:=0
def tw7685569190631737167:=0
def tw3475322863966232036:=0
def tw2475662842627586665:=0
def tw1906278523511299298:=0
def tw12504413688690295930:=0
def tw11474191707201655622:=0
def tw5998765658427521864:=0
def tw12452798205076756142:=0
def tw18362324809105833934:=0
def tw4641485459499969742:=0
def tw12710787177645868463:=0
def tw6759521240764108734:=0
def tw15834615051889961898:=0
def tw18212004736615055994:=0
def tw6617982536360132322:=0
def tw11092312228736771582:=0
def tw6448499605013477018:=0
def tw625316192001030679:=0
def tw12599164822782660575:=0
def tw10436114226613177220:=0
def tw17673800621038998185:=0
def tw15546381896774662160:=0
def tw9653139266854027589:=0
def tw15219021042138168292:=0
def tw7887643859847941999:=0
def tw18105249861975329257:=0
def tw14733905793409973577:=0
def tw12853088567048785253:=0
def tw3676092738870753187:=0
def tw2048217794736481284:=0
def tw12329904598249517960:=0
def tw2699336664345048971:=0
def tw6355378645032708483:=0
def tw4965678681724272962:=0
def tw6735247576440197087:=0
def tw17550570731446799686:=0
def tw1921523249149161007:=0
def tw13338877147543009146:=0
def tw7197694603130404252:=0
def tw15564635074313651479:=0
def tw3902060706825972015:=0
def tw9616686347169258787:=0
def tw17835267590160084751:=0
def tw138293692197291387:=0
def tw5069474340508062127:=0
def tw4764072964052859580:=0
def tw8240600227990786137:=0
def tw231610739586339286:=0
def tw18311878362620310205:=0
def tw15871463517322117007:=0
def tw15325024795078123653:=0
def tw11788181347045829517:=0
def tw13423869177714845750:=0
def tw3281190679268854916:=0
def tw5119900677533355921:=0
def tw2765881022750099898:=0
def tw377719939236726217:=0
def tw18061574142644219174:=0
def tw14347139440247562183:=0
def tw13151747685735047882:=0
def tw13694700025994389090:=0
def tw1374031470941294718:=0
def tw11837833755106336220:=0
def tw16141394490772168072:=0
def tw3068190682671424201:=0
def tw8270555157967197835:=0
def tw6938471168695680641:=0
def tw5418064621866419010:=0
def tw5374551778627901693:=0
def tw17440867597402412881:=0
def tw9722098006537475863:=0
def tw5417584874807849292:=0
def tw1590329767813294205:=0
def tw2074783608810498770:=0
def tw6401135312152745879:=0
def tw12047860226061757037:=0
def tw14520890724547967694:=0
def tw18177113717827522887:=0
def tw17014786165830334557:=0
def tw5299310037832436686:=0
def tw10720344234608431247:=0
def tw5972760964821337714:=0
def tw16648492598799436346:=0
def tw8193813900141226590:=0
def tw666960705373519688:=0
def tw1082984849827165509:=0
def tw12573275269101714749:=0
def tw10564681908264138817:=0
def tw10517531290052015578:=0
def tw16123832447719399147:=0
def tw6210466706108311946:=0
def tw14191768175999021955:=0
def tw4684359937602799390:=0
def tw9754184671135169454:=0
def tw13118180937208950216:=0
def tw3543719420416454867:=0
def tw12575914608912375716:=0
def tw8268191765184869826:=0
def tw7215374674475536263:=0
def tw16495967864402275138:=0
def tw5309634102956688510:=0
def tw7167497046432302889:=0
def tw9166635523229861207:=0
def tw11822810390292387907:=0
def tw4009454618023079607:=0
def tw7615784494844007108:=0
def tw10366114829248047130:=0
def tw5353995487291967203:=0
def tw12798544869773336408:=0
def tw2560545870137779228:=0
def tw2700204305184987464:=0
def tw5789178523405219140:=0
def tw3368883929390887286:=0
def tw15193102867606887342:=0
def tw11601206216980173004:=0
def tw10670963448229042376:=0
def tw6426271557900897611:=0
def tw2967023539695455720:=0
def tw3612032519502849333:=0
def tw9176192165205059603:=0
def tw5233781277529017616:=0
def tw8720662151134613356:=0
def tw10553725243357037476:=0
def tw18274187682852267459:=0
def tw3740214478389296955:=0
def tw4415569234165369236:=0
def tw9593106333451137586:=0
def tw13151344272883175026:=0
def tw6524763538399758749:=0
def tw5062736853979853079:=0
def tw16982576345425247632:=0
def tw5448378884299293856:=0
def tw12872774301683787365:=0
def tw8128873221597490323:=0
def tw11884492603523269138:=0
def tw14582329995992410917:=0
def tw10549560501794480450:=0
def tw7341894415499305467:=0
def tw16537048425074504335:=0
def tw8802541444720688947:=0
def tw10286659772432158595:=0
def tw16320858067860116913:=0
def tw5367819494379249904:=0
def tw17362154201580565009:=0
def tw16050146665677004644:=0
def tw6031085129439167123:=0
def tw9404404071742090765:=0
def tw9935471886951889961:=0
def tw7542341905804423882:=0
def tw18272021654774235817:=0
def tw7111803936445312580:=0
def tw244496606122740820:=0
def tw12598364116989593831:=0
def tw3838355881938155809:=0
def tw3763926261308812651:=0
def tw15361923576679583160:=0
def tw7448043831717236748:=0
def tw18374361235691542557:=0
def tw2635664331791792653:=0
def tw1971356083616536611:=0
def tw470036608420243367:=0
def tw4259646132728601833:=0
def tw15464927968727673032:=0
def tw5060807290059839414:=0
def tw8185512699107507591:=0
def tw1512181775373431695:=0
def tw2080527898629694144:=0
def tw7329683497541089135:=0
def tw4671578175339836102:=0
def tw7243691565271820090:=0
def tw4746689358200514026:=0
def tw10699299110340079721:=0
def tw460889892765263958:=0
def tw6008040971126872676:=0
def tw1801077989668177055:=0
def tw9689299246033369179:=0
def tw6742787409145464633:=0
def tw15950005721774994927:=0
def tw14133078984548546318:=0
def tw4772608166269968594:=0
def tw15469311439536857526:=0
def tw4361099486440226084:=0
def tw15521665633773500079:=0
def tw12916057468925723106:=0
def tw11943284791855692007:=0
def tw2251211958164528001:=0
def tw17799666559055748484:=0
def tw14337535390013306729:=0
def tw7719545793535816522:=0
def tw7110059323169628544:=0
def tw3577497812412138905:=0
def tw12334411667633893272:=0
def tw13048600859209961696:=0
def tw13574188936157997077:=0
def tw16192923820701658:=0
def tw5920473346328328699:=0
def tw10043116428222004601:=0
def tw4186633407530545534:=0
def tw3624711921112105926:=0
def tw14549679683504242565:=0
def tw7050058792563278649:=0
def tw14225612551218647650:=0
def tw14613148129286297880:=0
def tw3906336036852382794:=0
def tw18213729575581277406:=0
def tw11479549762241601072:=0
def tw4188996933933276970:=0
def tw8192407948747757512:=0
def tw5108945691011526900:=0
def tw18137111454798993121:=0
def tw7948429758001750327:=0
def tw4195231556499668537:=0
def tw7966714949075100479:=0
def tw7333234958193404436:=0
def tw16263613905940465651:=0
def tw5456803857781304481:=0
def tw351393430592025250:=0
def tw12707524558354616873:=0
def tw5809497452666315796:=0
def tw1259747904080123386:=0
def tw9166432524550431510:=0
def tw4625671674794956590:=0
def tw2243493494029859865:=0
def tw12168546899686785419:=0
def tw15288568018890461020:=0
def tw1379154401795787060:=0
def tw9927737507218200039:=0
def tw2740242529178597068:=0
def tw8360761372978497443:=0
def tw2600205057555234614:=0
def tw16805432706317180650:=0
def tw5638139258126326104:=0
def tw11589066092682678599:=0
def tw5927226196825062923:=0
def tw9439026303491218064:=0
def tw16669242017629451866:=0
def tw3703466197906924930:=0
def tw12544322774778990680:=0
def tw4123509561900332579:=0
def tw15513101837387024214:=0
def tw16986407603538223855:=0
def tw14553013358965512296:=0
def tw14840582643186733128:=0
def tw796015074811386695:=0
def tw18143803406715330110:=0
def tw17475680125520395281:=0
def tw9399323514384433783:=0
def tw17597155136669265240:=0
def tw5118561214549836641:=0
def tw6188828830880250333:=0
def tw16517184520875165357:=0
def tw14030345244627077369:=0
def tw10735815549916329060:=0
def tw7858989863763125626:=0
def tw2285434992144410083:=0
def tw62533235827059505:=0
def tw5520550235927506835:=0
def tw11271242510235552800:=0
def tw11908985844459165029:=0
def tw9229962562502333918:=0
def tw3874943610649414157:=0
def tw8874320715527831044:=0
def tw4165376491756554020:=0
def tw13446976369395386847:=0
def tw16279442939185101019:=0
def tw5859655230460377022:=0
def tw319713388511996665:=0
def tw8042297887907978843:=0
def tw5971780121442085674:=0
def tw5748221921034082066:=0
def tw11391666407963283157:=0
def tw3013523429053731969:=0
def tw10148943767947996446:=0
def tw12797488744003148071:=0
def tw4230129272820328885:=0
def tw7719393014159049158:=0
def tw8471650721049776025:=0
def tw4745978989318298688:=0
def tw13569959099519181350:=0
def tw13592865968162862802:=0
def tw7663703717144614020:=0
def tw11535588838387738364:=0
def tw12267311690653601452:=0
def tw9825000469558036311:=0
def tw4151745757190648769:=0
def tw9180849370180340978:=0
def tw16426190492425376195:=0
def tw10859952021314008152:=0
def tw3287274579535969757:=0
def tw14029169490251531451:=0
def tw4564876717753394345:=0
def tw17945595934638157055:=0
def tw4574090138576898979:=0
def tw16643624474890756598:=0
def tw2084169825537107374:=0
def tw4735738786481634474:=0
def tw9373464859127650797:=0
def tw481339177775353599:=0
def tw7437843612962704433:=0
def tw11350167573179333066:=0
def tw10104618308977632611:=0
def tw14075957738692864052:=0
def tw1053882479712748737:=0
def tw1530386795779458022:=0
def tw2689661120353454074:=0
def tw10388779641652863682:=0
def tw15940328303256344024:=0
def tw7413605726509763489:=0
def tw14381575319832562642:=0
def tw8681982628910836302:=0
def tw3452092901371259298:=0
def tw5339593919944736736:=0
def tw16999691085950365568:=0
def tw8987374177646908245:=0
def tw5673281772853862243:=0
def tw10128238327443601461:=0
def tw5063334139978423258:=0
def tw4480901607966860918:=0
def tw14185834625093143000:=0
def tw4832316953078365078:=0
def tw14214383559469795943:=0
def tw14588152135396910338:=0
def tw1909629625739766595:=0
def tw10274157488049787154:=0
def tw7195878733912530956:=0
def tw4511845160355145574:=0
def tw4517044266190565135:=0
def tw7078767403235417161:=0
def tw2163227445875223228:=0
def tw6369893139854774639:=0
def tw9677826926732017783:=0
def tw13576076940795702366:=0
def tw6009482867759875287:=0
def tw4263364003581999417:=0
def tw8751750185703780352:=0
def tw1136107577009245843:=0
def tw2332151270348925919:=0
def tw2149809823863060834:=0
def tw7600161508409378610:=0
def tw12962695115302160999:=0
def tw4310967629970562773:=0
def tw5319689586213640489:=0
def tw7192506582005688826:=0
def tw16719968144043897828:=0
def tw12660995052129893997:=0
def tw14093312486445232170:=0
def tw4831215489992314595:=0
def tw15766703054860056799:=0
def tw12443622649102140563:=0
def tw2607396040012233941:=0
def tw15921758352279724788:=0
def tw3963095255966338607:=0
def tw2561177980397531232:=0
def tw16903825722011114950:=0
def tw4026878899759512324:=0
def tw14764800630323084527:=0
def tw9343973386739688542:=0
def tw790167094326868605:=0
def tw286431702064203493:=0
def tw9879155602697903505:=0
def tw813217212977353551:=0
def tw12716474487074462874:=0
def tw12105602841353970362:=0
def tw15752760672273349376:=0
def tw17775317190457859520:=0
def tw5474150688085827735:=0
def tw8952866323701710807:=0
def tw9071431676780172377:=0
def tw13260242247172744854:=0
def tw17367937743276929565:=0
def tw17896882361720742105:=0
def tw658859967862674777:=0
def tw9105428086573582776:=0
def tw8565966240426996507:=0
def tw514118589289629146:=0
def tw16088280725983306600:=0
def tw4381096495877952102:=0
def tw13563908681838151070:=0
def tw11090800076962996116:=0
def tw8474387162024413813:=0
def tw18040754822749685903:=0
def tw11416290992546090961:=0
def tw5246194221638693868:=0
def tw9798080836260192278:=0
def tw17381044404728751453:=0
def tw12681871099206853364:=0
def tw1405139513355738212:=0
def tw975494430025505551:=0
def tw2938340255855015293:=0
def tw5534985777638382670:=0
def tw7589768372302452606:=0
def tw11383717190176810023:=0
def tw15475045928728130724:=0
def tw8145947346477672826:=0
def tw11123309193596478218:=0
def tw4323668420347764426:=0
def tw1912405851658837212:=0
def tw9858441160014072488:=0
def tw13719165548462854647:=0
def tw4954745909123290241:=0
def tw14357260772496874282:=0
def tw1078067518590790566:=0
def tw13577658469888509998:=0
def tw8889463261063749323:=0
def tw5571069388619634535:=0
def tw5745590519629500050:=0
def tw4871572727990761152:=0
def tw7999292168949857181:=0
def tw9915740390018053699:=0
def tw7557131613850564599:=0
def tw9892197096129140655:=0
def tw13344798963087997801:=0
def tw1292014994828126527:=0
def tw12082263126412783800:=0
def tw14138066942253296600:=0
def tw5803965142514295995:=0
def tw3836938946019212239:=0
def tw5804951829266656873:=0
def tw7212732048604124180:=0
def tw694956278028404645:=0
def tw15508300189458743799:=0
def tw11964456322073351494:=0
def tw9134073134234055537:=0
def tw11783187137413865644:=0
def tw1511103397135764335:=0
def tw5337935737726912648:=0
def tw11121562865937917614:=0
def tw9482077956411488397:=0
def tw6440387265089207470:=0
def tw6302248155822896669:=0
def tw12273047896973997567:=0
def tw4432721556156598609:=0
def tw17650894066753293742:=0
def tw8457567055947199540:=0
def tw204341022561798390:=0
def tw892127912942606538:=0
def tw1647655258516294746:=0
def tw2803799724372721149:=0
end PySem.W.Fast
open PySem PySem.W PyProof.Rows Lw
set_option maxRecDepth 100000 in
set_option maxHeartbeats 0 in
theorem PySem.Challenge.cw_eldermap_k06_whole_joined_holds : PySem.Challenge.rw_eldermap_k06_whole_joined.Holds := by
  w_on; o_law; k_head; (case hw => w_witness2)
  k_fill
  refine Lw.walk (l := PySem.Challenge.rw_eldermap_k06_whole_joined) rfl rfl (fun w h Y => PySem.W.kIn_of Y) ?top
  case top =>
    intro w mg fa h KX G law_at
    refine' Lw.all_mk KX G law_at ?a_Node ?a_Place ?a_NoVersion ?a_NoName ?a_Version ?a_Book ?t_Node ?t_Place ?t_Version ?t_Book ?eqN ?FB ?x_NoVersion ?x_NoName ?ex ?gE ?b_len ?b_range ?b_sorted ?b_list ?b_dict ?b_isinstance ?b_str ?b_int ?b_bool ?b_tuple ?b_max ?b_all ?b_reversed ?b_set ?b_zip ?F__law_is_name ?F__law_beginnings_of ?F__law_set ?F__law_changes ?F__law_note ?F__law_start ?F__law_joining ?F__law_plainly ?F__law_name_by ?F__law_deed_by ?F__law_day ?F__law_mixed ?F__law_at ?F__law_pick ?F__law_entries_of ?F__law_stays_so ?F_Node___init__ ?F_value_at ?F_branches_at ?F_node_behind ?F_letters_on ?F_node_if_needed ?F_with_value ?F_with_branch ?F_is_name ?F_nodes_along ?F_rebuilt ?F_refuse_no_name ?F_changed ?F_Place___init__ ?F_Place_is_shared ?F_Place_row ?F_Place_place_behind ?F_Place_places_behind ?F_is_changed_from_both ?F_rows_apart ?F_rows_to_join ?F_Version___init__ ?F_Book___init__ ?F_Book_version_at ?F_Book_root_at ?F_Book_keep ?F_Book_keep_changed ?F_Book_keep_all_changed ?F_Book_keep_joined ?F_Book_made_by ?F_Book_answer_to ?F_Book_do ?F_book_of ?F_pairs_behind ?F_nodes_of ?F_entries_of ?F_entries ?F_answers ?F__law_whole ?F__law_clashing ?F__law_both ?F_law
    (case a_Node => k_is)
    (case a_Place => k_is)
    (case a_NoVersion => k_is)
    (case a_NoName => k_is)
    (case a_Version => k_is)
    (case a_Book => k_is)
    (case t_Node => exact ⟨⟨by k_is, by k_is, by k_is, by k_is⟩, (by unfold L2.bB; k_is), (by unfold L2.bB; k_is)⟩)
    (case t_Place => exact ⟨⟨by k_is, by k_is, by k_is, by k_is⟩, (by unfold L2.bB; k_is), (by unfold L2.bB; k_is), (by unfold L2.bB; k_is), (by unfold L2.bB; k_is)⟩)
    (case t_Version => exact ⟨⟨by k_is, by k_is, by k_is, by k_is⟩, (by unfold L2.bB; k_is), (by unfold L2.bB; k_is), (by unfold L2.bB; k_is)⟩)
    (case t_Book => exact ⟨⟨by k_is, by k_is, by k_is, by k_is⟩, (by unfold L2.bB; k_is), (by unfold L2.bB; k_is)⟩)
    (case eqN => exact ⟨by k_is, by k_is, by k_is⟩)
    (case FB => exact PySem.F.excBase_ValueError)
    (case x_NoVersion => k_exc)
    (case x_NoName => k_exc)
    (case ex => exact ⟨rA (by k_is) (by k_is) (by k_is) (by k_is), rA (by k_is) (by k_is) (by k_is) (by k_is), rA (by k_is) (by k_is) (by k_is) (by k_is)⟩)
    (case gE => k_is)
    (case b_len => k_is)
    (case b_range => k_is)
    (case b_sorted => k_is)
    (case b_list => k_is)
    (case b_dict => k_is)
    (case b_isinstance => k_is)
    (case b_str => k_is)
    (case b_int => k_is)
    (case b_bool => k_is)
    (case b_tuple => k_is)
    (case b_max => k_is)
    (case b_all => k_is)
    (case b_reversed => k_is)
    (case b_set => k_is)
    (case b_zip => k_is)
    (case F__law_is_name => walk_at "N")
    (case F__law_beginnings_of => walk_at "N")
    (case F__law_set => walk_at "J")
    (case F__law_changes => walk_at "M")
    (case F__law_note => walk_at "K")
    (case F__law_start => walk_at "I")
    (case F__law_joining => walk_at "M")
    (case F__law_plainly => walk_at "M")
    (case F__law_name_by => walk_at "N")
    (case F__law_deed_by => walk_at "M")
    (case F__law_day => walk_at "N")
    (case F__law_mixed => walk_at "N")
    (case F__law_at => walk_at "M")
    (case F__law_pick => walk_at "M")
    (case F__law_entries_of => walk_at "N")
    (case F__law_stays_so => walk_at "M")
    (case F_Node___init__ => walk_at "G")
    (case F_value_at => walk_at "N")
    (case F_branches_at => walk_at "N")
    (case F_node_behind => walk_at "M")
    (case F_letters_on => walk_at "N")
    (case F_node_if_needed => walk_at "M")
    (case F_with_value => walk_at "M")
    (case F_with_branch => walk_at "L")
    (case F_is_name => walk_at "N")
    (case F_nodes_along => walk_at "M")
    (case F_rebuilt => walk_at "L")
    (case F_refuse_no_name => walk_at "N")
    (case F_changed => walk_at "L")
    (case F_Place___init__ => walk_at "E")
    (case F_Place_is_shared => walk_at "D")
    (case F_Place_row => walk_at "D")
    (case F_Place_place_behind => walk_at "C")
    (case F_Place_places_behind => walk_at "D")
    (case F_is_changed_from_both => walk_at "N")
    (case F_rows_apart => walk_at "L")
    (case F_rows_to_join => walk_at "L")
    (case F_Version___init__ => walk_at "F")
    (case F_Book___init__ => walk_at "H")
    (case F_Book_version_at => walk_at "C")
    (case F_Book_root_at => walk_at "C")
    (case F_Book_keep => walk_at "A")
    (case F_Book_keep_changed => walk_at "A")
    (case F_Book_keep_all_changed => walk_at "B")
    (case F_Book_keep_joined => walk_at "A")
    (case F_Book_made_by => walk_at "C")
    (case F_Book_answer_to => walk_at "C")
    (case F_Book_do => walk_at "C")
    (case F_book_of => walk_at "N")
    (case F_pairs_behind => walk_at "M")
    (case F_nodes_of => walk_at "N")
    (case F_entries_of => walk_at "N")
    (case F_entries => walk_at "M")
    (case F_answers => walk_at "N")
    (case F__law_whole => walk_at "N")
    (case F__law_clashing => walk_at "L")
    (case F__law_both => walk_at "L")
    (case F_law => walk_at "N")