import PyProof.Rows.All
import Wide.All
import OpenK.AllK
import Wide.FinOn
import PyProof.EqAt
import PyProof.EqKinds
import PyProof.TupleCall
import KE.BitLaws
import KE.OsGo
import KE.KDictList
import PySem.Challenge.RW_statecharts_s01_answers
set_option Elab.async false
set_option linter.all false
set_option maxRecDepth 100000
set_option maxHeartbeats 4000000
namespace L2
open PySem PySem.Spec PyProof.Rows
abbrev Key:=Sum Int Str
def Nl:Key->Value->Bool
 | .inl k,v=>Value.isInt k v
 | .inr x,v=>Value.isStrOf x v
def apD (w:World):Key->Int
 | .inl k=>hashInt k
 | .inr x=>hashStr w x
theorem gu:∀ {k:Key} {v:Value},Nl k v=true->(∃ i t,k=Sum.inl i/\v=Value.int i t)\/(∃ x t,k=Sum.inr x/\v=Value.str x t)
 | .inl i,v,h=>by
  obtain ⟨t,e⟩:=Value.isInt_shape (k:=i) (v:=v) h
  exact .inl ⟨i,t,rfl,e⟩
 | .inr x,v,h=>by
  obtain ⟨t,e⟩:=Value.isStrOf_shape (x:=x) (v:=v) h
  exact .inr ⟨x,t,rfl,e⟩
theorem ajB (i:Int) (t:Tok):Nl (.inl i) (.int i t)=true:=by simp [Nl,Value.isInt]
theorem aiX (x:Str) (t:Tok):Nl (.inr x) (.str x t)=true:=by simp [Nl,Value.isStrOf]
theorem an4 (a b:Int):decide ((Sum.inl a:Key)=Sum.inl b)=(a==b):=by
 by_cases e:a=b
 ·subst e;simp
 ·have h:¬(Sum.inl a:Key)=Sum.inl b:=λq=>e (Sum.inl.inj q)
  rw [decide_eq_false h]
  exact (beq_eq_false_iff_ne.mpr e).symm
theorem aod (a b:Str):decide ((Sum.inr a:Key)=Sum.inr b)=decide (a=b):=by
 by_cases e:a=b
 ·subst e;simp
 ·have h:¬(Sum.inr a:Key)=Sum.inr b:=λq=>e (Sum.inr.inj q)
  rw [decide_eq_false h,decide_eq_false e]
theorem aon (a:Int) (b:Str):decide ((Sum.inl a:Key)=Sum.inr b)=false:=decide_eq_false (λq=>nomatch q)
theorem aot (a:Str) (b:Int):decide ((Sum.inr a:Key)=Sum.inl b)=false:=decide_eq_false (λq=>nomatch q)
def eF (prog:Program) (w:World):PySem.KeyKind prog w Key where
 is:=Nl
 hash:=apD w
 inj:=λv a b ha hb=>by
  rcases gu ha with ⟨i,t,rfl,rfl⟩ | ⟨x,t,rfl,rfl⟩
  ·rcases gu hb with ⟨j,u,rfl,e⟩ | ⟨y,u,rfl,e⟩
   ·injection e with e1 _;rw [e1]
   ·exact nomatch e
  ·rcases gu hb with ⟨j,u,rfl,e⟩ | ⟨y,u,rfl,e⟩
   ·exact nomatch e
   ·injection e with e1 _;rw [e1]
 byValue:=λk v h=>by
  rcases gu h with ⟨i,t,rfl,rfl⟩ | ⟨x,t,rfl,rfl⟩<;>rfl
 pyHash:=λhv h=>by
  rcases gu hv with ⟨i,t,rfl,rfl⟩ | ⟨x,t,rfl,rfl⟩
  ·exact wpAny_pyHash_int h
  ·exact wpAny_pyHash_str h
 eqBool:=λhu hv h=>by
  rcases gu hu with ⟨i,t,rfl,rfl⟩ | ⟨x,t,rfl,rfl⟩
  ·rcases gu hv with ⟨j,u,rfl,rfl⟩ | ⟨y,u,rfl,rfl⟩
   ·rw [an4] at h;exact wpAny_eqBool_int h
   ·rw [aon] at h;exact SeqAt.EqAt.int_str i t y u _ _ _ _ h
  ·rcases gu hv with ⟨j,u,rfl,rfl⟩ | ⟨y,u,rfl,rfl⟩
   ·rw [aot] at h;exact SeqAt.EqAt.str_int x t j u _ _ _ _ h
   ·rw [aod] at h;exact wpAny_eqBool_str h
 «strs»:=λk x t v h=>by
  rcases gu h with ⟨i,u,rfl,e⟩ | ⟨y,u,rfl,e⟩
  ·exact nomatch e
  ·injection e with e1 _
   subst e1
   cases v<;>rfl
theorem afO (prog:Program) (w:World) (i:Int) (t:Tok):(eF prog w).is (.inl i) (.int i t)=true:=ajB i t
theorem ae2 (prog:Program) (w:World) (x:Str) (t:Tok):(eF prog w).is (.inr x) (.str x t)=true:=aiX x t
end L2
namespace L2
open PySem PySem.Spec PyProof.Rows
inductive V where
 | non | bl (b:Bool) | int (i:Int) | str (x:Str) | byt (b:Array UInt8) | flt (b:UInt64) | ref (a:Addr) | ty (n:String)
 deriving DecidableEq
def RelV:V->Value->Prop
 | .non,u=>u=Value.none
 | .bl b,u=>u=Value.bool b
 | .int i,u=>∃ t,u=Value.int i t
 | .str x,u=>∃ t,u=Value.str x t
 | .byt b,u=>∃ t,u=Value.bytes b t
 | .flt b,u=>∃ t,u=Value.float b t
 | .ref a,u=>u=Value.ref a
 | .ty n,u=>u=Value.type n
abbrev Vals:List V->List Value->Prop:=Paired RelV
theorem Vals.length {xs:List V} {us:List Value} (r:Vals xs us):xs.length=us.length:=Paired.length r
theorem Vals.get:∀ {xs:List V} {us:List Value} {i:Nat} {x:V},Vals xs us->xs[i]?=some x->∃ u,us[i]?=some u/\RelV x u
 | _,_,_,_,.nil,e=>by simp at e
 | _,_,0,_,.cons r _,e=>by simp at e;subst e;exact ⟨_,rfl,r⟩
 | _,_,i+1,x,.cons _ t,e=>by
  obtain ⟨u,h1,h2⟩:=Vals.get (i:=i) (x:=x) t (by simpa using e)
  exact ⟨u,by simpa using h1,h2⟩
theorem Vals.set {x:V} {u:Value} (r:RelV x u):∀ {xs:List V} {us:List Value} (i:Nat),Vals xs us->Vals (xs.set i x) (us.set i u)
 | _,_,_,.nil=>.nil
 | _,_,0,.cons _ t=>.cons r t
 | _,_,i+1,.cons q t=>.cons q (Vals.set r i t)
theorem Vals.append:∀ {xs ys:List V} {us ws:List Value},Vals xs us->Vals ys ws->Vals (xs++ys) (us++ws)
 | _,_,_,_,.nil,s=>s
 | _,_,_,_,.cons r t,s=>.cons r (Vals.append t s)
theorem Vals.take:∀ {xs:List V} {us:List Value} (n:Nat),Vals xs us->Vals (xs.take n) (us.take n)
 | _,_,0,_=>.nil
 | _,_,_+1,.nil=>.nil
 | _,_,n+1,.cons r t=>.cons r (Vals.take n t)
theorem Vals.drop:∀ {xs:List V} {us:List Value} (n:Nat),Vals xs us->Vals (xs.drop n) (us.drop n)
 | _,_,0,r=>r
 | _,_,_+1,.nil=>.nil
 | _,_,n+1,.cons _ t=>Vals.drop n t
def Ho:Option V->Option Value->Prop
 | some v,some u=>RelV v u
 | none,none=>True
 | _,_=>False
def KV {κ:Type}:List (κ×V)->List (κ×Value)->Prop:=Paired λ(p:κ×V) (q:κ×Value)=>p.1=q.1/\RelV p.2 q.2
def kV:Key->V
 | .inl i=>.int i
 | .inr x=>.str x
inductive HO where
 | lst (xs:List V)
 | tup (xs:List V)
 | dK (kvs:List (Key×V)) | dT (kvs:List (List Key×V))
 | set (S:Int->Bool) (n:Nat)
 | ins (C dx:Addr) (fs:List (Str×V))
 | own (x:Addr)
 | xd (fs:List (Str×V))
 | met (f x:Addr)
 | rng (lo hi:Int)
 | frz (o:Obj) (u:HO)
 | tbl (ps:Array Value)
 | ext (φ:Heap->Prop)
abbrev Hp:=Addr->Option HO
def upd (H:Hp) (a:Addr) (o:HO):Hp:=λb=>if b=a then some o else H b
theorem ay {H:Hp} {a:Addr} {o:HO}:upd H a o a=some o:=by unfold upd;rw [if_pos rfl]
theorem aq {H:Hp} {a b:Addr} {o:HO} (h:b≠a):upd H a o b=H b:=by unfold upd;rw [if_neg h]
theorem fL {H:Hp} {a b:Addr} {o u:HO} (h:H a=some o) (h':H b=some u) (d:o≠u):a≠b:=by
 intro e;subst e;rw [h] at h';exact d (Option.some.inj h')
theorem ao {H:Hp} {a b:Addr} {o:HO} (h:H a=some o) (h':H b=none):a≠b:=by
 intro e;subst e;rw [h] at h';cases h'
section
variable (P:Program) (w:World)
def jf (H:Hp) (h:Heap) (a:Addr):HO->Prop
 | .lst xs=>xs.length<=sizeLine/\∃ (its:List Value) (n:Nat),Vals xs its/\h.get? a=some { cls:=.type "list",data:=.seq its.toArray n }
 | .tup xs=>xs.length<=sizeLine/\∃ its:List Value,Vals xs its/\IsTup h a its.toArray
 | .dK kvs=>kvs.length<=sizeLine/\(a==sysModules)=false/\∃ vs,KV kvs vs/\h.DictOf (eF P w) a vs
 | .dT kvs=>kvs.length<=sizeLine/\(a==sysModules)=false/\∃ xs:List (List Key×Addr×Value),
   Paired (λ(p:List Key×V) (q:List Key×Addr×Value)=>p.1=q.1/\H q.2.1=some (.tup (p.1.map kV))/\RelV p.2 q.2.2) kvs xs /\
   ∃ o es ep,h.get? a=some o/\o.ExactDict/\o.data=.dict es ep/\es.toList=xs.map (entryOfKey (tupleKind (eF P w)))/\(xs.map (·.1)).Nodup
 | .set S n=>h.SetOf (intKind P w) a S n
 | .ins C dx fs=>H dx=some (.own a)/\fs.length<=1000/\dx≠a/\h.get? a=some (PySem.W.instObj C dx) /\
   ∃ mA,h.Ns1 dx mA/\(∀ f,Ho (fs.lookup f) (mA f))/\PySem.Within mA (fs.map (·.1))
 | .own _=>∃ o,h.get? a=some o
 | .xd fs=>∃ mA,h.Ns1 a mA/\∀ f,Ho (fs.lookup f) (mA f)
 | .rng lo hi=>∃ t u v,h.get? a=some { cls:=.type "range",data:=.fields #[.int lo t,.int hi u,.int 1 v] }
 | .frz o u=>h.get? a=some o/\jf H h a u
 | .tbl ps=>h.get? a=some { cls:=.none,data:=.fields ps }
 | .met f x=>h.get? a=some (PySem.W.methodObj (.ref f) (.ref x))
 | .ext φ=>φ h/\(∃ o,h.get? a=some o)/\∀ h1 h2:Heap,φ h1->(∀ o,h1.get? a=some o->h2.get? a=some o)->φ h2
def HOk (H:Hp) (h:Heap):Prop:=∀ a o,H a=some o->jf P w H h a o
end
section
variable {P:Program} {w:World} {H H':Hp} {h h':Heap} {a:Addr} {o:HO}
theorem jf.lt (x:jf P w H h a o):a < h.objs.size:=by
 cases o with
 | lst xs=>obtain ⟨_,_,_,_,e⟩:=x;exact Heap.lt_size e
 | tup xs=>obtain ⟨_,_,_,p⟩:=x;exact p.lt
 | dK kvs=>obtain ⟨_,_,_,_,o,_,_,e,_⟩:=x;exact Heap.lt_size e
 | dT kvs=>obtain ⟨_,_,_,_,o,_,_,e,_⟩:=x;exact Heap.lt_size e
 | set S n=>obtain ⟨o,_,_,_,e,_⟩:=x;exact Heap.lt_size e
 | ins C dx fs=>obtain ⟨_,_,_,e,_⟩:=x;exact Heap.lt_size e
 | own y=>obtain ⟨_,e⟩:=x;exact Heap.lt_size e
 | xd fs=>obtain ⟨_,⟨_,_,_,e,_⟩,_⟩:=x;exact Heap.lt_size e
 | rng lo hi=>obtain ⟨_,_,_,e⟩:=x;exact Heap.lt_size e
 | frz ob u=>obtain ⟨e,_⟩:=x;exact Heap.lt_size e
 | tbl ps=>exact Heap.lt_size (show h.get? a=some _ from x)
 | met f y=>exact Heap.lt_size (show h.get? a=some _ from x)
 | ext φ=>obtain ⟨_,⟨_,e⟩,_⟩:=x;exact Heap.lt_size e
theorem Paired.aoD {α β:Type} {F G:α->β->Prop}:∀ {l₁:List α} {l₂:List β},Paired F l₁ l₂->(∀ a b,F a b->G a b)->Paired G l₁ l₂
 | _,_,.nil,_=>.nil
 | _,_,.cons r t,f=>.cons (f _ _ r) (Paired.aoD t f)
theorem jf.stay (x:jf P w H h a o) (k:∀ b u,(b=a\/H b=some (.own a))->h.get? b=some u->h'.get? b=some u)
  (ho:∀ b,H b=some (.own a)->H' b=some (.own a)) (ht:∀ b xs,H b=some (.tup xs)->H' b=some (.tup xs)):jf P w H' h' a o:=by
 induction o with
 | lst xs=>obtain ⟨z,its,n,r,e⟩:=x;exact ⟨z,its,n,r,k _ _ (.inl rfl) e⟩
 | tup xs=>obtain ⟨z,its,r,ob,e,c⟩:=x;exact ⟨z,its,r,ob,k _ _ (.inl rfl) e,c⟩
 | dK kvs=>obtain ⟨z,y,vs,r,ob,es,ep,e,c⟩:=x;exact ⟨z,y,vs,r,ob,es,ep,k _ _ (.inl rfl) e,c⟩
 | dT kvs=>
  obtain ⟨z,y,xs,r,ob,es,ep,e,c⟩:=x
  exact ⟨z,y,xs,Paired.aoD r λp q z=>⟨z.1,ht _ _ z.2.1,z.2.2⟩,ob,es,ep,k _ _ (.inl rfl) e,c⟩
 | set S n=>obtain ⟨ob,es,ep,t,e,c⟩:=x;exact ⟨ob,es,ep,t,k _ _ (.inl rfl) e,c⟩
 | ins C dx fs=>
  obtain ⟨d,z,ne,e,mA,⟨od,es,ep,e2,c⟩,r⟩:=x
  exact ⟨ho _ d,z,ne,k _ _ (.inl rfl) e,mA,⟨od,es,ep,k _ _ (.inr d) e2,c⟩,r⟩
 | own y=>obtain ⟨ob,e⟩:=x;exact ⟨ob,k _ _ (.inl rfl) e⟩
 | xd fs=>obtain ⟨mA,⟨od,es,ep,e,c⟩,r⟩:=x;exact ⟨mA,⟨od,es,ep,k _ _ (.inl rfl) e,c⟩,r⟩
 | rng lo hi=>obtain ⟨t,u,v,e⟩:=x;exact ⟨t,u,v,k _ _ (.inl rfl) e⟩
 | frz ob u ih=>obtain ⟨e,q⟩:=x;exact ⟨k _ _ (.inl rfl) e,ih q⟩
 | tbl ps=>
  have e:h.get? a=some { cls:=.none,data:=.fields ps }:=x
  show h'.get? a=some { cls:=.none,data:=.fields ps }
  exact k a _ (.inl rfl) e
 | met f y=>
  have e:h.get? a=some (PySem.W.methodObj (.ref f) (.ref y)):=x
  show h'.get? a=some (PySem.W.methodObj (.ref f) (.ref y))
  exact k a _ (.inl rfl) e
 | ext φ=>obtain ⟨p,⟨o,e⟩,st⟩:=x;exact ⟨st _ _ p λo q=>k _ _ (.inl rfl) q,⟨o,k _ _ (.inl rfl) e⟩,st⟩
theorem HOk.lt (x:HOk P w H h) (e:H a=some o):a < h.objs.size:=(x a o e).lt
theorem HOk.fresh (x:HOk P w H h) (e:h.objs.size<=a):H a=none:=by
 cases q:H a with
 | none=>rfl
 | some u=>exact absurd (Nat.lt_of_lt_of_le (x.lt q) e) (Nat.lt_irrefl _)
theorem HOk.kept (x:HOk P w H h) (k:∀ b u,h.get? b=some u->h'.get? b=some u):HOk P w H h':=λa o e=>
 (x a o e).stay (λb u _ q=>k b u q) (λ_ q=>q) λ_ _ q=>q
theorem HOk.laid (x:HOk P w H h) (k:∀ b u,h.get? b=some u->h'.get? b=some u) (hp:h.objs.size<=a) (new:jf P w (upd H a o) h' a o):HOk P w (upd H a o) h':=λb u e=>by
 have hn:=x.fresh hp
 by_cases hb:b=a
 ·subst hb;rw [ay] at e;cases e;exact new
 ·rw [aq hb] at e
  exact (x b u e).stay (λc v _ q=>k c v q) (λc q=>by rw [aq (ao q hn)];exact q) λc xs q=>by rw [aq (ao q hn)];exact q
end
def Rd (H:Hp) (a:Addr) (u:HO):Prop:=H a=some u\/∃ o,H a=some (.frz o u)
theorem Rd.ok {P:Program} {w:World} {H:Hp} {h:Heap} {a:Addr} {u:HO} (r:Rd H a u) (x:HOk P w H h):jf P w H h a u:=by
 rcases r with r | ⟨o,r⟩
 ·exact x a u r
 ·obtain ⟨_,q⟩:=x a _ r
  exact q
def Mut:Option HO->Prop
 | some (.lst _)=>True
 | some (.dK _)=>True
 | some (.dT _)=>True
 | some (.set _ _)=>True
 | some (.ins _ _ _)=>True
 | some (.ext _)=>True
 | _=>False
section
variable {P:Program} {w:World} {H:Hp} {h h':Heap} {x e:Addr} {o':HO}
theorem HOk.write (ok:HOk P w H h) (mu:Mut (H x)) (he:e=x\/H e=some (.own x)) (k:∀ b u,b≠e->h.get? b=some u->h'.get? b=some u) (heo:∃ u,h'.get? e=some u)
  (new:jf P w (upd H x o') h' x o'):HOk P w (upd H x o') h':=λb u q=>by
 have nown:∀ c y,H c=some (.own y)->c≠x:=λc y r z=>by subst z;rw [r] at mu;exact mu
 have ntup:∀ c xs,H c=some (.tup xs)->c≠x:=λc xs r z=>by subst z;rw [r] at mu;exact mu
 by_cases hb:b=x
 ·subst hb;rw [ay] at q;cases q;exact new
 ·rw [aq hb] at q
  by_cases hbe:b=e
  ·have q':H b=some (.own x):=by
    rcases he with z | z
    ·exact absurd (hbe.trans z) hb
    ·rw [hbe];exact z
   rw [q] at q';cases q'
   obtain ⟨v,hv⟩:=heo
   exact ⟨v,by rw [hbe];exact hv⟩
  ·refine (ok b u q).stay (λc v hc r=>k c v ?_ r) (λc r=>by rw [aq (nown c b r)];exact r) λc xs r=>by rw [aq (ntup c xs r)];exact r
   rcases hc with rfl | hc
   ·exact hbe
   ·rintro rfl
    rcases he with z | z
    ·exact nown c b hc z
    ·rw [hc] at z;cases z;exact hb rfl
end
structure Un (fs ex:List Addr) (H H':Hp) (h h':Heap):Prop where
 keep:∀ b o,h.get? b=some o->H b=none->b∉fs->b∉ex->h'.get? b=some o
 slot:∀ b o,h.get? b=some o->H b=none->b∈fs->b∉ex->∃ sl,h'.get? b=some { o with slots:=sl }
 free:∀ b o,h.get? b=some o->H b=none->b∉ex->H' b=none
 there:∀ b o,h.get? b=some o->b∉ex->∃ o',h'.get? b=some o'
 tups:∀ b xs,H b=some (.tup xs)->H' b=some (.tup xs)
 Ub:∀ b o u,H b=some (.frz o u)->H' b=some (.frz o u)
 Ys:∀ b ps,H b=some (.tbl ps)->∃ more,H' b=some (.tbl (ps++more))
section
variable {fs fs' ex ex':List Addr} {H H1 H2:Hp} {h h1 h2 h':Heap} {a x e:Addr} {o:HO}
theorem Un.any (u:Un fs ex H H1 h h1) {b:Addr} {ob:Obj} (q:h.get? b=some ob) (n:H b=none) (hx:b∉ex):∃ sl,h1.get? b=some { ob with slots:=sl }:=by
 by_cases hb:b∈fs
 ·exact u.slot b ob q n hb hx
 ·exact ⟨ob.slots,u.keep b ob q n hb hx⟩
theorem Un.kept (k:∀ b u,h.get? b=some u->h'.get? b=some u):Un fs ex H H h h':=
 ⟨λb ob q _ _ _=>k b ob q,λb ob q _ _ _=>⟨ob.slots,k b ob q⟩,λ_ _ _ n _=>n,λb ob q _=>⟨ob,k b ob q⟩,λ_ _ q=>q,λ_ _ _ q=>q,λ_ ps q=>⟨#[],by rw [q];simp⟩⟩
theorem Un.refl:Un fs ex H H h h:=Un.kept λ_ _ q=>q
theorem Un.laid (k:∀ b u,h.get? b=some u->h'.get? b=some u) (hp:h.objs.size<=a) (hn:H a=none):Un fs ex H (upd H a o) h h' where
 keep:=λb u q _ _ _=>k b u q
 slot:=λb u q _ _ _=>⟨u.slots,k b u q⟩
 free:=λb u q n _=>by rw [aq (Nat.ne_of_lt (Nat.lt_of_lt_of_le (Heap.lt_size q) hp))];exact n
 there:=λb u q _=>⟨u,k b u q⟩
 tups:=λb xs q=>by rw [aq (ao q hn)];exact q
 Ub:=λb u xs q=>by rw [aq (ao q hn)];exact q
 Ys:=λb ps q=>⟨#[],by rw [aq (ao q hn),q];simp⟩
theorem Un.write (mu:Mut (H x)) (he:e=x\/H e=some (.own x)) (k:∀ b u,b≠e->h.get? b=some u->h'.get? b=some u) (heo:∃ u,h'.get? e=some u):Un fs ex H (upd H x o) h h':=by
 have hx:∀ b,H b=none->b≠x:=λb n z=>by subst z;rw [n] at mu;exact mu
 have hb:∀ b,H b=none->b≠e:=λb n z=>by
  subst z
  rcases he with r | r
  ·exact hx b n r
  ·rw [n] at r;cases r
 have hm:∀ b u,H b=some u->¬Mut (some u)->b≠x:=λb u q nm z=>by subst z;rw [q] at mu;exact nm mu
 refine ⟨λb u q n _ _=>k b u (hb b n) q,λb u q n _ _=>⟨u.slots,k b u (hb b n) q⟩,λb u q n _=>by rw [aq (hx b n)];exact n,λb u q _=>?_,
  λb xs q=>by rw [aq (hm b _ q λz=>z)];exact q,λb u xs q=>by rw [aq (hm b _ q λz=>z)];exact q,λb ps q=>⟨#[],by rw [aq (hm b _ q λz=>z),q];simp⟩⟩
 by_cases hbe:b=e
 ·subst hbe;exact heo
 ·exact ⟨u,k b u hbe q⟩
end
def trk (h:Heap) (H:Hp):List Addr:=(List.range h.objs.size).filter λa=>(H a).isSome
def Zh (h:Heap) (H:Hp):Heap:=PySem.W.hideAll h (trk h H)
theorem ai4 (h:Heap) (H:Hp):(Zh h H).objs.size=h.objs.size:=PySem.W.hideAll_size _ _
theorem akG {h:Heap} {H:Hp} {b:Addr} {o:Obj} (e:h.get? b=some o) (n:H b=none):(Zh h H).get? b=some o:=
 PySem.W.hideAll_get _ e λhm=>by
  have q:(H b).isSome=true:=(List.mem_filter.mp hm).2
  rw [n] at q;simp at q
theorem amZ {h:Heap} {H:Hp} {b:Addr} {o:Obj} (e:(Zh h H).get? b=some o):h.get? b=some o/\H b=none:=by
 have e':h.get? b=some o:=PySem.W.of_hideAll (trk h H) e
 refine ⟨e',?_⟩
 cases q:H b with
 | none=>rfl
 | some x=>
  have hm:b∈trk h H:=List.mem_filter.mpr ⟨List.mem_range.mpr (Heap.lt_size e'),by simp [q]⟩
  have z:(Zh h H).get? b=none:=PySem.W.hideAll_none (trk h H) hm
  rw [z] at e;cases e
def alY (g h:Heap) (L:Addr):List (Addr×Obj):=(List.range h.objs.size).filterMap λa=>if a=L\/(g.get? a).isSome=true then none else (h.get? a).map λo=>(a,o)
def rest (g h:Heap) (L d:Addr):List (Addr×Obj):=(alY g h L).filter λp=>decide (p.1≠d)
end L2
namespace L2
open PySem PySem.Spec PyProof.Rows
structure Mod (K:W.Frag) (mg:Str->Option Value) (base:Heap):Prop where
 kin:K.In base
 glob:base.Ns mainGlobals mg
 blt:∃ mb,base.Ns builtinsNs mb/\∀ x:Str,x≠"__name__"->mb x=bootBuiltins x
 nolimit:base.NoLimit
structure Cx where
 prog:Program
 w:World
 K:W.Frag
 mg:Str->Option Value
 base:Heap
 A:Around
 N:List Str
 s₀:Shared
 H₀:Hp
 env:Env
 outer:List Env
 stack:List Env
 ex:List Addr
 fn:Str->Bool
 calm:Bool
 pn:List (Addr×Obj)
 xe:Value->Shared->Prop
def frs (l:List Env):List Addr:=l.filterMap (·.frame)
abbrev Cx.fs (X:Cx):List Addr:=frs X.outer
def Vis (sc:Scope) (x:Str):Prop:=sc.names.lookup x=some .local\/sc.names.lookup x=some .cell\/sc.names.lookup x=some .free
def Loc (sc:Scope) (x:Str):Prop:=sc.names.lookup x=some .local\/sc.names.lookup x=some .cell
def Look (env:Env) (h:Heap) (m:Str->Option Value) (x:Str) (u:Value):Prop:=
 (env.kindOf x=some .local/\m x=some u)\/((env.kindOf x=some .cell\/env.kindOf x=some .free)/\∃ c,env.cells.lookup x=some c/\h.IsCell c (some u))
structure Cx.Ok (X:Cx):Prop where
 mod:Mod X.K X.mg X.base
 kind:X.env.scope.kind=.function
 glob:X.env.globals=mainGlobals
 blt:X.env.builtins=builtinsNs
 above:X.s₀.heap.objs.size<=X.env.locals
 inj:∀ x y c,X.env.cells.lookup x=some c->X.env.cells.lookup y=some c->x=y
 has:∀ x,(X.env.kindOf x=some .cell\/X.env.kindOf x=some .free)->∃ c,X.env.cells.lookup x=some c
 cab:∀ x c,X.fn x=true->X.env.cells.lookup x=some c->X.s₀.heap.objs.size<=c
 hd:X.calm=true->X.A.handled=none
 frames:X.A.frames=some X.stack
 stk:X.stack=X.outer\/(X.stack=X.env::X.outer/\X.env.frame=some X.env.locals)
 exf:∀ b∈X.ex,b≠X.env.locals/\∀ x c,X.env.cells.lookup x=some c->c≠b
 bs:∀ b o,X.base.get? b=some o->X.s₀.heap.get? b=some o/\X.H₀ b=none
 bsz:X.base.objs.size<=X.s₀.heap.objs.size
 ak3:∀ b o,X.base.get? b=some o->b∉X.ex
 alj:∀ b∈X.ex,b∉X.fs
 Ra:X.s₀.heap.FunFrames X.base X.outer
 frf:∀ b∈X.fs,X.H₀ b=none
structure Inv (X:Cx) (pins:List (Addr×Obj)) (σ:List (Option V)) (H:Hp) (s:Shared):Prop where
 ok:X.Ok
 os:s.os=X.s₀.os
 bare:AllBare s.gens
 base:Un X.fs X.ex X.H₀ H X.s₀.heap s.heap
 loc:∃ m,s.heap.Ns X.env.locals m/\∀ (i:Nat) (x:Str) (v:V),X.N[i]?=some x->σ[i]?=some (some v)->Vis X.env.scope x->∃ u,RelV v u/\Look X.env s.heap m x u
 cell:∀ x c,X.env.cells.lookup x=some c->∃ v,s.heap.IsCell c v
 free:H X.env.locals=none
 AL:∀ x c,X.env.cells.lookup x=some c->H c=none
 pin:∀ p∈X.pn++pins,s.heap.get? p.1=some p.2/\H p.1=none/\p.1≠X.env.locals/\p.1∉X.fs/\∀ v,p.2.data≠.cell v
 hok:HOk X.prog X.w H s.heap
 len:σ.length=X.N.length
section
variable {X:Cx} {pins:List (Addr×Obj)} {σ:List (Option V)} {H H':Hp} {s:Shared} {h':Heap}
theorem Cx.Ok.apy (ok:X.Ok) {b:Addr} {o:Obj} (e:X.base.get? b=some o):b∉X.fs:=λhb=>by
 have:=(ok.Ra.mem hb).1
 rw [e] at this;cases this
theorem Inv.bs (I:Inv X pins σ H s):∀ b o,X.base.get? b=some o->s.heap.get? b=some o/\H b=none:=λb o e=>
 ⟨I.base.keep b o (I.ok.bs b o e).1 (I.ok.bs b o e).2 (I.ok.apy e) (I.ok.ak3 b o e),I.base.free b o (I.ok.bs b o e).1 (I.ok.bs b o e).2 (I.ok.ak3 b o e)⟩
theorem Inv.bk (I:Inv X pins σ H s):∀ b o,X.base.get? b=some o->s.heap.get? b=some o:=λb o e=>(I.bs b o e).1
theorem Inv.mod (I:Inv X pins σ H s):Mod X.K X.mg X.base:=I.ok.mod
theorem Inv.kIn (I:Inv X pins σ H s):X.K.In s.heap:=I.ok.mod.kin.keeps I.bk
theorem Inv.fr (I:Inv X pins σ H s):∃ m,Fr X.base X.env.locals s.heap m:=
 let ⟨m,hn,_⟩:=I.loc
 ⟨m,hn,I.bk,Nat.le_trans I.ok.bsz I.ok.above⟩
theorem Inv.lt (I:Inv X pins σ H s):X.env.locals < s.heap.objs.size:=let ⟨_,hn,_⟩:=I.loc;hn.lt
theorem Inv.sz (I:Inv X pins σ H s):X.s₀.heap.objs.size<=s.heap.objs.size:=Nat.le_trans I.ok.above (Nat.le_of_lt I.lt)
theorem Inv.apE (I:Inv X pins σ H s) {a:Addr} (h:s.heap.objs.size<=a):a∉X.fs:=λhb=>by
 obtain ⟨_,o,ho,_⟩:=I.ok.Ra.mem hb
 exact absurd (Nat.lt_of_lt_of_le (Heap.lt_size ho) (Nat.le_trans I.sz h)) (Nat.lt_irrefl _)
theorem Inv.cne (I:Inv X pins σ H s):∀ x c,X.env.cells.lookup x=some c->c≠X.env.locals:=λx c e z=>by
 obtain ⟨v,o,ho,hd⟩:=I.cell x c e
 obtain ⟨m,⟨o',es,ep,ho',hd',_⟩,_⟩:=I.loc
 rw [z,ho'] at ho;cases ho;rw [hd'] at hd;cases hd
theorem Inv.Ra (I:Inv X pins σ H s):s.heap.FunFrames X.base X.outer:=by
 have all:∀ (l:List Env),(∀ b∈frs l,b∈X.fs)->X.s₀.heap.FunFrames X.base l->s.heap.FunFrames X.base l:=by
  intro l
  induction l with
  | nil=>intro _ _;trivial
  | cons env r ih=>
   intro hs hl
   obtain ⟨hk,⟨L,o,hf,hn,ho,hd⟩,hr⟩:=hl
   have hL:L∈X.fs:=hs L (by unfold frs;rw [List.filterMap_cons,hf];exact List.mem_cons_self)
   obtain ⟨sl,e⟩:=I.base.slot L o ho (I.ok.frf L hL) hL λz=>I.ok.alj L z hL
   exact ⟨hk,⟨L,_,hf,hn,e,hd⟩,ih (λb hb=>hs b (by unfold frs;rw [List.filterMap_cons,hf];exact List.mem_cons_of_mem _ hb)) hr⟩
 exact all X.outer (λ_ hb=>hb) I.ok.Ra
theorem Inv.stack (I:Inv X pins σ H s):s.heap.FunFrames X.base X.stack:=by
 rcases I.ok.stk with e | ⟨e,hf⟩
 ·rw [e];exact I.Ra
 ·rw [e]
  obtain ⟨m,hn,_⟩:=I.loc
  refine .cons (by rw [I.ok.kind];decide) hf hn ?_ I.Ra
  exact Heap.get?_none_of_le (Nat.le_trans I.ok.bsz I.ok.above)
theorem Inv.agU (I:Inv X pins σ H s):∀ b∈frs X.stack,b∈X.env.locals::X.fs:=λb hb=>by
 rcases I.ok.stk with e | ⟨e,hf⟩
 ·rw [e] at hb;exact List.mem_cons_of_mem _ hb
 ·rw [e] at hb
  unfold frs at hb
  rw [List.filterMap_cons,hf] at hb
  exact hb
theorem Inv.ah5 (I:Inv X pins σ H s):∀ b∈frs X.stack,H b=none:=λb hb=>by
 rcases List.mem_cons.mp (I.agU b hb) with e | hb
 ·rw [e];exact I.free
 ·obtain ⟨_,o,ho,_⟩:=I.ok.Ra.mem hb
  exact I.base.free b o ho (I.ok.frf b hb) λz=>I.ok.alj b z hb
theorem Inv.step {g':Array GenState} {t':Nat} {d':Drawn} {ch:List Addr} (I:Inv X pins σ H s)
  (hch:∀ b∈ch,(b∈X.ex\/X.s₀.heap.objs.size<=b)/\b≠X.env.locals/\(∀ x c,X.env.cells.lookup x=some c->c≠b)/\∀ p∈X.pn++pins,p.1≠b)
  (keep:∀ b o,b≠X.env.locals->b∉X.fs->b∉ch->s.heap.get? b=some o->H b=none->h'.get? b=some o)
  (slot:∀ b o,b≠X.env.locals->b∈X.fs->b∉ch->s.heap.get? b=some o->H b=none->∃ sl,h'.get? b=some { o with slots:=sl }) (free:∀ b o,b∉ch->s.heap.get? b=some o->H b=none->H' b=none)
  (there:∀ b o,b∉ch->s.heap.get? b=some o->∃ o',h'.get? b=some o')
  (tups:∀ b xs,H b=some (.tup xs)->H' b=some (.tup xs)) (Ub:∀ b o u,H b=some (.frz o u)->H' b=some (.frz o u)) (Ys:∀ b ps,H b=some (.tbl ps)->∃ more,H' b=some (.tbl (ps++more)))
  (ns:∀ m,s.heap.Ns X.env.locals m->h'.Ns X.env.locals m) (hok:HOk X.prog X.w H' h') (hg:AllBare g') :
  Inv X pins σ H' { s with heap:=h',gens:=g',drawn:=d',toks:=t' }:=by
 have neL:∀ b o,X.s₀.heap.get? b=some o->b≠X.env.locals:=λb o e=>Nat.ne_of_lt (Nat.lt_of_lt_of_le (Heap.lt_size e) I.ok.above)
 have neC:∀ b o,X.s₀.heap.get? b=some o->b∉X.ex->b∉ch:=λb o e hx hb=>by
  rcases (hch b hb).1 with z | z
  ·exact hx z
  ·exact absurd (Nat.lt_of_lt_of_le (Heap.lt_size e) z) (Nat.lt_irrefl _)
 have cellK:∀ x c,X.env.cells.lookup x=some c->∀ v,s.heap.IsCell c v->h'.IsCell c v:=λx c e v ⟨o,ho,hd⟩=>by
  have nch:c∉ch:=λz=>(hch c z).2.2.1 x c e rfl
  by_cases hc:c∈X.fs
  ·obtain ⟨sl,q⟩:=slot c o (I.cne x c e) hc nch ho (I.AL x c e)
   exact ⟨_,q,hd⟩
  ·exact ⟨o,keep c o (I.cne x c e) hc nch ho (I.AL x c e),hd⟩
 refine ⟨I.ok,I.os,hg,⟨λb o e n hb hx=>?_,λb o e n hb hx=>?_,λb o e n hx=>?_,λb o e hx=>?_,λb xs e=>tups b xs (I.base.tups b xs e),λb o xs e=>Ub b o xs (I.base.Ub b o xs e),λb ps e=>?_⟩,?_,λx c e=>?_,?_,λx c e=>?_,λp hp=>?_,hok,I.len⟩
 ·exact keep b o (neL b o e) hb (neC b o e hx) (I.base.keep b o e n hb hx) (I.base.free b o e n hx)
 ·obtain ⟨sl,e1⟩:=I.base.slot b o e n hb hx
  obtain ⟨sl',e2⟩:=slot b _ (neL b o e) hb (neC b o e hx) e1 (I.base.free b o e n hx)
  exact ⟨sl',e2⟩
 ·obtain ⟨o',e1⟩:=I.base.there b o e hx
  exact free b o' (neC b o e hx) e1 (I.base.free b o e n hx)
 ·obtain ⟨o',e1⟩:=I.base.there b o e hx
  exact there b o' (neC b o e hx) e1
 ·obtain ⟨m1,e1⟩:=I.base.Ys b ps e
  obtain ⟨m2,e2⟩:=Ys b _ e1
  exact ⟨m1++m2,by rw [e2,Array.append_assoc]⟩
 ·obtain ⟨m,hn,hl⟩:=I.loc
  refine ⟨m,ns m hn,λi x v e1 e2 e3=>?_⟩
  obtain ⟨u,r,l⟩:=hl i x v e1 e2 e3
  refine ⟨u,r,?_⟩
  rcases l with l | ⟨k,c,e,z⟩
  ·exact .inl l
  ·exact .inr ⟨k,c,e,cellK x c e _ z⟩
 ·obtain ⟨v,z⟩:=I.cell x c e
  exact ⟨v,cellK x c e v z⟩
 ·obtain ⟨m,⟨o,_,_,ho,_⟩,_⟩:=I.loc
  exact free _ o (λz=>(hch _ z).2.1 rfl) ho I.free
 ·obtain ⟨v,o,ho,hd⟩:=I.cell x c e
  exact free c o (λz=>(hch c z).2.2.1 x c e rfl) ho (I.AL x c e)
 ·obtain ⟨e,n,ne,nf,d⟩:=I.pin p hp
  have nch:p.1∉ch:=λz=>(hch p.1 z).2.2.2 p hp rfl
  exact ⟨keep p.1 p.2 ne nf nch e n,free p.1 p.2 nch e n,ne,nf,d⟩
theorem Inv.un {t':Nat} (I:Inv X pins σ H s) (u:Un X.fs [] H H' s.heap h') (hok:HOk X.prog X.w H' h'):Inv X pins σ H' { s with heap:=h',toks:=t' }:=by
 obtain ⟨m,⟨o,es,ep,ho,r⟩,_⟩:=id I.loc
 obtain ⟨sl,hL⟩:=u.any ho I.free (by simp)
 exact I.step (g':=s.gens) (d':=s.drawn) (ch:=[]) (λ_ z=>nomatch z) (λb o _ hb _ e n=>u.keep b o e n hb (by simp)) (λb o _ hb _ e n=>u.slot b o e n hb (by simp)) (λb o _ e n=>u.free b o e n (by simp)) (λb o _ e=>u.there b o e (by simp)) u.tups u.Ub u.Ys (λm' hm=>by
  obtain ⟨o',es',ep',ho',r'⟩:=hm
  rw [ho] at ho';cases ho'
  exact ⟨_,es',ep',hL,r'⟩) hok I.bare
theorem Inv.call {g':Array GenState} {t':Nat} {d':Drawn} {ch:List Addr} (I:Inv X pins σ H s) (u:Un (frs X.stack) ch H H' s.heap h') (hok:HOk X.prog X.w H' h') (hg:AllBare g')
  (hch:∀ b∈ch,(b∈X.ex\/X.s₀.heap.objs.size<=b)/\b≠X.env.locals/\(∀ x c,X.env.cells.lookup x=some c->c≠b)/\∀ p∈X.pn++pins,p.1≠b) :
  Inv X pins σ H' { s with heap:=h',gens:=g',drawn:=d',toks:=t' }:=by
 obtain ⟨m,⟨o,es,ep,ho,r⟩,_⟩:=id I.loc
 obtain ⟨sl,hL⟩:=u.any ho I.free λz=>(hch _ z).2.1 rfl
 exact I.step (ch:=ch) hch (λb o hL hb hc e n=>u.keep b o e n (λz=>(List.mem_cons.mp (I.agU b z)).elim hL hb) hc) (λb o _ _ hc e n=>u.any e n hc) (λb o hc e n=>u.free b o e n hc) (λb o hc e=>u.there b o e hc) u.tups u.Ub u.Ys (λm' hm=>by
  obtain ⟨o',es',ep',ho',r'⟩:=hm
  rw [ho] at ho';cases ho'
  exact ⟨_,es',ep',hL,r'⟩) hok hg
theorem Inv.turned {t':Nat} {it:Addr} (I:Inv X pins σ H s) (k:∀ b o,b≠it->s.heap.get? b=some o->h'.get? b=some o) (hn:H it=none) (hL:it≠X.env.locals)
  (h1:it∈X.ex\/X.s₀.heap.objs.size<=it) (h2:∀ x c,X.env.cells.lookup x=some c->c≠it) (h3:∀ p∈X.pn++pins,p.1≠it):Inv X pins σ H { s with heap:=h',toks:=t' }:=by
 have nit:∀ b u,H b=some u->b≠it:=λb u e z=>by rw [z,hn] at e;cases e
 refine I.step (g':=s.gens) (d':=s.drawn) (ch:=[it]) (λb hb=>?_) (λb o _ _ hc e _=>k b o (λz=>hc (by simp [z])) e) (λb o _ _ hc e _=>⟨o.slots,k b o (λz=>hc (by simp [z])) e⟩) (λ_ _ _ _ n=>n)
  (λb o hc e=>⟨o,k b o (λz=>hc (by simp [z])) e⟩) (λ_ _ e=>e) (λ_ _ _ e=>e) (λb ps e=>⟨#[],by rw [e];simp⟩) (λm hm=>?_) (λb u e=>?_) I.bare
 ·have e:b=it:=by simpa using hb
  subst e
  exact ⟨h1,hL,h2,h3⟩
 ·obtain ⟨o,es,ep,ho,r⟩:=hm
  exact ⟨o,es,ep,k _ o (Ne.symm hL) ho,r⟩
 ·refine (I.hok b u e).stay (λc v hc q=>k c v ?_ q) (λ_ q=>q) λ_ _ q=>q
  rcases hc with z | z
  ·rw [z];exact nit b u e
  ·exact nit c _ z
theorem Inv.tok (I:Inv X pins σ H s) (t:Nat):Inv X pins σ H { s with toks:=t }:=I.un (h':=s.heap) (t':=t) Un.refl I.hok
theorem Inv.kept {t':Nat} (I:Inv X pins σ H s) (k:∀ b u,s.heap.get? b=some u->h'.get? b=some u):Inv X pins σ H { s with heap:=h',toks:=t' }:=I.un (Un.kept k) (I.hok.kept k)
theorem Inv.laid {a:Addr} {o:HO} {t':Nat} (I:Inv X pins σ H s) (k:∀ b u,s.heap.get? b=some u->h'.get? b=some u) (hp:s.heap.objs.size<=a) (new:jf X.prog X.w (upd H a o) h' a o) :
  Inv X pins σ (upd H a o) { s with heap:=h',toks:=t' }:=I.un (Un.laid k hp (I.hok.fresh hp)) (I.hok.laid k hp new)
theorem Inv.write {x e:Addr} {o:HO} {t':Nat} (I:Inv X pins σ H s) (mu:Mut (H x)) (he:e=x\/H e=some (.own x)) (k:∀ b u,b≠e->s.heap.get? b=some u->h'.get? b=some u) (heo:∃ u,h'.get? e=some u)
  (new:jf X.prog X.w (upd H x o) h' x o):Inv X pins σ (upd H x o) { s with heap:=h',toks:=t' }:=I.un (Un.write mu he k heo) (I.hok.write mu he k heo new)
theorem Inv.weak {σ':List (Option V)} (I:Inv X pins σ H s) (hl:σ'.length=σ.length) (w:∀ (i:Nat) v,σ'[i]?=some (some v)->σ[i]?=some (some v)):Inv X pins σ' H s:=
 ⟨I.ok,I.os,I.bare,I.base,let ⟨m,hn,hl'⟩:=I.loc;⟨m,hn,λi x v e1 e2 e3=>hl' i x v e1 (w i v e2) e3⟩,I.cell,I.free,I.AL,I.pin,I.hok,hl.trans I.len⟩
theorem Inv.ahX {pins':List (Addr×Obj)} (I:Inv X pins σ H s) (h:∀ p∈pins',s.heap.get? p.1=some p.2/\H p.1=none/\p.1≠X.env.locals/\p.1∉X.fs/\∀ v,p.2.data≠.cell v):Inv X pins' σ H s:=
 ⟨I.ok,I.os,I.bare,I.base,I.loc,I.cell,I.free,I.AL,λp hp=>(List.mem_append.mp hp).elim (λz=>I.pin p (List.mem_append_left _ z)) (h p),I.hok,I.len⟩
theorem UJ {N:List Str} (hN:N.Nodup) {i j:Nat} {x:Str} (a:N[i]?=some x) (b:N[j]?=some x):i=j:=by
 obtain ⟨h1,e1⟩:=List.getElem?_eq_some_iff.mp a
 obtain ⟨h2,e2⟩:=List.getElem?_eq_some_iff.mp b
 exact (List.getElem_inj hN).mp (e1.trans e2.symm)
theorem Xh {M:Model} {A:Around} {E:Value->Shared->Prop} {i:Nat} {x:Str} {v:V} {u:Value} {Q:Unit->Shared->Prop} (I:Inv X pins σ H s) (hN:X.N.Nodup) (hi:X.N[i]?=some x) (hx:Loc X.env.scope x) (r:RelV v u)
  (h:∀ s',Inv X pins (σ.set i (some v)) H s'->(∃ a,Heap.SameBut a s.heap s'.heap/\(a=X.env.locals\/X.env.cells.lookup x=some a))->Q () s') (hf:X.fn x=true\/X.env.scope.names.lookup x=some .local:=by first | exact .inl rfl | exact .inr rfl | assumption):wpAny M A (storeName X.env x u) Q E s:=by
 obtain ⟨m,hn,hl⟩:=id I.loc
 have hcls:(X.env.scope.kind==.class||(X.env.scope.kind==.module&&X.env.locals != X.env.globals))=false:=by rw [I.ok.kind];rfl
 have hiσ:i < σ.length:=by rw [I.len];exact (List.getElem?_eq_some_iff.mp hi).1
 have cne:=I.cne
 have tracked:∀ {a:Addr} {h':Heap},(∃ o,s.heap.get? a=some o/\H a=none)->Heap.SameBut a s.heap h'->HOk X.prog X.w H h':=λ{a h'} ha hs b ob e=>by
  obtain ⟨_,_,hfree⟩:=ha
  refine (I.hok b ob e).stay (λc w' hc q=>(hs.2 c ?_).trans q) (λ_ q=>q) λ_ _ q=>q
  rintro rfl
  rcases hc with rfl | hc
  ·rw [hfree] at e;cases e
  ·rw [hfree] at hc;cases hc
 rcases hx with hk | hk
 ·refine wpAny_storeName_local hk hn (λh' hn' hs=>?_) hcls
  obtain ⟨oL,_,_,hoL,_⟩:=id hn
  refine h _ ⟨I.ok,I.os,I.bare,⟨λb o e n hb hx=>?_,λb o e n hb hx=>?_,I.base.free,λb o e hx=>?_,I.base.tups,I.base.Ub,I.base.Ys⟩,⟨_,hn',λj y v' e1 e2 e3=>?_⟩,λy c e=>?_,I.free,I.AL,λp hp=>?_,tracked ⟨oL,hoL,I.free⟩ hs,by simpa using I.len⟩ ⟨_,hs,.inl rfl⟩
  ·exact (hs.2 b (Nat.ne_of_lt (Nat.lt_of_lt_of_le (Heap.lt_size e) I.ok.above))).trans (I.base.keep b o e n hb hx)
  ·obtain ⟨sl,e1⟩:=I.base.slot b o e n hb hx
   exact ⟨sl,(hs.2 b (Nat.ne_of_lt (Nat.lt_of_lt_of_le (Heap.lt_size e) I.ok.above))).trans e1⟩
  ·obtain ⟨o',e1⟩:=I.base.there b o e hx
   exact ⟨o',(hs.2 b (Nat.ne_of_lt (Nat.lt_of_lt_of_le (Heap.lt_size e) I.ok.above))).trans e1⟩
  ·by_cases hj:j=i
   ·subst hj
    rw [hi] at e1;cases e1
    rw [List.getElem?_set_self hiσ] at e2
    cases e2
    exact ⟨u,r,.inl ⟨hk,by simp⟩⟩
   ·rw [List.getElem?_set_ne (Ne.symm hj)] at e2
    obtain ⟨u',r',q⟩:=hl j y v' e1 e2 e3
    refine ⟨u',r',?_⟩
    rcases q with ⟨k,e⟩ | ⟨k,c,e,z⟩
    ·refine .inl ⟨k,?_⟩
     have:y≠x:=λe=>hj (UJ hN e1 (e▸hi))
     simp [this,e]
    ·exact .inr ⟨k,c,e,z.sameBut hs (cne y c e)⟩
  ·obtain ⟨w',z⟩:=I.cell y c e
   exact ⟨w',z.sameBut hs (cne y c e)⟩
  ·obtain ⟨e,n,ne,nf,d⟩:=I.pin p hp
   exact ⟨(hs.2 p.1 ne).trans e,n,ne,nf,d⟩
 ·have hfn:X.fn x=true:=by
   rcases hf with z | z
   ·exact z
   ·rw [z] at hk;cases hk
  obtain ⟨c,hc⟩:=I.ok.has x (.inl hk)
  obtain ⟨w',z⟩:=I.cell x c hc
  refine wpAny_storeName_cell I.ok.kind hk hc z (λh' hc' hs=>?_)
  obtain ⟨oc,hoc,hocd⟩:=id z
  refine h { s with heap:=h' } ⟨I.ok,I.os,I.bare,⟨λb o e n hb hx=>?_,λb o e n hb hx=>?_,I.base.free,λb o e hx=>?_,I.base.tups,I.base.Ub,I.base.Ys⟩,⟨m,hn.sameBut hs (Ne.symm (cne x c hc)),λj y v' e1 e2 e3=>?_⟩,λy c' e=>?_,I.free,I.AL,λp hp=>?_,tracked ⟨oc,hoc,I.AL x c hc⟩ hs,by simpa using I.len⟩ ⟨c,hs,.inr hc⟩
  ·exact (hs.2 b (Nat.ne_of_lt (Nat.lt_of_lt_of_le (Heap.lt_size e) (I.ok.cab x c hfn hc)))).trans (I.base.keep b o e n hb hx)
  ·obtain ⟨sl,e1⟩:=I.base.slot b o e n hb hx
   exact ⟨sl,(hs.2 b (Nat.ne_of_lt (Nat.lt_of_lt_of_le (Heap.lt_size e) (I.ok.cab x c hfn hc)))).trans e1⟩
  ·obtain ⟨o',e1⟩:=I.base.there b o e hx
   exact ⟨o',(hs.2 b (Nat.ne_of_lt (Nat.lt_of_lt_of_le (Heap.lt_size e) (I.ok.cab x c hfn hc)))).trans e1⟩
  ·by_cases hj:j=i
   ·subst hj
    rw [hi] at e1;cases e1
    rw [List.getElem?_set_self hiσ] at e2
    cases e2
    exact ⟨u,r,.inr ⟨.inl hk,c,hc,hc'⟩⟩
   ·rw [List.getElem?_set_ne (Ne.symm hj)] at e2
    obtain ⟨u',r',q⟩:=hl j y v' e1 e2 e3
    refine ⟨u',r',?_⟩
    rcases q with q | ⟨k,c',e,z'⟩
    ·exact .inl q
    ·refine .inr ⟨k,c',e,z'.sameBut hs ?_⟩
     rintro rfl
     exact hj (UJ hN e1 (I.ok.inj _ _ _ e hc▸hi))
  ·by_cases hcc:c'=c
   ·subst hcc;exact ⟨_,hc'⟩
   ·obtain ⟨w2,z2⟩:=I.cell y c' e
    exact ⟨w2,z2.sameBut hs hcc⟩
  ·obtain ⟨e,n,ne,nf,d⟩:=I.pin p hp
   refine ⟨(hs.2 p.1 ?_).trans e,n,ne,nf,d⟩
   intro q
   rw [q,hoc] at e
   have q':oc=p.2:=Option.some.inj e
   exact d w' (by rw [<-q'];exact hocd)
theorem Su {M:Model} {A:Around} {E:Value->Shared->Prop} {i:Nat} {x:Str} {v:V} {u:Value} {Q:Unit->Shared->Prop} (I:Inv X pins σ H s) (hN:X.N.Nodup) (hi:X.N[i]?=some x) (hx:Loc X.env.scope x) (r:RelV v u)
  (h:∀ s',Inv X pins (σ.set i (some v)) H s'->Q () s') (hf:X.fn x=true\/X.env.scope.names.lookup x=some .local:=by first | exact .inl rfl | exact .inr rfl | assumption):wpAny M A (storeName X.env x u) Q E s:=
 Xh I hN hi hx r (λs' I' _=>h s' I') hf
theorem Inv.ao5 {s':Shared} {ch:List Addr} (I:Inv X pins σ H s) (ho:s'.os=s.os) (u:Un (frs X.stack) ch H H' s.heap s'.heap) (hok:HOk X.prog X.w H' s'.heap) (hg:AllBare s'.gens)
  (hch:∀ b∈ch,(b∈X.ex\/X.s₀.heap.objs.size<=b)/\b≠X.env.locals/\(∀ x c,X.env.cells.lookup x=some c->c≠b)/\∀ p∈X.pn++pins,p.1≠b):Inv X pins σ H' s':=by
 obtain ⟨h',g',d',t',o'⟩:=s'
 have e:o'=s.os:=ho
 subst e
 exact I.call (g':=g') (t':=t') (d':=d') u hok hg hch
end
abbrev XK:=Value->Option Addr->Hp->Prop
abbrev St:=List (Option V)
abbrev VK:=V->Hp->Prop
abbrev TE:=St->Hp->VK->Prop
abbrev TT:=St->Hp->(Bool->Hp->Prop)->Prop
abbrev TA:=St->Hp->(List V->Hp->Prop)->Prop
structure Ends where
 nx:St->Hp->Prop
 rt:VK
 bk:St->Hp->Prop:=λ_ _=>False
 ct:St->Hp->Prop:=λ_ _=>False
abbrev TS:=Ends->St->Hp->Prop
def EP (X:Cx) (pins:List (Addr×Obj)) (σ:St) (Q:VK) (u:Value) (s':Shared):Prop:=∃ v H',Inv X pins σ H' s'/\RelV v u/\Q v H'
def TP (X:Cx) (pins:List (Addr×Obj)) (σ:St) (Q:Bool->Hp->Prop) (b:Bool) (s':Shared):Prop:=∃ H',Inv X pins σ H' s'/\Q b H'
def AP (X:Cx) (pins:List (Addr×Obj)) (σ:St) (Q:List V->Hp->Prop) (us:List Value) (s':Shared):Prop:=∃ vs H',Inv X pins σ H' s'/\Vals vs us/\Q vs H'
def SP (X:Cx) (pins:List (Addr×Obj)) (D:Ends) (f:Flow) (s':Shared):Prop:=
 match f with
 | .next=>∃ σ' H',Inv X pins σ' H' s'/\D.nx σ' H'
 | .brk=>∃ σ' H',Inv X pins σ' H' s'/\D.bk σ' H'
 | .cont=>∃ σ' H',Inv X pins σ' H' s'/\D.ct σ' H'
 | .ret u=>∃ v σ' H',Inv X pins σ' H' s'/\RelV v u/\D.rt v H'
def PE (X:Cx) (e:Expr) (t:TE):Prop:=
 ∀ (pins:List (Addr×Obj)) (s:Shared) (σ:St) (H:Hp) (Q:VK),Inv X pins σ H s->t σ H Q->wpAny (model X.prog X.w) X.A (eval e X.env) (EP X pins σ Q) X.xe s
def PT (X:Cx) (e:Expr) (t:TT):Prop:=
 ∀ (pins:List (Addr×Obj)) (s:Shared) (σ:St) (H:Hp) (Q:Bool->Hp->Prop),Inv X pins σ H s->t σ H Q->wpAny (model X.prog X.w) X.A (isTrue e X.env (eval e X.env)) (TP X pins σ Q) X.xe s
def PW (X:Cx) (e:Expr) (t:TT):Prop:=
 ∀ (whole:Sem Value) (pins:List (Addr×Obj)) (s:Shared) (σ:St) (H:Hp) (Q:Bool->Hp->Prop),Inv X pins σ H s->t σ H Q->wpAny (model X.prog X.w) X.A (isTrue e X.env whole) (TP X pins σ Q) X.xe s
theorem PW.pt {X:Cx} {e:Expr} {t:TT} (h:PW X e t):PT X e t:=h _
def PA (X:Cx) (es:List Expr) (t:TA):Prop:=
 ∀ (pos:Pos) (pins:List (Addr×Obj)) (s:Shared) (σ:St) (H:Hp) (Q:List V->Hp->Prop),Inv X pins σ H s->t σ H Q->wpAny (model X.prog X.w) X.A (spliced (backTo pos (starEach es X.env))) (AP X pins σ Q) X.xe s
def PS (X:Cx) (st:Stmt) (t:TS):Prop:=
 ∀ (pins:List (Addr×Obj)) (s:Shared) (σ:St) (H:Hp) (D:Ends),Inv X pins σ H s->t D σ H->wpAny (model X.prog X.w) X.A (exec st X.env) (SP X pins D) X.xe s
def PSs (X:Cx) (st:List Stmt) (t:TS):Prop:=
 ∀ (pins:List (Addr×Obj)) (s:Shared) (σ:St) (H:Hp) (D:Ends),Inv X pins σ H s->t D σ H->wpAny (model X.prog X.w) X.A (execs st X.env) (SP X pins D) X.xe s
theorem thn {α:Type} {t:Sem α} {Q Q':α->Shared->Prop} {M:Model} {A:Around} {E:Value->Shared->Prop} {s:Shared} (h:wpAny M A t Q E s) (hQ:∀ a s,Q a s->Q' a s):wpAny M A t Q' E s:=wpAny_mono h hQ λ_ _ x=>x
end L2
namespace L2
open PySem PySem.Spec PyProof.Rows
section
variable {X:Cx}
theorem bin {a b:Expr} {ta tb:TE} (ha:PE X a ta) (hb:PE X b tb) {pins:List (Addr×Obj)} {s:Shared} {σ:St} {H:Hp} {R:V->V->Hp->Prop} (I:Inv X pins σ H s) (h:ta σ H λx H1=>tb σ H1 λy H2=>R x y H2)
  {α:Type} {Q:α->Shared->Prop} {f:Value->Value->Sem α}
  (hf:∀ v u s2 x y H2,Inv X pins σ H2 s2->RelV x v->RelV y u->R x y H2->wpAny (model X.prog X.w) X.A (f v u) Q X.xe s2) :
  wpAny (model X.prog X.w) X.A (eval a X.env) (λv s₁=>wpAny (model X.prog X.w) X.A (eval b X.env) (λu s₂=>wpAny (model X.prog X.w) X.A (f v u) Q X.xe s₂) X.xe s₁) X.xe s:=by
 refine thn (ha pins s σ H _ I h) λv s1 ⟨x,H1,I1,r1,q1⟩=>?_
 refine thn (hb pins s1 σ H1 _ I1 q1) λu s2 ⟨y,H2,I2,r2,q2⟩=>?_
 exact hf v u s2 x y H2 I2 r1 r2 q2
def aa (i:Nat):TE:=λσ H Q=>∃ v,σ[i]?=some (some v)/\Q v H
def tC (v:V):TE:=λ_ H Q=>Q v H
theorem an2 {i:Nat} {x:Str} {pos:Pos} (hN:X.N[i]?=some x) (hv:Vis X.env.scope x) (hd:(x==("__debug__":Str))=false:=by decide) (hcd:(x==("__classdict__":Str))=false:=by decide):PE X (.Name x pos) (aa i):=by
 intro pins s σ H Q I h
 obtain ⟨v,e,h⟩:=h
 obtain ⟨m,hn,hl⟩:=I.loc
 obtain ⟨u,r,l⟩:=hl i x v hN e hv
 have fin:EP X pins σ Q u s:=⟨v,H,I,r,h⟩
 rcases l with ⟨hk,hm⟩ | ⟨hk,c,hc,hcell⟩
 ·exact wpAny_Name (wpAny_loadName_local I.ok.kind hk hn hm fin) hd
 ·rcases hk with hk | hk
  ·exact wpAny_Name (wpAny_loadName_cell I.ok.kind hk hc hcell fin) hd
  ·exact wpAny_Name (wpAny_loadName_free I.ok.kind hk hc hcell fin hcd) hd
theorem aF {i j pos}:PE X (.Constant (.int i) j pos) (tC (.int i)):=λ_ _ _ H _ I h=>wpAny_Constant_int ⟨.int i,H,I.tok _,⟨_,rfl⟩,h⟩
theorem AQ {b j pos}:PE X (.Constant (.bool b) j pos) (tC (.bl b)):=λ_ _ _ H _ I h=>Constant_bool ⟨.bl b,H,I,rfl,h⟩
theorem aoj {j pos}:PE X (.Constant .none j pos) (tC .non):=λ_ _ _ H _ I h=>Constant_none ⟨.non,H,I,rfl,h⟩
def Gl (X:Cx) (x:Str):Prop:=X.env.kindOf x=some .globalImplicit
theorem LD {E:Value->Shared->Prop} {pins:List (Addr×Obj)} {s:Shared} {σ:St} {H:Hp} {x:Str} {u:Value} {pos:Pos} {Q:Value->Shared->Prop} (I:Inv X pins σ H s) (hg:Gl X x) (hm:X.mg x=some u) (h:Q u s)
  (hd:(x==("__debug__":Str))=false:=by decide):wpAny (model X.prog X.w) X.A (eval (.Name x pos) X.env) Q E s:=
 Calls.Name_function_global I.ok.kind hg (Calls.loadGlobal_global (by rw [I.ok.glob];exact I.mod.glob.keeps I.bk) hm h) hd
theorem Hs {E:Value->Shared->Prop} {pins:List (Addr×Obj)} {s:Shared} {σ:St} {H:Hp} {x:Str} {u:Value} {pos:Pos} {Q:Value->Shared->Prop} (I:Inv X pins σ H s) (hg:Gl X x) (hm:X.mg x=none) (hv:bootBuiltins x=some u) (h:Q u s)
  (hn:x≠"__name__":=by decide) (hd:(x==("__debug__":Str))=false:=by decide):wpAny (model X.prog X.w) X.A (eval (.Name x pos) X.env) Q E s:=by
 obtain ⟨mb,h1,h2⟩:=I.mod.blt
 exact Calls.Name_function_global I.ok.kind hg (Calls.loadGlobal_builtin (by rw [I.ok.glob];exact I.mod.glob.keeps I.bk) hm (by rw [I.ok.blt];exact h1.keeps I.bk) ((h2 x hn).trans hv) h) hd
theorem amC {x:Str} {v:V} {u:Value} {pos:Pos} (hg:Gl X x) (hm:X.mg x=some u) (r:RelV v u) (hd:(x==("__debug__":Str))=false:=by decide):PE X (.Name x pos) (tC v):=
 λ_ _ _ H _ I h=>LD I hg hm ⟨v,H,I,r,h⟩ hd
variable {a b:Expr} {ta tb:TE} {pos:Pos}
def PC (X:Cx) (op:CmpOp) (a b:Expr) (t:TE):Prop:=
 ∀ (pins:List (Addr×Obj)) (s:Shared) (σ:St) (H:Hp) (Q:VK),Inv X pins σ H s->t σ H Q ->
  wpAny (model X.prog X.w) X.A (eval a X.env) (λv s₁=>wpAny (model X.prog X.w) X.A (eval b X.env) (λu s₂=>wpAny (model X.prog X.w) X.A (compareOp op v u) (EP X pins σ Q) X.xe s₂) X.xe s₁) X.xe s
theorem alL (b:Expr) {op:CmpOp} (h:op≠.In) (h2:op≠.NotIn):behindInMarks op b=false:=by
 have e1:(op==CmpOp.In)=false:=by cases op<;>first | rfl | exact absurd rfl h
 have e2:(op==CmpOp.NotIn)=false:=by cases op<;>first | rfl | exact absurd rfl h2
 cases b<;>simp [behindInMarks,e1,e2]
def aok (ta:TE):TE:=λσ H Q=>ta σ H λx H1=>Q (.bl (decide (x=.non))) H1
def ajI (ta:TE):TE:=λσ H Q=>ta σ H λx H1=>Q (.bl (!decide (x=.non))) H1
theorem RelV.afS {x:V} {v:Value} (r:RelV x v):(v==Value.none)=decide (x=.non):=by
 cases x with
 | non=>cases r;rfl
 | bl _=>cases r;rfl
 | int _=>obtain ⟨t,rfl⟩:=r;rfl
 | str _=>obtain ⟨t,rfl⟩:=r;rfl
 | byt _=>obtain ⟨t,rfl⟩:=r;rfl
 | flt _=>obtain ⟨t,rfl⟩:=r;rfl
 | ref _=>cases r;rfl
 | ty _=>cases r;rfl
theorem aoP {j pos'} (ha:PE X a ta):PC X .Is a (.Constant .none j pos') (aok ta):=by
 intro pins s σ H Q I h
 refine thn (ha pins s σ H _ I h) λv s1 ⟨x,H1,I1,r1,q1⟩=>?_
 exact Constant_none (is_none_gen ⟨.bl _,H1,I1,by rw [r1.afS];rfl,q1⟩)
theorem amz {j pos'} (ha:PE X a ta):PC X .IsNot a (.Constant .none j pos') (ajI ta):=by
 intro pins s σ H Q I h
 refine thn (ha pins s σ H _ I h) λv s1 ⟨x,H1,I1,r1,q1⟩=>?_
 exact Constant_none (isnot_none_gen ⟨.bl _,H1,I1,by rw [r1.afS];rfl,q1⟩)
def tB (t:TE):TT:=λσ H Q=>t σ H λx H1=>∃ c,x=.bl c/\Q c H1
theorem alI {op:CmpOp} {t:TE} (h:PC X op a b t) (h1:behindInMarks op b=false:=by first | exact alL _ (by decide) (by decide) | rfl):PT X (.Compare a [op] [b] pos) (tB t):=by
 intro pins s σ H Q I hw
 refine wpAny_isTrue_Compare1 (thn (h pins s σ H _ I hw) λv s1 h1=>thn h1 λu s2 h2=>thn h2 λc s3 ⟨x,H1,I1,r1,q1⟩=>?_) h1
 obtain ⟨d,rfl,q⟩:=q1
 cases r1
 exact wpAny_truthy_bool ⟨H1,I1,q⟩
theorem fS {e:Expr} {t:TE} (h:PE X e t) (he:∀ whole,isTrue e X.env whole=(do let v <-whole;standAt e.pos;holding [v] (truthy v)):=by intro _;rfl):PT X e (tB t):=by
 intro pins s σ H Q I hw
 refine isTrue_plain (thn (h pins s σ H _ I hw) λv s1 ⟨x,H1,I1,r1,q1⟩=>?_) (he _)
 obtain ⟨d,rfl,q⟩:=q1
 cases r1
 exact wpAny_truthy_bool ⟨H1,I1,q⟩
variable {tA tB':TT} {rest:List Expr}
def VU (t u:TT):TT:=λσ H Q=>t σ H λc H1=>if c=true then u σ H1 Q else Q false H1
def tOr (t u:TT):TT:=λσ H Q=>t σ H λc H1=>if c=true then Q true H1 else u σ H1 Q
def pK (t:TT):TT:=λσ H Q=>t σ H λc H1=>Q (!c) H1
theorem zj (ha:PT X a tA):PW X (.BoolOp .And [a] pos) tA:=by
 intro wh pins s σ H Q I h
 refine isTrue_and (thn (ha pins s σ H Q I h) λc s1 e=>?_)
 cases c with
 | true=>exact isTrue_and_nil e
 | false=>exact e
theorem xC (ha:PT X a tA):PW X (.BoolOp .Or [a] pos) tA:=by
 intro wh pins s σ H Q I h
 refine isTrue_or (thn (ha pins s σ H Q I h) λc s1 e=>?_)
 cases c with
 | false=>exact isTrue_or_nil e
 | true=>exact e
theorem Eu (ha:PT X a tA) (hb:PW X (.BoolOp .And (b::rest) pos) tB'):PW X (.BoolOp .And (a::b::rest) pos) (VU tA tB'):=by
 intro wh pins s σ H Q I h
 refine isTrue_and (thn (ha pins s σ H _ I h) λc s1 ⟨H1,I1,q1⟩=>?_)
 cases c with
 | true=>exact hb wh pins s1 σ H1 Q I1 q1
 | false=>exact ⟨H1,I1,q1⟩
theorem Bb (ha:PT X a tA) (hb:PW X (.BoolOp .Or (b::rest) pos) tB'):PW X (.BoolOp .Or (a::b::rest) pos) (tOr tA tB'):=by
 intro wh pins s σ H Q I h
 refine isTrue_or (thn (ha pins s σ H _ I h) λc s1 ⟨H1,I1,q1⟩=>?_)
 cases c with
 | true=>exact ⟨H1,I1,q1⟩
 | false=>exact hb wh pins s1 σ H1 Q I1 q1
theorem fH (ha:PT X a tA):PT X (.UnaryOp .Not a pos) (pK tA):=by
 intro pins s σ H Q I h
 exact isTrue_not (ha pins s σ H (λc H1=>Q (!c) H1) I h)
def akJ (ta tb:TE):TE:=λσ H Q=>ta σ H λx H1=>∃ c,x=.bl c/\if c=true then tb σ H1 Q else Q (.bl false) H1
def amM (ta tb:TE):TE:=λσ H Q=>ta σ H λx H1=>∃ c,x=.bl c/\if c=true then Q (.bl true) H1 else tb σ H1 Q
def apd (ta:TE):TE:=λσ H Q=>ta σ H λx H1=>∃ c,x=.bl c/\Q (.bl (!c)) H1
theorem ahi {op} {t:TE} (h:PE X a t):PE X (.BoolOp op [a] pos) t:=λpins s σ H Q I hw=>BoolOp_one (h pins s σ H Q I hw)
theorem aoX (ha:PE X a ta) (hb:PE X (.BoolOp .And (b::rest) pos) tb):PE X (.BoolOp .And (a::b::rest) pos) (akJ ta tb):=by
 intro pins s σ H Q I h
 refine BoolOp_and (thn (ha pins s σ H _ I h) λv s1 ⟨x,H1,I1,r1,q1⟩=>?_)
 obtain ⟨c,rfl,q1⟩:=q1
 cases r1
 refine wpAny_truthy_bool ?_
 cases c with
 | true=>exact hb pins s1 σ H1 Q I1 q1
 | false=>exact ⟨.bl false,H1,I1,rfl,q1⟩
theorem anM (ha:PE X a ta) (hb:PE X (.BoolOp .Or (b::rest) pos) tb):PE X (.BoolOp .Or (a::b::rest) pos) (amM ta tb):=by
 intro pins s σ H Q I h
 refine BoolOp_or (thn (ha pins s σ H _ I h) λv s1 ⟨x,H1,I1,r1,q1⟩=>?_)
 obtain ⟨c,rfl,q1⟩:=q1
 cases r1
 refine wpAny_truthy_bool ?_
 cases c with
 | false=>exact hb pins s1 σ H1 Q I1 q1
 | true=>exact ⟨.bl true,H1,I1,rfl,q1⟩
def tIf (t:TT) (ta tb:TE):TE:=λσ H Q=>t σ H λc H1=>if c=true then ta σ H1 Q else tb σ H1 Q
theorem Fb {c:Expr} (hc:PT X c tA) (ha:PE X a ta) (hb:PE X b tb):PE X (.IfExp c a b pos) (tIf tA ta tb):=by
 intro pins s σ H Q I h
 refine wpAny_IfExp (thn (hc pins s σ H _ I h) λd s1 ⟨H1,I1,q1⟩=>?_)
 cases d with
 | true=>exact ha pins s1 σ H1 Q I1 q1
 | false=>exact hb pins s1 σ H1 Q I1 q1
end
end L2
namespace L2
open PySem PySem.Spec PyProof.Rows
def SqL (K:W.Frag) (H:Hp) (a:Addr) (xs:List V):Prop:=
 Rd H a (.lst xs) \/
  ∃ (o:Obj) (its:Array Value) (n:Nat),K.lookup a=some o/\o.cls=.type "list"/\o.dict=none/\o.data=.seq its n/\its.size<=sizeLine/\Vals xs its.toList
def SqT (K:W.Frag) (H:Hp) (a:Addr) (xs:List V):Prop:=
 Rd H a (.tup xs) \/
  ∃ (o:Obj) (its:Array Value) (n:Nat),K.lookup a=some o/\o.cls=.type "tuple"/\o.data=.seq its n/\its.size<=sizeLine/\Vals xs its.toList
def apI:Value->Option V
 | .none=>some .non
 | .bool b=>some (.bl b)
 | .int i _=>some (.int i)
 | .str x _=>some (.str x)
 | .bytes b _=>some (.byt b)
 | .float b _=>some (.flt b)
 | .ref a=>some (.ref a)
 | .type n=>some (.ty n)
 | _=>none
theorem RelV.abs {x:V} {u:Value} (r:RelV x u):apI u=some x:=by
 cases x with
 | non=>cases r;rfl
 | bl _=>cases r;rfl
 | int _=>obtain ⟨t,rfl⟩:=r;rfl
 | str _=>obtain ⟨t,rfl⟩:=r;rfl
 | byt _=>obtain ⟨t,rfl⟩:=r;rfl
 | flt _=>obtain ⟨t,rfl⟩:=r;rfl
 | ref _=>cases r;rfl
 | ty _=>cases r;rfl
theorem RelV.inj {x y:V} {u:Value} (r:RelV x u) (q:RelV y u):x=y:=Option.some.inj (r.abs.symm.trans q.abs)
theorem Vals.inj:∀ {xs ys:List V} {us:List Value},Vals xs us->Vals ys us->xs=ys
 | _,_,_,.nil,.nil=>rfl
 | _,_,_,.cons r t,.cons r' t'=>by rw [r.inj r',Vals.inj t t']
section
variable {X:Cx} {pins:List (Addr×Obj)} {σ:St} {H:Hp} {s:Shared} {a:Addr} {xs ys:List V}
theorem SqL.of {K:W.Frag} (h:H a=some (.lst xs)):SqL K H a xs:=.inl (.inl h)
theorem SqT.of {K:W.Frag} (h:H a=some (.tup xs)):SqT K H a xs:=.inl (.inl h)
theorem Inv.list (I:Inv X pins σ H s) (h:SqL X.K H a xs):∃ its:List Value,Vals xs its/\PlainL s.heap a its.toArray/\xs.length<=sizeLine:=by
 rcases h with h | ⟨o,its,n,hk,hc,hd,hs,hz,r⟩
 ·obtain ⟨z,its,n,r,e⟩:=h.ok I.hok
  exact ⟨its,r,⟨_,n,e,rfl,rfl,rfl⟩,z⟩
 ·refine ⟨its.toList,r,⟨o,n,I.kIn a o hk,hc,hd,by simpa using hs⟩,?_⟩
  have e:=r.length
  simp only [Array.length_toList] at e
  omega
theorem Inv.tuple (I:Inv X pins σ H s) (h:SqT X.K H a xs):∃ its:List Value,Vals xs its/\IsTup s.heap a its.toArray/\xs.length<=sizeLine:=by
 rcases h with h | ⟨o,its,n,hk,hc,hs,hz,r⟩
 ·obtain ⟨z,its,r,p⟩:=h.ok I.hok
  exact ⟨its,r,p,z⟩
 ·refine ⟨its.toList,r,⟨o,I.kIn a o hk,hc,n,by simpa using hs⟩,?_⟩
  have e:=r.length
  simp only [Array.length_toList] at e
  omega
theorem Inv.VA (I:Inv X pins σ H s) (h:SqL X.K H a xs) (h':SqL X.K H a ys):xs=ys:=by
 obtain ⟨its,r,⟨o,n,e,_,_,d⟩,_⟩:=I.list h
 obtain ⟨its',r',⟨o',n',e',_,_,d'⟩,_⟩:=I.list h'
 rw [e] at e';cases e'
 rw [d] at d'
 injection d' with d1 _
 have:its=its':=by simpa using congrArg Array.toList d1
 subst this
 exact r.inj r'
end
abbrev Cx.VV (X:Cx) (E:Value->Shared->Prop):Cx:={ X with xe:=E }
abbrev Cx.nox (X:Cx):Cx:=X.VV λ_ _=>False
theorem Cx.Ok.VV {X:Cx} (ok:X.Ok) (E:Value->Shared->Prop):(X.VV E).Ok:=
 ⟨ok.mod,ok.kind,ok.glob,ok.blt,ok.above,ok.inj,ok.has,ok.cab,ok.hd,ok.frames,ok.stk,ok.exf,ok.bs,ok.bsz,ok.ak3,ok.alj,ok.Ra,ok.frf⟩
theorem Cx.Ok.F6 {X:Cx} {E:Value->Shared->Prop} (ok:(X.VV E).Ok):X.Ok:=
 ⟨ok.mod,ok.kind,ok.glob,ok.blt,ok.above,ok.inj,ok.has,ok.cab,ok.hd,ok.frames,ok.stk,ok.exf,ok.bs,ok.bsz,ok.ak3,ok.alj,ok.Ra,ok.frf⟩
section
variable {X:Cx} {pins:List (Addr×Obj)} {σ:St} {H:Hp} {s:Shared} {E:Value->Shared->Prop}
theorem Inv.VV (I:Inv X pins σ H s) (E:Value->Shared->Prop):Inv (X.VV E) pins σ H s:=⟨I.ok.VV E,I.os,I.bare,I.base,I.loc,I.cell,I.free,I.AL,I.pin,I.hok,I.len⟩
theorem Inv.F6 (I:Inv (X.VV E) pins σ H s):Inv X pins σ H s:=⟨I.ok.F6,I.os,I.bare,I.base,I.loc,I.cell,I.free,I.AL,I.pin,I.hok,I.len⟩
theorem SP.F6 {D:Ends} {f:Flow} {s':Shared} (h:SP (X.VV E) pins D f s'):SP X pins D f s':=by
 cases f with
 | next=>obtain ⟨σ',H',I,q⟩:=h;exact ⟨σ',H',I.F6,q⟩
 | brk=>obtain ⟨σ',H',I,q⟩:=h;exact ⟨σ',H',I.F6,q⟩
 | cont=>obtain ⟨σ',H',I,q⟩:=h;exact ⟨σ',H',I.F6,q⟩
 | ret u=>obtain ⟨v,σ',H',I,r,q⟩:=h;exact ⟨v,σ',H',I.F6,r,q⟩
theorem PSs.nox {st:List Stmt} {t:TS} (h:PSs X.nox st t):PSs X st t:=λpins s σ H D I hw=>
 wpAny_mono (h pins s σ H D (I.VV _) hw) (λ_ _ q=>q.F6) λ_ _ z=>False.elim z
end
section
variable {X:Cx} {st:Stmt} {rest:List Stmt} {t u:TS} {e:Expr} {te:TE} {pos:Pos}
def bL:TS:=λD σ H=>D.nx σ H
def aK (t u:TS):TS:=λD σ H=>t { D with nx:=u D } σ H
theorem aY:PSs X [] bL:=λ_ _ σ H _ I h=>wpAny_execs_nil ⟨σ,H,I,h⟩
theorem ai (h1:PS X st t) (h2:PSs X rest u):PSs X (st::rest) (aK t u):=by
 intro pins s σ H D I h
 refine wpAny_execs_cons (thn (h1 pins s σ H { D with nx:=u D } I h) λf s1 q=>?_)
 cases f with
 | next=>
  obtain ⟨σ',H',I',q⟩:=q
  exact h2 pins s1 σ' H' D I' q
 | ret v=>exact q
 | brk=>exact q
 | cont=>exact q
theorem au (h1:PS X st t):PSs X [st] t:=by
 intro pins s σ H D I h
 refine wpAny_execs_cons (thn (h1 pins s σ H D I h) λf s1 q=>?_)
 cases f with
 | next=>exact wpAny_execs_nil q
 | ret v=>exact q
 | brk=>exact q
 | cont=>exact q
def VE:TS:=λD σ H=>D.bk σ H
def ahV:TS:=λD σ H=>D.ct σ H
theorem ad2:PS X (.Break pos) VE:=λ_ _ σ H _ I h=>wpAny_Break ⟨σ,H,I,h⟩
theorem PY:PS X (.Continue pos) ahV:=λ_ _ σ H _ I h=>wpAny_Continue ⟨σ,H,I,h⟩
theorem Inv.quiet {pins:List (Addr×Obj)} {σ:St} {H:Hp} {s:Shared} (I:Inv X pins σ H s):interactive X.env=false:=by simp [interactive,I.ok.kind]
def fT (te:TE):TS:=λD σ H=>te σ H λ_ H1=>D.nx σ H1
theorem cO (he:PE X e te) (hs:swapsWith e none pos.line X.env=pure false:=by rfl):PS X (.Expr e pos) (fT te):=by
 intro pins s σ H D I h
 exact wpAny_Expr_any (thn (he pins s σ H _ I h) λv s1 ⟨x,H1,I1,r1,q1⟩=>⟨σ,H1,I1,q1⟩) I.quiet hs
def bG (te:TE):TS:=λD σ H=>te σ H D.rt
theorem aM (he:PE X e te):PS X (.Return (some e) pos) (bG te):=by
 intro pins s σ H D I h
 exact wpAny_Return_some (thn (he pins s σ H _ I h) λv s1 ⟨x,H1,I1,r1,q1⟩=>⟨x,σ,H1,I1,r1,q1⟩)
def akg:TS:=λD _ H=>D.rt .non H
theorem al6:PS X (.Return none pos) akg:=λ_ _ σ H _ I h=>wpAny_Return_none ⟨.non,σ,H,I,rfl,h⟩
def cP (c:TT) (t u:TS):TS:=λD σ H=>c σ H λb H1=>if b=true then t D σ H1 else u D σ H1
theorem bK {c:Expr} {a b:List Stmt} {tc:TT} (hc:PT X c tc) (ha:PSs X a t) (hb:PSs X b u):PS X (.If c a b pos) (cP tc t u):=by
 intro pins s σ H D I h
 refine wpAny_If (thn (hc pins s σ H _ I h) λd s1 ⟨H1,I1,q1⟩=>?_)
 cases d with
 | true=>exact ha pins s1 σ H1 D I1 q1
 | false=>exact hb pins s1 σ H1 D I1 q1
end
abbrev TG:=V->St->Hp->(St->Hp->Prop)->Prop
abbrev TGs:=List V->St->Hp->(St->Hp->Prop)->Prop
def PG (X:Cx) (target:Expr) (t:TG):Prop:=
 ∀ (pins:List (Addr×Obj)) (s:Shared) (σ:St) (H:Hp) (v:V) (u:Value) (Q:St->Hp->Prop),Inv X pins σ H s->RelV v u->t v σ H Q ->
  wpAny (model X.prog X.w) X.A (assign target X.env u) (λ_ s'=>∃ σ' H',Inv X pins σ' H' s'/\Q σ' H') X.xe s
def PGs (X:Cx) (ts:List Expr) (t:TGs):Prop:=
 ∀ (pins:List (Addr×Obj)) (s:Shared) (σ:St) (H:Hp) (vs:List V) (us:List Value) (Q:St->Hp->Prop),Inv X pins σ H s->Vals vs us->t vs σ H Q ->
  wpAny (model X.prog X.w) X.A (assignInOrder ((assignEach ts X.env).map (·.2)) us) (λ_ s'=>∃ σ' H',Inv X pins σ' H' s'/\Q σ' H') X.xe s
abbrev akC:=V->V->V->Hp->(Hp->Prop)->Prop
def aor (X:Cx) (t:akC):Prop:=
 ∀ (pins:List (Addr×Obj)) (s:Shared) (σ:St) (H:Hp) (o i v:V) (ov iv u:Value) (Q:Hp->Prop),Inv X pins σ H s->RelV o ov->RelV i iv->RelV v u->t o i v H Q ->
  wpAny (model X.prog X.w) X.A (setItem ov iv u) (λ_ s'=>∃ H',Inv X pins σ H' s'/\Q H') X.xe s
abbrev TIp:=V->V->Hp->VK->Prop
def PIp (X:Cx) (op:Operator) (t:TIp):Prop:=
 ∀ (pins:List (Addr×Obj)) (s:Shared) (σ:St) (H:Hp) (x y:V) (v u:Value) (Q:VK),Inv X pins σ H s->RelV x v->RelV y u->t x y H Q ->
  wpAny (model X.prog X.w) X.A (inplaceOp op v u) (EP X pins σ Q) X.xe s
section
variable {X:Cx} {pos:Pos}
def aX (i:Nat):TG:=λv σ H Q=>Q (σ.set i (some v)) H
theorem bT {i:Nat} {x:Str} (hN:X.N.Nodup) (hi:X.N[i]?=some x) (hx:Loc X.env.scope x) (hf:X.fn x=true\/X.env.scope.names.lookup x=some .local:=by first | exact .inl rfl | exact .inr rfl | assumption):PG X (.Name x pos) (aX i):=by
 intro pins s σ H v u Q I r h
 exact wpAny_assign_Name (Su I hN hi hx r (λs' I'=>⟨_,H,I',h⟩) hf)
def abo:TGs:=λvs σ H Q=>vs=[]/\Q σ H
def wI (t:TG) (u:TGs):TGs:=λvs σ H Q=>∃ v r,vs=v::r/\t v σ H λσ' H'=>u r σ' H' Q
theorem Nu:PGs X [] abo:=by
 intro pins s σ H vs us Q I r h
 obtain ⟨e,h⟩:=h
 subst e
 cases r
 exact assignInOrder_nil ⟨σ,H,I,h⟩
theorem kH {e:Expr} {es:List Expr} {t:TG} {u:TGs} (h1:PG X e t) (h2:PGs X es u)
  (hs:(assignEach (e::es) X.env).map (·.2)=assign e X.env::(assignEach es X.env).map (·.2):=by rfl):PGs X (e::es) (wI t u):=by
 intro pins s σ H vs us Q I r h
 obtain ⟨v,vr,e1,h⟩:=h
 subst e1
 cases r with
 | cons r rr=>
  rw [hs]
  refine assignInOrder_cons (thn (h1 pins s σ H _ _ _ I r h) λ_ s1 ⟨σ1,H1,I1,q1⟩=>?_)
  exact h2 pins s1 σ1 H1 _ _ Q I1 rr q1
def ael (K:W.Frag) (n:Nat) (t:TGs):TG:=λv σ H Q=>∃ a xs,v=.ref a/\SqT K H a xs/\xs.length=n/\t xs σ H Q
theorem UD {es:List Expr} {k:Nat} {t:TGs} {n:Nat} (hc:X.calm=true) (h:PGs X es t)
  (hn:(assignEach es X.env).length=n:=by rfl) (hst:(assignEach es X.env).findIdx? (·.1)=none:=by rfl):PG X (.Tuple es k pos) (ael X.K n t):=by
 intro pins s σ H v u Q I r hw
 obtain ⟨a,xs,e1,hq,hl,hw⟩:=hw
 subst e1
 cases r
 obtain ⟨its,rv,ht,hz⟩:=I.tuple hq
 refine assign_Tuple_tuple (I.ok.hd hc) ht (by simp [hn,<-hl,rv.length]) hst λh' hx=>?_
 have I1:Inv X pins σ H { s with heap:=h' }:=I.kept (t':=s.toks) λb o e=>hx b o (Nat.ne_of_lt (Heap.lt_size e)) e
 exact h pins _ σ H xs _ Q I1 (by simpa using rv) hw
def YA (to ti:TE) (t:akC):TG:=λv σ H Q=>to σ H λo H1=>ti σ H1 λi H2=>t o i v H2 λH3=>Q σ H3
theorem aa4 {o i:Expr} {to ti:TE} {t:akC} (ho:PE X o to) (hi:PE X i ti) (hs:aor X t)
  (ha:∀ v,assign (.Subscript o i pos) X.env v=(do
   let ov <-holding [v] (eval o X.env)
   let iv <-holding [v,ov] (eval i X.env)
   standAt pos
   holding [v,ov,iv] (setItem ov iv v)
   release [v,ov,iv] []):=by intro _;rfl):PG X (.Subscript o i pos) (YA to ti t):=by
 intro pins s σ H v u Q I r h
 rw [ha]
 refine wpAny_bind (wpAny_holding (thn (ho pins s σ H _ I h) λov s1 ⟨x,H1,I1,r1,q1⟩=>?_))
 refine wpAny_bind (wpAny_holding (thn (hi pins s1 σ H1 _ I1 q1) λiv s2 ⟨y,H2,I2,r2,q2⟩=>?_))
 refine wpAny_bind (wpAny_standAt (wpAny_bind (wpAny_holding (thn (hs pins s2 σ H2 x y v ov iv u _ I2 r1 r2 r q2) λ_ s3 ⟨H3,I3,q3⟩=>?_))))
 exact wpAny_release ⟨σ,H3,I3,q3⟩
def c5 (te:TE) (g:TG):TS:=λD σ H=>te σ H λx H1=>g x σ H1 D.nx
theorem YC {tg e:Expr} {te:TE} {g:TG} (he:PE X e te) (hg:PG X tg g) (hs:swapsWithSole [tg] e pos.line X.env=pure false:=by rfl) (hw:swappedStores [tg] e X.env=pure none:=by rfl)
  (h1:(assignEach [tg] X.env).map (·.2)=[assign tg X.env]:=by rfl):PS X (.Assign [tg] e pos) (c5 te g):=by
 intro pins s σ H D I h
 refine wpAny_Assign_stores (thn (he pins s σ H _ I h) λv s1 ⟨x,H1,I1,r1,q1⟩=>?_) hs hw
 rw [h1]
 exact thn (hg pins s1 σ H1 x v _ I1 r1 q1) λ_ s2 q=>q
theorem bE {i:Nat} {x:Str} {e:Expr} {te:TE} {pos':Pos} (hN:X.N.Nodup) (hi:X.N[i]?=some x) (hx:Loc X.env.scope x) (he:PE X e te) (hs:swapsWith e (some (.Name x pos')) pos.line X.env=pure false:=by rfl) (hf:X.fn x=true\/X.env.scope.names.lookup x=some .local:=by first | exact .inl rfl | exact .inr rfl | assumption) :
  PS X (.Assign [.Name x pos'] e pos) (c5 te (aX i)):=by
 intro pins s σ H D I h
 refine wpAny_Assign_Name (thn (he pins s σ H _ I h) λv s1 ⟨y,H1,I1,r1,q1⟩=>?_) hs
 exact Su I1 hN hi hx r1 (λs2 I2=>⟨_,H1,I2,q1⟩) hf
def QU (i:Nat) (te:TE) (ti:TIp):TS:=λD σ H=>∃ x,σ[i]?=some (some x)/\te σ H λy H1=>ti x y H1 λz H2=>D.nx (σ.set i (some z)) H2
theorem Fq {i:Nat} {x:Str} {e:Expr} {te:TE} {op:Operator} {ti:TIp} {pos':Pos} (hN:X.N.Nodup) (hi:X.N[i]?=some x) (hx:Loc X.env.scope x) (he:PE X e te) (ho:PIp X op ti) (hf:X.fn x=true\/X.env.scope.names.lookup x=some .local:=by first | exact .inl rfl | exact .inr rfl | assumption) :
  PS X (.AugAssign (.Name x pos') op e pos) (QU i te ti):=by
 intro pins s σ H D I h
 obtain ⟨v,e1,h⟩:=h
 obtain ⟨m,hn,hl⟩:=I.loc
 have vis:Vis X.env.scope x:=by rcases hx with k | k;exact .inl k;exact .inr (.inl k)
 obtain ⟨u,r,l⟩:=hl i x v hi e1 vis
 refine wpAny_AugAssign_Name ?_
 have go:wpAny (model X.prog X.w) X.A (eval e X.env) (λw s₂=>wpAny (model X.prog X.w) X.A (inplaceOp op u w) (λr s₃=>wpAny (model X.prog X.w) X.A (storeName X.env x r) (λ_=>SP X pins D .next) X.xe s₃) X.xe s₂) X.xe s:=by
  refine thn (he pins s σ H _ I h) λw s1 ⟨y,H1,I1,r1,q1⟩=>?_
  refine thn (ho pins s1 σ H1 v y u w _ I1 r r1 q1) λz s2 ⟨zv,H2,I2,r2,q2⟩=>?_
  exact Su I2 hN hi hx r2 (λs3 I3=>⟨_,H2,I3,q2⟩) hf
 rcases l with ⟨hk,hm⟩ | ⟨hk,c,hc,hcell⟩
 ·exact wpAny_loadName_local I.ok.kind hk hn hm go
 ·rcases hk with hk | hk
  ·exact wpAny_loadName_cell I.ok.kind hk hc hcell go
  ·rcases hx with k | k
   ·have:X.env.scope.names.lookup x=some .free:=hk
    rw [k] at this;cases this
   ·have:X.env.scope.names.lookup x=some .free:=hk
    rw [k] at this;cases this
def aki (to ti te:TE) (tget:V->V->Hp->VK->Prop) (tip:TIp) (tset:akC):TS:=λD σ H=>to σ H λo H1=>ti σ H1 λi H2=>tget o i H2 λx H3=>te σ H3 λy H4=>tip x y H4 λz H5=>tset o i z H5 λH6=>D.nx σ H6
def ao4 (X:Cx) (t:V->V->Hp->VK->Prop):Prop:=
 ∀ (pins:List (Addr×Obj)) (s:Shared) (σ:St) (H:Hp) (o i:V) (ov iv:Value) (Q:VK),Inv X pins σ H s->RelV o ov->RelV i iv->t o i H Q ->
  wpAny (model X.prog X.w) X.A (getItem ov iv) (EP X pins σ Q) X.xe s
theorem al1 {o i e:Expr} {to ti te:TE} {tget:V->V->Hp->VK->Prop} {tip:TIp} {tset:akC} {op:Operator} {tpos:Pos} (ho:PE X o to) (hi:PE X i ti) (hg:ao4 X tget) (he:PE X e te) (hp:PIp X op tip) (hs:aor X tset)
  (ha:∀ ov iv new,augStore i ov iv new=(do holding [new,ov,iv] (setItem ov iv new);release [new,ov,iv] [];pure .next):=by intros;rfl):PS X (.AugAssign (.Subscript o i tpos) op e pos) (aki to ti te tget tip tset):=by
 intro pins s σ H D I h
 refine wpAny_AugAssign_SubscriptAny (thn (ho pins s σ H _ I h) λov s1 ⟨x1,H1,I1,r1,q1⟩=>?_) ha
 refine thn (hi pins s1 σ H1 _ I1 q1) λiv s2 ⟨x2,H2,I2,r2,q2⟩=>?_
 refine thn (hg pins s2 σ H2 x1 x2 ov iv _ I2 r1 r2 q2) λold s3 ⟨x3,H3,I3,r3,q3⟩=>?_
 refine thn (he pins s3 σ H3 _ I3 q3) λv s4 ⟨x4,H4,I4,r4,q4⟩=>?_
 refine thn (hp pins s4 σ H4 x3 x4 old v _ I4 r3 r4 q4) λnew s5 ⟨x5,H5,I5,r5,q5⟩=>?_
 exact thn (hs pins s5 σ H5 x1 x2 x5 ov iv new _ I5 r1 r2 r5 q5) λ_ s6 ⟨H6,I6,q6⟩=>⟨σ,H6,I6,q6⟩
def ipI (f:Int->Int->Int):TIp:=λx y H Q=>∃ i j,x=.int i/\y=.int j/\Q (.int (f i j)) H
theorem alS:PIp X .Add (ipI λi j=>i+j):=by
 intro pins s σ H x y v u Q I r1 r2 h
 obtain ⟨i,j,e1,e2,q⟩:=h
 subst e1;subst e2
 obtain ⟨t,rfl⟩:=r1
 obtain ⟨t',rfl⟩:=r2
 exact iadd_int ⟨.int _,H,I.tok _,⟨_,rfl⟩,q⟩
theorem aoh:PIp X .Sub (ipI λi j=>i - j):=by
 intro pins s σ H x y v u Q I r1 r2 h
 obtain ⟨i,j,e1,e2,q⟩:=h
 subst e1;subst e2
 obtain ⟨t,rfl⟩:=r1
 obtain ⟨t',rfl⟩:=r2
 exact isub_int ⟨.int _,H,I.tok _,⟨_,rfl⟩,q⟩
end
section
variable {X:Cx} {pos:Pos}
def GZ (c:TT) (tb:TS):TS:=λD σ H=>∃ W:Nat->St->Hp->Prop,(∃ m,W m σ H)/\∀ m σ H,W m σ H ->
 c σ H λb H1=>if b=true then ∃ N:St->Hp->Prop,(∀ σ' H',N σ' H'->∃ m',m' < m/\W m' σ' H')/\tb { D with nx:=N,ct:=N,bk:=D.nx } σ H1 else D.nx σ H1
theorem wQ {c:Expr} {body:List Stmt} {tc:TT} {tb:TS} (hp:PassesOwn (model X.prog X.w) X.A X.env X.xe) (hc:PT X c tc) (hb:PSs X body tb):PS X (.While c body [] pos) (GZ tc tb):=by
 intro pins s σ H D I h
 obtain ⟨W,⟨m0,w0⟩,turn⟩:=h
 refine wpAny_While (codeAny_whileLoop (λn s'=>∃ σ' H',Inv X pins σ' H' s'/\W n σ' H') ?_ m0 ⟨σ,H,I,w0⟩)
 rintro n s1 ⟨σ1,H1,I1,w1⟩
 refine wpAny_passesOwn hp (thn (hc pins s1 σ1 H1 _ I1 (turn n σ1 H1 w1)) λb s2 ⟨H2,I2,q2⟩=>?_)
 cases b with
 | true=>
  obtain ⟨N,hN,q2⟩:=q2
  rw [if_pos rfl]
  refine wpAny_passesOwn hp (thn (hb pins s2 σ1 H2 _ I2 q2) λf s3 q3=>?_)
  cases f with
  | next=>
   obtain ⟨σ3,H3,I3,n3⟩:=q3
   obtain ⟨m',hm,w3⟩:=hN σ3 H3 n3
   exact ⟨m',hm,σ3,H3,I3,w3⟩
  | cont=>
   obtain ⟨σ3,H3,I3,n3⟩:=q3
   obtain ⟨m',hm,w3⟩:=hN σ3 H3 n3
   exact ⟨m',hm,σ3,H3,I3,w3⟩
  | brk=>exact q3
  | ret v=>exact q3
 | false=>
  rw [if_neg Bool.false_ne_true]
  exact wpAny_execs_nil ⟨σ1,H2,I2,q2⟩
end
structure It where
 go:Nat->Hp->Prop
 yld:Nat->Hp->V->Hp->Prop
 stop:Nat->Hp->Prop
def Ud (X:Cx) (pins:List (Addr×Obj)) (H:Hp) (b:Addr):Prop:=
 H b=none/\b≠X.env.locals/\b∉X.fs/\(b∈X.ex\/X.s₀.heap.objs.size<=b)/\(∀ x c,X.env.cells.lookup x=some c->c≠b)/\∀ p∈X.pn++pins,p.1≠b
theorem Inv.amI {X:Cx} {pins:List (Addr×Obj)} {σ:St} {H H':Hp} {s:Shared} {b:Addr} (I:Inv X pins σ H s) (hb:s.heap.objs.size<=b) (hn:H' b=none):Ud X pins H' b:=by
 refine ⟨hn,Nat.ne_of_gt (Nat.lt_of_lt_of_le I.lt hb),I.apE hb,.inr (Nat.le_trans I.sz hb),λx c e z=>?_,λp hp z=>?_⟩
 ·obtain ⟨v,q⟩:=I.cell x c e
  exact absurd (Nat.lt_of_lt_of_le q.lt (by rw [z];exact hb)) (Nat.lt_irrefl _)
 ·exact absurd (Nat.lt_of_lt_of_le (Heap.lt_size (I.pin p hp).1) (by rw [z];exact hb)) (Nat.lt_irrefl _)
structure Turn (P:Program) (w:World) (K:W.Frag) (tg:Expr) (J:It) (fp:List Addr) (it:Addr) (tn:Nat->Heap->Prop):Prop where
 mem:it∈fp
 obj:∀ i h,tn i h->∀ b∈fp,∃ o,h.get? b=some o/\∀ v,o.data≠.cell v
 keep:∀ i h h',tn i h->(∀ b∈fp,∀ o,h.get? b=some o->h'.get? b=some o)->tn i h'
 item:∀ (X:Cx),X.prog=P->X.w=w->X.K=K->X.calm=true->∀ (i:Nat) (pins:List (Addr×Obj)) (s:Shared) (σ:St) (H:Hp) (E:Value->Shared->Prop),Inv X pins σ H s->(∀ b∈fp,Ud X pins H b)->tn i s.heap->J.go i H ->
  wpAny (model P w) X.A (pyNext (.ref it)) (λr s1=>∃ u,r=some u /\
   wpAny (model P w) X.A (letOwnedTupleGo tg (.ref it) u) (λ_ s2=>∃ x H',Inv X pins σ H' s2/\RelV x u/\J.yld i H x H'/\tn (i+1) s2.heap/\∀ b∈fp,H' b=none) E s1) E s
 done:∀ (X:Cx),X.prog=P->X.w=w->X.K=K->X.calm=true->∀ (i:Nat) (pins:List (Addr×Obj)) (s:Shared) (σ:St) (H:Hp) (E:Value->Shared->Prop),Inv X pins σ H s->(∀ b∈fp,Ud X pins H b)->tn i s.heap->J.stop i H ->
  wpAny (model P w) X.A (pyNext (.ref it)) (λr s1=>r=none/\Inv X pins σ H s1) E s
 self:∀ (A:Around) (i:Nat) (s:Shared) (Q:Value->Shared->Prop) (E:Value->Shared->Prop),tn i s.heap->Q (.ref it) s->wpAny (model P w) A (pyIter (.ref it)) Q E s
abbrev TI:=St->Hp->(It->Hp->Prop)->Prop
def PIE (X:Cx) (pins:List (Addr×Obj)) (σ:St) (tg:Expr) (R:It->Hp->Prop) (itv:Value) (s2:Shared):Prop:=
 ∃ (it:Addr) (fp:List Addr) (tn:Nat->Heap->Prop) (J:It) (H':Hp),itv=.ref it/\Inv X pins σ H' s2/\Turn X.prog X.w X.K tg J fp it tn/\tn 0 s2.heap/\(∀ b∈fp,Ud X pins H' b)/\R J H'
def PI (X:Cx) (tg iter:Expr) (wi:TI):Prop:=
 ∀ (pins:List (Addr×Obj)) (s:Shared) (σ:St) (H:Hp) (R:It->Hp->Prop),Inv X pins σ H s->wi σ H R ->
  wpAny (model X.prog X.w) X.A (eval iter X.env) (λv s1=>wpAny (model X.prog X.w) X.A (pyIter v) (PIE X pins σ tg R) X.xe s1) X.xe s
theorem aem {M:Model} {A:Around} {E:Value->Shared->Prop} {s:Shared} {tg:Expr} {it:Addr} {u:Value} {o:Obj} {n:String} {vs:Array Value} {Q:Unit->Shared->Prop} (ho:s.heap.get? it=some o) (hc:o.cls=.type n) (hd:o.data=.fields vs)
    (hn:["enumerate","zip","dict_itemiterator","dict_reverseitemiterator","odict_iterator","itertools.zip_longest","itertools.pairwise"].contains n=false) (hQ:Q () s):wpAny M A (letOwnedTupleGo tg (.ref it) u) Q E s:=by
  unfold letOwnedTupleGo
  cases tg<;>first
    | exact wpAny_pure hQ
    | (cases u<;>first
        | exact wpAny_pure hQ
        | (refine wpAny_bind (wpAny_load ho ?_)
           rw [hc,hd]
           show wpAny M A (if (["enumerate","zip","dict_itemiterator","dict_reverseitemiterator","odict_iterator","itertools.zip_longest","itertools.pairwise"].contains n&&vs[0]?==some (rawInt _))=true then _ else _) Q E s
           rw [if_neg (by intro h;rw [hn,Bool.false_and] at h;cases h)]
           exact wpAny_pure hQ))
def Itl (K:W.Frag) (a:Addr):It:=
 ⟨λi H=>∃ xs x,SqL K H a xs/\xs[i]?=some x,λi H x H'=>H'=H/\∀ xs,SqL K H a xs->xs[i]?=some x,λi H=>∃ xs,SqL K H a xs/\xs.length<=i⟩
def Itr (lo:Int) (n:Nat):It:=⟨λi _=>i < n,λi H x H'=>H'=H/\x=.int (lo+i),λi _=>n<=i⟩
theorem aiu {P:Program} {w:World} {K:W.Frag} {tg:Expr} (a it:Addr):Turn P w K tg (Itl K a) [it] it (λi h=>h.IsListIter it a i) where
 mem:=by simp
 obj:=λi h st b hb=>by
  have e:b=it:=by simpa using hb
  subst e
  obtain ⟨o,e,c,d⟩:=st
  exact ⟨o,e,λv z=>by rw [d] at z;cases z⟩
 keep:=λi h h' st k=>st.at λo e=>k it (by simp) o e
 item:=by
  intro X hP hw hK hc i pins s σ H E I hf st hg
  subst hP hw hK
  obtain ⟨xs,x,hq,hx⟩:=hg
  obtain ⟨its,rv,p,hz⟩:=I.list hq
  obtain ⟨u,hu,ru⟩:=rv.get hx
  obtain ⟨f0,f1,f2,f3,f4,f5⟩:=hf it (by simp)
  refine wpAny_pyNext_list_item st p.isList (x:=u) (by simpa using hu) λh' st' sb=>?_
  have I1:Inv X pins σ H { s with heap:=h' }:=I.turned (t':=s.toks) (λb o hb e=>(sb.2 b hb).trans e) f0 f1 f3 f4 f5
  obtain ⟨o,e,c,d⟩:=id st'
  exact ⟨u,rfl,aem (s:={ s with heap:=h' }) e c d (by decide) ⟨x,H,I1,ru,⟨rfl,λys hy=>by rw [I.VA hy hq];exact hx⟩,st',λb hb=>(hf b hb).1⟩⟩
 done:=by
  intro X hP hw hK hc i pins s σ H E I hf st hg
  subst hP hw hK
  obtain ⟨xs,hq,hx⟩:=hg
  obtain ⟨its,rv,p,hz⟩:=I.list hq
  obtain ⟨f0,f1,f2,f3,f4,f5⟩:=hf it (by simp)
  have hl:=rv.length
  exact wpAny_pyNext_list_end (I.ok.hd hc) st p.isList (by simp;omega) λh' eb=>⟨rfl,I.turned (t':=s.toks) (λb o hb e=>eb b o hb e) f0 f1 f3 f4 f5⟩
 self:=λ_ _ _ _ _ st h=>wpAny_pyIter_listiter st h
theorem an8 {P:Program} {w:World} {K:W.Frag} {tg:Expr} (it:Addr) (lo:Int) (n:Nat):Turn P w K tg (Itr lo n) [it] it (λi h=>IsRangeIter h it (lo+(i:Nat) * 1) ((n:Int) - (i:Nat)) 1) where
 mem:=by simp
 obj:=λi h st b hb=>by
  have e:b=it:=by simpa using hb
  subst e
  exact ⟨_,st,λv z=>by
   have z':Data.fields _=Data.cell v:=z
   cases z'⟩
 keep:=λi h h' st k=>k it (by simp) _ st
 item:=by
  intro X hP hw hK hc i pins s σ H E I hf st hg
  subst hP hw hK
  obtain ⟨f0,f1,f2,f3,f4,f5⟩:=hf it (by simp)
  have W:=Walks.range (prog:=X.prog) (w:=X.w) (I.ok.hd hc) it lo 1 n
  refine W.item i s _ _ hg st λv h' tk hv st' kk=>?_
  obtain ⟨t,rfl⟩:=hv
  have I1:Inv X pins σ H { s with heap:=h',toks:=tk }:=I.turned (λb o hb e=>kk b o (by simpa using hb) e) f0 f1 f3 f4 f5
  refine ⟨_,rfl,aem (s:={ s with heap:=h',toks:=tk }) (n:="range_iterator") st' rfl rfl (by decide) ⟨.int (lo+i),H,I1,⟨t,?_⟩,⟨rfl,rfl⟩,st',λb hb=>(hf b hb).1⟩⟩
  rw [Int.mul_one]
 done:=by
  intro X hP hw hK hc i pins s σ H E I hf st hg
  subst hP hw hK
  obtain ⟨f0,f1,f2,f3,f4,f5⟩:=hf it (by simp)
  exact wpAny_pyNext_range_end (I.ok.hd hc) st (by have:n<=i:=hg;omega) λh' eb=>⟨rfl,I.turned (t':=s.toks) (λb o hb e=>eb b o hb e) f0 f1 f3 f4 f5⟩
 self:=λ_ _ _ _ _ st h=>wpAny_pyIter_rangeiter st h
end L2
namespace L2
open PySem PySem.Spec PyProof.Rows
section
variable {X:Cx} {tg:Expr}
def jn (K:W.Frag) (tl:TE):TI:=λσ H R=>tl σ H λx H1=>∃ a,x=.ref a/\(∃ xs,SqL K H1 a xs)/\R (Itl K a) H1
theorem dI {l:Expr} {tl:TE} (hl:PE X l tl):PI X tg l (jn X.K tl):=by
 intro pins s σ H R I h
 refine thn (hl pins s σ H _ I h) λv s1 ⟨x,H1,I1,r1,q1⟩=>?_
 obtain ⟨a,e,⟨xs,hq⟩,q⟩:=q1
 subst e
 cases r1
 obtain ⟨its,rv,p,hz⟩:=I1.list hq
 refine wpAny_pyIter_list p.isList ?_
 refine ⟨s1.heap.objs.size,[s1.heap.objs.size],_,_,H1,rfl,I1.kept (t':=s1.toks) λb o e=>Heap.get?_push_of_some _ e,aiu a _,⟨_,Heap.get?_push_size _ rfl,rfl,rfl⟩,λb hb=>?_,q⟩
 have e:b=s1.heap.objs.size:=by simpa using hb
 subst e
 exact I1.amI (Nat.le_refl _) (I1.hok.fresh (Nat.le_refl _))
def apj (ta:TA):TI:=λσ H R=>ta σ H λvs H1=>∃ j:Int,vs=[.int j]/\-(2 ^ 62)<=j/\j < 2 ^ 62/\R (Itr 0 j.toNat) H1
def apa (ta:TA):TI:=λσ H R=>ta σ H λvs H1=>∃ i j:Int,vs=[.int i,.int j]/\(-(2 ^ 62)<=i/\i < 2 ^ 62/\-(2 ^ 62)<=j/\j < 2 ^ 62)/\R (Itr i (j - i).toNat) H1
def uA (wi:TI) (g:TG) (tb:TS):TS:=λD σ H=>wi σ H λJ H1=>∃ W:Nat->Nat->St->Hp->Prop,(∃ m,W 0 m σ H1)/\∀ i m σ H,W i m σ H ->
 (J.stop i H/\D.nx σ H)\/(J.go i H/\∃ N:St->Hp->Prop,(∀ σ' H',N σ' H'->∃ m',m' < m/\W (i+1) m' σ' H')/\∀ x H',J.yld i H x H'->g x σ H' λσ2 H2=>tb { D with nx:=N,ct:=N,bk:=D.nx } σ2 H2)
def T5 (fp:List Addr) (h:Heap):List (Addr×Obj):=fp.filterMap λb=>(h.get? b).map λo=>(b,o)
theorem Kz {fp:List Addr} {h:Heap} {b:Addr} {o:Obj} (hb:b∈fp) (e:h.get? b=some o):(b,o)∈T5 fp h:=List.mem_filterMap.mpr ⟨b,hb,by rw [e];rfl⟩
theorem aiZ {fp:List Addr} {h:Heap} {p:Addr×Obj} (hp:p∈T5 fp h):p.1∈fp/\h.get? p.1=some p.2:=by
 obtain ⟨b,hb,e⟩:=List.mem_filterMap.mp hp
 cases q:h.get? b with
 | none=>rw [q] at e;cases e
 | some o=>
  rw [q] at e
  have e':(b,o)=p:=Option.some.inj e
  subst e'
  exact ⟨hb,q⟩
theorem Inv.pinned {pins:List (Addr×Obj)} {σ:St} {H:Hp} {s:Shared} {fp:List Addr} (I:Inv X pins σ H s) (hf:∀ b∈fp,Ud X pins H b) (ho:∀ b∈fp,∃ o,s.heap.get? b=some o/\∀ v,o.data≠.cell v):Inv X (pins++T5 fp s.heap) σ H s:=
 I.ahX λp hp=>(List.mem_append.mp hp).elim (λz=>I.pin p (List.mem_append_right _ z)) λz=>by
  obtain ⟨hb,e⟩:=aiZ z
  obtain ⟨f0,f1,f2,_⟩:=hf p.1 hb
  obtain ⟨o,e',d⟩:=ho p.1 hb
  rw [e] at e';cases e'
  exact ⟨e,f0,f1,f2,d⟩
theorem Inv.Nk {pins pl:List (Addr×Obj)} {σ:St} {H:Hp} {s:Shared} (I:Inv X (pins++pl) σ H s):Inv X pins σ H s:=I.ahX λp hp=>I.pin p (List.mem_append_right _ (List.mem_append_left _ hp))
theorem gU {iter:Expr} {body:List Stmt} {wi:TI} {g:TG} {tb:TS} {pos:Pos} (hp:PassesOwn (model X.prog X.w) X.A X.env X.xe) (hc:X.calm=true) (hi:PI X tg iter wi) (hg:PG X tg g) (hb:PSs X body tb)
  (hs:∀ x,foldedSetIterable iter X.env x=pure x:=by intro _;rfl):PS X (.For tg iter body [] pos) (uA wi g tb):=by
 intro pins s σ H D I h
 refine wpAny_For (thn (hi pins s σ H _ I h) λv s1 h1=>thn h1 λitv s2 h2=>?_) hs
 obtain ⟨it,fp,tn,J,H2,e,I2,T,st2,f2,W,⟨m0,w0⟩,turn⟩:=h2
 subst e
 have stat:∀ {H':Hp},(∀ b∈fp,H' b=none)->∀ b∈fp,Ud X pins H' b:=λhn b hb=>⟨hn b hb,(f2 b hb).2⟩
 refine codeAny_forLoop_any (λn s'=>∃ i σ' H',Inv X pins σ' H' s'/\tn i s'.heap/\(∀ b∈fp,H' b=none)/\W i n σ' H') ?_ m0 ⟨0,σ,H2,I2,st2,λb hb=>(f2 b hb).1,w0⟩
 rintro n s3 ⟨i,σ3,H3,I3,st3,fr3,w3⟩
 rcases turn i n σ3 H3 w3 with ⟨stop,qn⟩ | ⟨go,N,hN,step⟩
 ·refine wpAny_passesOwn hp (thn (T.done X rfl rfl rfl hc i pins s3 σ3 H3 X.xe I3 (stat fr3) st3 stop) λr s4 ⟨hr,I4⟩=>?_)
  subst hr
  exact wpAny_execs_nil ⟨σ3,H3,I4,qn⟩
 ·refine wpAny_passesOwn hp (thn (T.item X rfl rfl rfl hc i pins s3 σ3 H3 X.xe I3 (stat fr3) st3 go) λr s4 ⟨u,hr,h4⟩=>?_)
  subst hr
  refine wpAny_passesOwn hp (thn h4 λ_ s5 ⟨x,H5,I5,r5,y5,st5,fr5⟩=>?_)
  have I5':=I5.pinned (stat fr5) (T.obj _ _ st5)
  refine wpAny_passesOwn hp (thn (hg _ s5 σ3 H5 x u _ I5' r5 (step x H5 y5)) λ_ s6 ⟨σ6,H6,I6,q6⟩=>?_)
  refine wpAny_passesOwn hp (thn (hb _ s6 σ6 H6 _ I6 q6) λf s7 q7=>?_)
  have again:∀ {σ7:St} {H7:Hp},Inv X (pins++T5 fp s5.heap) σ7 H7 s7->N σ7 H7->∃ m,m < n/\∃ i σ' H',Inv X pins σ' H' s7/\tn i s7.heap/\(∀ b∈fp,H' b=none)/\W i m σ' H':=λ{σ7 H7} I7 n7=>by
   obtain ⟨m',hm,w7⟩:=hN σ7 H7 n7
   refine ⟨m',hm,i+1,σ7,H7,I7.Nk,T.keep _ _ _ st5 λb hb o e=>(I7.pin (b,o) (List.mem_append_right _ (List.mem_append_right _ (Kz hb e)))).1,λb hb=>?_,w7⟩
   obtain ⟨o,e,d⟩:=T.obj _ _ st5 b hb
   exact (I7.pin (b,o) (List.mem_append_right _ (List.mem_append_right _ (Kz hb e)))).2.1
  cases f with
  | next=>obtain ⟨σ7,H7,I7,n7⟩:=q7;exact again I7 n7
  | cont=>obtain ⟨σ7,H7,I7,n7⟩:=q7;exact again I7 n7
  | brk=>obtain ⟨σ7,H7,I7,q7⟩:=q7;exact ⟨σ7,H7,I7.Nk,q7⟩
  | ret v=>obtain ⟨x7,σ7,H7,I7,r7,q7⟩:=q7;exact ⟨x7,σ7,H7,I7.Nk,r7,q7⟩
end
end L2
namespace L2
open PySem PySem.Spec PyProof.Rows
abbrev R2:=V->V->Hp->VK->Prop
def OpR (X:Cx) (f:Value->Value->Sem Value) (r:R2):Prop:=
 ∀ (pins:List (Addr×Obj)) (s:Shared) (σ:St) (H:Hp) (x y:V) (v u:Value) (Q:VK),Inv X pins σ H s->RelV x v->RelV y u->r x y H Q ->
  wpAny (model X.prog X.w) X.A (f v u) (EP X pins σ Q) X.xe s
def UnR (X:Cx) (f:Value->Sem Value) (r:V->Hp->VK->Prop):Prop:=
 ∀ (pins:List (Addr×Obj)) (s:Shared) (σ:St) (H:Hp) (x:V) (v:Value) (Q:VK),Inv X pins σ H s->RelV x v->r x H Q ->
  wpAny (model X.prog X.w) X.A (f v) (EP X pins σ Q) X.xe s
def afJ (X:Cx) (f:Value) (r:List V->Hp->VK->Prop):Prop:=
 ∀ (pins:List (Addr×Obj)) (s:Shared) (σ:St) (H:Hp) (xs:List V) (us:List Value) (Q:VK),Inv X pins σ H s->Vals xs us->r xs H Q ->
  wpAny (model X.prog X.w) X.A (call f us) (EP X pins σ Q) X.xe s
def apG (X:Cx) (r:V->Hp->(Bool->Hp->Prop)->Prop):Prop:=
 ∀ (pins:List (Addr×Obj)) (s:Shared) (σ:St) (H:Hp) (x:V) (v:Value) (Q:Bool->Hp->Prop),Inv X pins σ H s->RelV x v->r x H Q ->
  wpAny (model X.prog X.w) X.A (truthy v) (TP X pins σ Q) X.xe s
def tOp (r:R2) (ta tb:TE):TE:=λσ H Q=>ta σ H λx H1=>tb σ H1 λy H2=>r x y H2 Q
def tUn (r:V->Hp->VK->Prop) (ta:TE):TE:=λσ H Q=>ta σ H λx H1=>r x H1 Q
def rI (C:Int->Int->Prop) (g:Int->Int->V):R2:=λx y H Q=>∃ i j,x=.int i/\y=.int j/\C i j/\Q (g i j) H
def rI0 (g:Int->Int->V):R2:=λx y H Q=>∃ i j,x=.int i/\y=.int j/\Q (g i j) H
def rU (g:Int->V):V->Hp->VK->Prop:=λx H Q=>∃ i,x=.int i/\Q (g i) H
section
variable {X:Cx} {a b c:Expr} {ta tb tc:TE} {pos:Pos}
theorem aoi (ha:PE X a ta) (hb:PE X b tb) {pins:List (Addr×Obj)} {s:Shared} {σ:St} {H:Hp} {R:V->V->Hp->Prop} (I:Inv X pins σ H s)
  (h:ta σ H λx H1=>tb σ H1 λy H2=>R x y H2) {Q:Value->Shared->Prop} {f:Value->Value->Sem Value}
  (hf:∀ v u s2 x y H2,Inv X pins σ H2 s2->RelV x v->RelV y u->R x y H2->wpAny (model X.prog X.w) X.A (f v u) Q X.xe s2) :
  wpAny (model X.prog X.w) X.A (eval a X.env) (λv s₁=>wpAny (model X.prog X.w) X.A (eval b X.env) (λu s₂=>wpAny (model X.prog X.w) X.A (f v u) Q X.xe s₂) X.xe s₁) X.xe s:=by
 refine thn (ha pins s σ H _ I h) λv s1 ⟨x,H1,I1,r1,q1⟩=>?_
 refine thn (hb pins s1 σ H1 _ I1 q1) λu s2 ⟨y,H2,I2,r2,q2⟩=>?_
 exact hf v u s2 x y H2 I2 r1 r2 q2
theorem cS {op:Operator} {r:R2} (ho:OpR X (binaryOp op) r) (ha:PE X a ta) (hb:PE X b tb):PE X (.BinOp a op b pos) (tOp r ta tb):=by
 intro pins s σ H Q I h
 exact wpAny_BinOp (aoi ha hb I h λv u s2 x y H2 I2 rx ry q=>ho pins s2 σ H2 x y v u Q I2 rx ry q)
theorem Jf {op:UnaryOp} {r:V->Hp->VK->Prop} (ho:UnR X (unaryOp op) r) (ha:PE X a ta):PE X (.UnaryOp op a pos) (tUn r ta):=by
 intro pins s σ H Q I h
 exact UnaryOp_ (thn (ha pins s σ H _ I h) λv s1 ⟨x,H1,I1,r1,q1⟩=>ho pins s1 σ H1 x v Q I1 r1 q1)
theorem opI {f:Value->Value->Sem Value} {C:Int->Int->Prop} {g:Int->Int->Int}
  (rule:∀ (i j:Int) (t u:Tok) (s:Shared) (Q:Value->Shared->Prop) (E:Value->Shared->Prop),C i j->Q (.int (g i j) s.toks) { s with toks:=s.toks+1 }->wpAny (model X.prog X.w) X.A (f (.int i t) (.int j u)) Q E s) :
  OpR X f (rI C λi j=>.int (g i j)):=by
 intro pins s σ H x y v u Q I rx ry h
 obtain ⟨i,j,rfl,rfl,hc,q⟩:=h
 obtain ⟨t,rfl⟩:=rx
 obtain ⟨t',rfl⟩:=ry
 exact rule i j t t' s _ _ hc ⟨.int (g i j),H,I.tok _,⟨_,rfl⟩,q⟩
theorem amY {f:Value->Value->Sem Value} {g:Int->Int->Int}
  (rule:∀ (i j:Int) (t u:Tok) (s:Shared) (Q:Value->Shared->Prop) (E:Value->Shared->Prop),Q (.int (g i j) s.toks) { s with toks:=s.toks+1 }->wpAny (model X.prog X.w) X.A (f (.int i t) (.int j u)) Q E s) :
  OpR X f (rI0 λi j=>.int (g i j)):=by
 intro pins s σ H x y v u Q I rx ry h
 obtain ⟨i,j,rfl,rfl,q⟩:=h
 obtain ⟨t,rfl⟩:=rx
 obtain ⟨t',rfl⟩:=ry
 exact rule i j t t' s _ _ ⟨.int (g i j),H,I.tok _,⟨_,rfl⟩,q⟩
theorem amV {f:Value->Value->Sem Value} {g:Int->Int->Bool}
  (rule:∀ (i j:Int) (t u:Tok) (s:Shared) (Q:Value->Shared->Prop) (E:Value->Shared->Prop),Q (.bool (g i j)) s->wpAny (model X.prog X.w) X.A (f (.int i t) (.int j u)) Q E s) :
  OpR X f (rI0 λi j=>.bl (g i j)):=by
 intro pins s σ H x y v u Q I rx ry h
 obtain ⟨i,j,rfl,rfl,q⟩:=h
 obtain ⟨t,rfl⟩:=rx
 obtain ⟨t',rfl⟩:=ry
 exact rule i j t t' s _ _ ⟨.bl (g i j),H,I,rfl,q⟩
def anQ (i j:Int):Prop:=0<=j/\j<=1000000/\i.natAbs < 2 ^ 64
theorem Cs:OpR X (binaryOp .Add) (rI0 λi j=>.int (i+j)):=amY λ_ _ _ _ _ _ _ q=>add_int q
theorem Gu:OpR X (binaryOp .Sub) (rI0 λi j=>.int (i - j)):=amY λ_ _ _ _ _ _ _ q=>sub_int q
theorem aoE:OpR X (binaryOp .Mod) (rI (λ_ j=>0 < j) λi j=>.int (i % j)):=opI λi j _ _ _ _ _ hc q=>by
 have h1:(0:Int) < j:=hc
 exact mod_int' (by omega) (by rw [Int.fmod_eq_emod_of_nonneg i (by omega)];exact q)
theorem aou:OpR X (binaryOp .LShift) (rI anQ λi j=>.int (i * 2 ^ j.toNat)):=opI λ_ _ _ _ _ _ _ hc q=>lshift_int_small hc.1 hc.2.1 hc.2.2 q
theorem gQ:OpR X (binaryOp .BitAnd) (rI0 λi j=>.int (Builtin.bitAnd i j)):=amY λ_ _ _ _ _ _ _ q=>and_int q
theorem ahP:OpR X (binaryOp .BitOr) (rI0 λi j=>.int (Builtin.bitOr i j)):=amY λ_ _ _ _ _ _ _ q=>or_int q
theorem unI {f:Value->Sem Value} {g:Int->Int}
  (rule:∀ (i:Int) (t:Tok) (s:Shared) (Q:Value->Shared->Prop) (E:Value->Shared->Prop),Q (.int (g i) s.toks) { s with toks:=s.toks+1 }->wpAny (model X.prog X.w) X.A (f (.int i t)) Q E s) :
  UnR X f (rU λi=>.int (g i)):=by
 intro pins s σ H x v Q I rx h
 obtain ⟨i,rfl,q⟩:=h
 obtain ⟨t,rfl⟩:=rx
 exact rule i t s _ _ ⟨.int (g i),H,I.tok _,⟨_,rfl⟩,q⟩
theorem aaj:UnR X (unaryOp .USub) (rU λi=>.int (-i)):=unI λ_ _ _ _ _ q=>neg_int q
theorem O0:UnR X (unaryOp .Invert) (rU λi=>.int (Builtin.bitNot i)):=unI λ_ _ _ _ _ q=>invert_int q
end
def anz:V->V->Bool
 | .non,.non=>true | .non,.int _=>true | .int _,.non=>true | .non,.bl _=>true | .bl _,.non=>true | .non,.str _=>true | .str _,.non=>true
 | .int _,.int _=>true | .bl _,.bl _=>true | .str _,.str _=>true | .byt _,.byt _=>true
 | .int _,.str _=>true | .str _,.int _=>true | .bl _,.str _=>true | .str _,.bl _=>true
 | _,_=>false
def rEq:R2:=λx y H Q=>anz x y=true/\Q (.bl (decide (x=y))) H
def rNe:R2:=λx y H Q=>anz x y=true/\Q (.bl (!decide (x=y))) H
theorem aic {i j:Int}:decide (V.int i=V.int j)=(i==j):=by
 rw [Bool.eq_iff_iff]
 simp
theorem ajV {i j:Bool}:decide (V.bl i=V.bl j)=(i==j):=by
 rw [Bool.eq_iff_iff]
 simp
theorem ahR {i j:Str}:decide (V.str i=V.str j)=(i==j):=by
 rw [Bool.eq_iff_iff]
 simp
theorem aih {i j:Array UInt8}:decide (V.byt i=V.byt j)=(i.toList==j.toList):=by
 rw [Bool.eq_iff_iff]
 cases i
 cases j
 simp
section
variable {X:Cx} {a b c:Expr} {ta tb tc:TE} {pos:Pos}
theorem dN {pins:List (Addr×Obj)} {σ:St} {H:Hp} {s:Shared} {Q:VK} {k k':Bool} (I:Inv X pins σ H s) (q:Q (.bl k) H) (e:k=k'):EP X pins σ Q (.bool k') s:=by
 subst e
 exact ⟨.bl k,H,I,rfl,q⟩
theorem cG:OpR X (compareOp .Eq) rEq:=by
 intro pins s σ H x y v u Q I rx ry h
 obtain ⟨hs,q⟩:=h
 cases x with
 | non=>
  cases rx
  cases y with
  | non=>cases ry;exact PySem.EqNone.eq_none_none (dN I q (by simp))
  | bl j=>cases ry;exact PySem.EqNone.eq_none_bool (dN I q (by simp))
  | int j=>obtain ⟨t',rfl⟩:=ry;exact PySem.EqNone.eq_none_int (dN I q (by simp))
  | str j=>obtain ⟨t',rfl⟩:=ry;exact PySem.EqNone.eq_none_str (dN I q (by simp))
  | _=>exact absurd (show false=true from hs) Bool.false_ne_true
 | bl i=>
  cases rx
  cases y with
  | non=>cases ry;exact PySem.EqNone.eq_bool_none (dN I q (by simp))
  | bl j=>cases ry;exact eq_bool (dN I q ajV)
  | str j=>obtain ⟨t',rfl⟩:=ry;exact PySem.EqMixed.eq_bool_str (dN I q (by simp))
  | _=>exact absurd (show false=true from hs) Bool.false_ne_true
 | int i=>
  obtain ⟨t,rfl⟩:=rx
  cases y with
  | non=>cases ry;exact PySem.EqNone.eq_int_none (dN I q (by simp))
  | int j=>obtain ⟨t',rfl⟩:=ry;exact eq_int (dN I q aic)
  | str j=>obtain ⟨t',rfl⟩:=ry;exact PySem.EqMixed.eq_int_str (dN I q (by simp))
  | _=>exact absurd (show false=true from hs) Bool.false_ne_true
 | str i=>
  obtain ⟨t,rfl⟩:=rx
  cases y with
  | non=>cases ry;exact PySem.EqNone.eq_str_none (dN I q (by simp))
  | bl j=>cases ry;exact PySem.EqMixed.eq_str_bool (dN I q (by simp))
  | int j=>obtain ⟨t',rfl⟩:=ry;exact PySem.EqMixed.eq_str_int (dN I q (by simp))
  | str j=>obtain ⟨t',rfl⟩:=ry;exact eq_str (dN I q ahR)
  | _=>exact absurd (show false=true from hs) Bool.false_ne_true
 | byt i=>
  obtain ⟨t,rfl⟩:=rx
  cases y with
  | byt j=>obtain ⟨t',rfl⟩:=ry;exact PySem.W.eq_bytes (dN I q aih)
  | _=>exact absurd (show false=true from hs) Bool.false_ne_true
 | _=>cases y<;>exact absurd (show false=true from hs) Bool.false_ne_true
theorem nM:OpR X (compareOp .NotEq) rNe:=by
 intro pins s σ H x y v u Q I rx ry h
 obtain ⟨hs,q⟩:=h
 cases x with
 | non=>
  cases rx
  cases y with
  | non=>cases ry;exact PySem.EqNone.ne_none_none (dN I q (by simp))
  | bl j=>cases ry;exact PySem.EqNone.ne_none_bool (dN I q (by simp))
  | int j=>obtain ⟨t',rfl⟩:=ry;exact PySem.EqNone.ne_none_int (dN I q (by simp))
  | str j=>obtain ⟨t',rfl⟩:=ry;exact PySem.EqNone.ne_none_str (dN I q (by simp))
  | _=>exact absurd (show false=true from hs) Bool.false_ne_true
 | bl i=>
  cases rx
  cases y with
  | non=>cases ry;exact PySem.EqNone.ne_bool_none (dN I q (by simp))
  | bl j=>cases ry;exact ne_bool (dN I q (congrArg not ajV))
  | str j=>obtain ⟨t',rfl⟩:=ry;exact PySem.EqMixed.ne_bool_str (dN I q (by simp))
  | _=>exact absurd (show false=true from hs) Bool.false_ne_true
 | int i=>
  obtain ⟨t,rfl⟩:=rx
  cases y with
  | non=>cases ry;exact PySem.EqNone.ne_int_none (dN I q (by simp))
  | int j=>obtain ⟨t',rfl⟩:=ry;exact ne_int (dN I q (congrArg not aic))
  | str j=>obtain ⟨t',rfl⟩:=ry;exact PySem.EqMixed.ne_int_str (dN I q (by simp))
  | _=>exact absurd (show false=true from hs) Bool.false_ne_true
 | str i=>
  obtain ⟨t,rfl⟩:=rx
  cases y with
  | non=>cases ry;exact PySem.EqNone.ne_str_none (dN I q (by simp))
  | bl j=>cases ry;exact PySem.EqMixed.ne_str_bool (dN I q (by simp))
  | int j=>obtain ⟨t',rfl⟩:=ry;exact PySem.EqMixed.ne_str_int (dN I q (by simp))
  | str j=>obtain ⟨t',rfl⟩:=ry;exact ne_str (dN I q (congrArg not ahR))
  | _=>exact absurd (show false=true from hs) Bool.false_ne_true
 | byt i=>
  obtain ⟨t,rfl⟩:=rx
  cases y with
  | byt j=>obtain ⟨t',rfl⟩:=ry;exact PySem.W.ne_bytes (dN I q (congrArg not aih))
  | _=>exact absurd (show false=true from hs) Bool.false_ne_true
 | _=>cases y<;>exact absurd (show false=true from hs) Bool.false_ne_true
theorem aeV:OpR X (compareOp .Lt) (rI0 λi j=>.bl (decide (i < j))):=amV λ_ _ _ _ _ _ _ q=>lt_int q
theorem pP:OpR X (compareOp .LtE) (rI0 λi j=>.bl (decide (i<=j))):=amV λ_ _ _ _ _ _ _ q=>le_int q
theorem anL:OpR X (compareOp .Gt) (rI0 λi j=>.bl (decide (j < i))):=amV λ_ _ _ _ _ _ _ q=>gt_int q
theorem anH:OpR X (compareOp .GtE) (rI0 λi j=>.bl (decide (j<=i))):=amV λ_ _ _ _ _ _ _ q=>ge_int q
theorem aZ (b:Expr) {op:CmpOp} (h:op≠.In:=by decide) (h2:op≠.NotIn:=by decide):behindInMarks op b=false:=by
 have e1:(op==CmpOp.In)=false:=by cases op<;>first | rfl | exact absurd rfl h
 have e2:(op==CmpOp.NotIn)=false:=by cases op<;>first | rfl | exact absurd rfl h2
 cases b<;>simp [behindInMarks,e1,e2]
theorem rM {op:CmpOp} {r:R2} (ho:OpR X (compareOp op) r) (ha:PE X a ta) (hb:PE X b tb) (hm:behindInMarks op b=false):PE X (.Compare a [op] [b] pos) (tOp r ta tb):=by
 intro pins s σ H Q I h
 exact wpAny_Compare1 (aoi ha hb I h λv u s2 x y H2 I2 rx ry q=>ho pins s2 σ H2 x y v u Q I2 rx ry q) hm
def bw (t:TE):TT:=λσ H Q=>t σ H λx H'=>∃ k,x=.bl k/\Q k H'
theorem aU {op:CmpOp} {r:R2} (ho:OpR X (compareOp op) r) (ha:PE X a ta) (hb:PE X b tb) (hm:behindInMarks op b=false):PT X (.Compare a [op] [b] pos) (bw (tOp r ta tb)):=by
 intro pins s σ H Q I h
 refine wpAny_isTrue_Compare1 (thn (ha pins s σ H _ I h) λv s1 ⟨x,H1,I1,r1,q1⟩=>thn (hb pins s1 σ H1 _ I1 q1) λu s2 ⟨y,H2,I2,r2,q2⟩=>
  thn (ho pins s2 σ H2 x y v u _ I2 r1 r2 q2) λc s3 ⟨z,H3,I3,r3,k,e,q3⟩=>?_) hm
 subst e
 cases r3
 exact wpAny_truthy_bool ⟨H3,I3,q3⟩
def oS (r r':R2) (ta tb tc:TE):TE:=λσ H Q=>ta σ H λx H1=>tb σ H1 λy H2=>r x y H2 λz H3=>∃ k,z=.bl k /\
 (if k=true then tc σ H3 λw' H4=>r' y w' H4 Q else Q (.bl false) H3)
theorem FA {op op':CmpOp} {r r':R2} (ho:OpR X (compareOp op) r) (ho':OpR X (compareOp op') r') (ha:PE X a ta) (hb:PE X b tb) (hc:PE X c tc)
  (hm:lastMarks [op,op'] [b,c]=false:=by with_unfolding_all rfl):PE X (.Compare a [op,op'] [b,c] pos) (oS r r' ta tb tc):=by
 intro pins s σ H Q I h
 refine Compare_chain (thn (ha pins s σ H _ I h) λv s1 ⟨x,H1,I1,r1,q1⟩=>chain_link (thn (hb pins s1 σ H1 _ I1 q1) λu s2 ⟨y,H2,I2,r2,q2⟩=>
  thn (ho pins s2 σ H2 x y v u _ I2 r1 r2 q2) λd s3 ⟨z,H3,I3,r3,k,e,q3⟩=>?_)) hm
 subst e
 cases r3
 refine wpAny_truthy_bool ?_
 cases k with
 | false=>exact ite_ff ⟨.bl false,H3,I3,rfl,q3⟩
 | true=>exact ite_tt (chain_last (thn (hc pins s3 σ H3 _ I3 q3) λw' s4 ⟨z',H4,I4,r4,q4⟩=>ho' pins s4 σ H4 y z' u w' Q I4 r2 r4 q4))
theorem A9 {op op':CmpOp} {r r':R2} (ho:OpR X (compareOp op) r) (ho':OpR X (compareOp op') r') (ha:PE X a ta) (hb:PE X b tb) (hc:PE X c tc)
  (hm:lastMarks [op,op'] [b,c]=false:=by with_unfolding_all rfl):PT X (.Compare a [op,op'] [b,c] pos) (bw (oS r r' ta tb tc)):=by
 intro pins s σ H Q I h
 refine isTrue_chain (thn (ha pins s σ H _ I h) λv s1 ⟨x,H1,I1,r1,q1⟩=>test_link (thn (hb pins s1 σ H1 _ I1 q1) λu s2 ⟨y,H2,I2,r2,q2⟩=>
  thn (ho pins s2 σ H2 x y v u _ I2 r1 r2 q2) λd s3 ⟨z,H3,I3,r3,k,e,q3⟩=>?_)) hm
 subst e
 cases r3
 refine wpAny_truthy_bool ?_
 cases k with
 | false=>
  obtain ⟨k',e',q'⟩:=q3
  cases e'
  exact ite_ff ⟨H3,I3,q'⟩
 | true=>
  refine ite_tt (test_last (thn (hc pins s3 σ H3 _ I3 q3) λw' s4 ⟨z',H4,I4,r4,q4⟩=>thn (ho' pins s4 σ H4 y z' u w' _ I4 r2 r4 q4) λd' s5 ⟨z2,H5,I5,r5,k2,e2,q5⟩=>?_))
  subst e2
  cases r5
  exact wpAny_truthy_bool ⟨H5,I5,q5⟩
def akv (K:W.Frag) (x:V) (H:Hp) (k:Bool):Prop:=
 match x with
 | .non=>k=false
 | .bl b=>k=b
 | .int i=>k=(i != 0)
 | .str y=>y.length<=sizeLine/\k=((y.length:Int) != 0)
 | .byt y=>y.size<=sizeLine/\k=((y.size:Int) != 0)
 | .ref p=>(∃ xs,SqL K H p xs/\k=!xs.isEmpty)\/(∃ xs,SqT K H p xs/\k=!xs.isEmpty)\/∃ kvs,H p=some (.dK kvs)/\k=!kvs.isEmpty
 | _=>False
theorem agl {κ:Type} {kvs:List (κ×V)} {vs:List (κ×Value)} (r:KV kvs vs):(!vs.isEmpty)=!kvs.isEmpty:=by
 cases r<;>rfl
theorem Vq {xs:List V} {its:List Value} (r:Vals xs its):(!its.toArray.isEmpty)=!xs.isEmpty:=by
 cases r<;>simp
theorem U0:(sizeLine:Nat) < 2 ^ 63:=by rw [sizeLine_eq];decide
theorem aoO:apG X (λx H Q=>∃ k,akv X.K x H k/\Q k H):=by
 intro pins s σ H x v Q I rx h
 obtain ⟨k,e,q⟩:=h
 have hl:=U0
 have hs:sizeLine=16777216:=sizeLine_eq
 cases x with
 | non=>
  cases rx
  have e':k=false:=e
  subst e'
  exact truthy_none ⟨H,I,q⟩
 | bl b=>
  cases rx
  have e':k=b:=e
  subst e'
  exact wpAny_truthy_bool ⟨H,I,q⟩
 | int i=>
  obtain ⟨t,rfl⟩:=rx
  have e':k=(i != 0):=e
  subst e'
  exact PySem.P.truthy_int ⟨H,I,q⟩
 | str y=>
  obtain ⟨t,rfl⟩:=rx
  obtain ⟨hy,e'⟩:y.length<=sizeLine/\k=((y.length:Int) != 0):=e
  subst e'
  exact PySem.P.truthy_str (by omega) ⟨H,I.tok _,q⟩
 | byt y=>
  obtain ⟨t,rfl⟩:=rx
  obtain ⟨hy,e'⟩:y.size<=sizeLine/\k=((y.size:Int) != 0):=e
  subst e'
  exact PySem.W.truthy_bytes (by omega) ⟨H,I.tok _,q⟩
 | ref p=>
  cases rx
  have e':(∃ xs,SqL X.K H p xs/\k=!xs.isEmpty)\/(∃ xs,SqT X.K H p xs/\k=!xs.isEmpty)\/∃ kvs,H p=some (.dK kvs)/\k=!kvs.isEmpty:=e
  rcases e' with ⟨xs,hx,e'⟩ | ⟨xs,hx,e'⟩ | ⟨kvs,hx,e'⟩
  ·subst e'
   obtain ⟨its,r,pl,hz⟩:=I.list hx
   have hlen:=r.length
   exact wpAny_truthy_list pl.isList (by simp only [List.size_toArray];omega) ⟨H,I.tok _,by rw [Vq r];exact q⟩
  ·subst e'
   obtain ⟨its,r,pl,hz⟩:=I.tuple hx
   have hlen:=r.length
   exact truthy_tuple pl (by simp only [List.size_toArray];omega) ⟨H,I.tok _,by rw [Vq r];exact q⟩
  ·subst e'
   obtain ⟨hz,hS,vs,r,m⟩:kvs.length<=sizeLine/\(p==sysModules)=false/\∃ vs,KV kvs vs/\s.heap.DictOf (eF X.prog X.w) p vs:=I.hok p _ hx
   have hlen:kvs.length=vs.length:=Paired.length r
   exact wpAny_truthy_dict hS m (by omega) ⟨H,I.tok _,by rw [agl r];exact q⟩
 | _=>exact (show False from e).elim
theorem GA (ha:PE X a ta) (he:∀ whole,isTrue a X.env whole=(do let v <-whole;standAt a.pos;holding [v] (truthy v))) :
  PT X a (λσ H Q=>ta σ H λx H'=>∃ k,akv X.K x H' k/\Q k H'):=by
 intro pins s σ H Q I h
 exact isTrue_plain (thn (ha pins s σ H _ I h) λv s1 ⟨x,H1,I1,r1,q1⟩=>aoO pins s1 σ H1 x v Q I1 r1 q1) (he _)
theorem vals1 {x:V} {us:List Value} (r:Vals [x] us):∃ u,us=[u]/\RelV x u:=by
 cases r with
 | cons r1 r2=>cases r2;exact ⟨_,rfl,r1⟩
end
end L2
namespace L2
open PySem PySem.Spec PyProof.Rows
structure agX (h:Heap) (x dx C:Addr) (mA:Str->Option Value):Prop where
 obj:h.get? x=some (PySem.W.instObj C dx)
 ns:h.Ns1 dx mA
 ne:dx≠x
theorem aiA {h:Heap} {dx:Addr} {mA:Str->Option Value} (n:h.Ns1 dx mA):∃ od,h.get? dx=some od/\∀ name,PySem.W.lookIn name od=some (mA name):=by
 obtain ⟨o,es,ep,ho,hd,hk,_,hm⟩:=n
 refine ⟨o,ho,λname=>?_⟩
 have e:=hm name
 unfold nsFind findBy at e
 rw [<-Array.find?_toList] at e
 unfold PySem.W.lookIn
 rw [hd]
 dsimp only
 split
 ·rename_i y q
  rw [q] at e
  exact congrArg some e
 ·rename_i q
  rw [q] at e
  have a:es.toList.any (·.refKey)=false:=by
   rw [List.any_eq_false]
   intro y hy
   obtain ⟨z,t,hkey⟩:=hk y (Array.mem_toList_iff.mp hy)
   simp [DictEntry.refKey,hkey]
  have a':¬es.toList.any (·.refKey)=true:=by rw [a];exact Bool.false_ne_true
  rw [if_neg a']
  exact congrArg some e
theorem agX.look {h:Heap} {x dx C:Addr} {mA:Str->Option Value} (I:agX h x dx C mA):∃ od,PySem.W.InstAt h x (PySem.W.instObj C dx) C (some od)/\∀ name,PySem.W.lookIn name od=some (mA name):=
 let ⟨od,ho,hl⟩:=aiA I.ns
 ⟨od,⟨I.obj,rfl,rfl,ho⟩,hl⟩
section
variable {prog:Program} {w:World} {A:Around} {E:Value->Shared->Prop} {s:Shared} {K:W.Frag} {x dx C f:Addr} {mA:Str->Option Value} {name:Str} {v:Value}
theorem get_map {expr:Bool} {Q:Value->Shared->Prop} (X:K.In s.heap) (I:agX s.heap x dx C mA) (hg:PySem.W.plainGet K C name=true) (hh:PySem.W.hasDictIn K C=true)
  (ha:PySem.W.findIn K (.ref C) name=some none) (hv:mA name=some v) (hv':PySem.W.handedIn v=true) (h:Q v { s with toks:=s.toks+1 }) :
  wpAny (model prog w) A (getAttr (.ref x) name expr) Q E s:=by
 obtain ⟨od,J,hl⟩:=I.look
 exact PySem.W.get_value X J (PySem.W.plainGet_of hg).1 (PySem.W.findObj_own hh ha rfl (by rw [hl,hv])) hv' h
theorem ak8 {pl:Sem Bool} {Q:Value×List Value->Shared->Prop} (X:K.In s.heap) (I:agX s.heap x dx C mA) (hg:PySem.W.plainGet K C name=true)
  (hf:PySem.W.findIn K (.ref C) name=some (some (.ref f))) (ht:PySem.W.isFn K (.ref f)=true) (hv:mA name=none) (h:Q (.ref f,[.ref x]) s) :
  wpAny (model prog w) A (getMethod (.ref x) name pl) Q E s:=by
 obtain ⟨od,J,hl⟩:=I.look
 exact PySem.W.method_fn X J (PySem.W.plainGet_of hg).1 (PySem.W.plainGet_of hg).2 hf (beq_iff_eq.mp ht) (by show (PySem.W.lookIn name od).map (·.isSome)=some false;rw [hl,hv];rfl) h
theorem amn {ns:List Str} {Q:Unit->Shared->Prop} (X:K.In s.heap) (I:agX s.heap x dx C mA)
  (hs:PySem.W.findIn K (.ref C) "__setattr__"=some (some (.builtin "object.__setattr__"))) (hp:PySem.W.plainOver K C=true) (ht:PySem.W.takerIn K C name=some none) (hh:PySem.W.hasDictIn K C=true)
  (hw:PySem.Within mA ns) (hsz:ns.length<=sizeLine)
  (h:∀ h',agX h' x dx C (λy=>if y=name then some v else mA y)->Heap.SameBut dx s.heap h'->Q () { s with heap:=h',toks:=s.toks+2 }) :
  wpAny (model prog w) A (setAttr (.ref x) name v) Q E s:=by
 obtain ⟨od,J,hl⟩:=I.look
 refine PySem.W.set_plain X J hs (PySem.W.osa_open (s:={ s with toks:=s.toks+1 }) (r:=none) X J hp ht λb=>?_)
 obtain ⟨cd,hc,hd'⟩:=PySem.W.any_some hh
 have hx:s.heap.get? x=some ⟨.ref C,some dx,.plain,#[]⟩:=I.obj
 refine wpAny_bind (wpAny_pure (wpAny_bind (wpAny_bind (wpAny_loadPart hx (wpAny_bind (PySem.W.Looks.here (s:={ s with toks:=s.toks+1 }) (PySem.W.looks_clsIn X hc) ?_))))))
 rw [hd']
 refine wpAny_pure (a:=some dx) (wpAny_bind (wpAny_pure (wpAny_bind ?_)))
 refine wpAny_nsSet1 (s:={ s with toks:=s.toks+1 }) I.ns λh' hn2 hs2=>?_
 obtain ⟨oD,esD,epD,hoD,hdD,hcD⟩:=hn2.count (PySem.Within.cons name v hw)
 refine wpAny_bind (wpAny_lookBehind hoD (by rw [hdD];exact pastItsLine_dict (Nat.le_trans hcD (by rw [List.length_cons];omega))) ?_)
 exact wpAny_pure (h _ ⟨(hs2.2 _ (Ne.symm I.ne)).trans I.obj,hn2,I.ne⟩ hs2)
theorem akf {R:Result->Shared->Prop} {vs:List Value} {kw:List (Str×Value)} (X:K.In s.heap) (hm:PySem.W.makesIn K C=true)
  (hi:PySem.W.findIn K (.ref C) "__init__"=some (some (.ref f))) (hf:PySem.W.typeIn K (.ref f)=some (.type "function"))
  (h:codeAny (model prog w) (A.under (.builtin "type.__call__" ⟨.ref C::vs,kw⟩)) (.call (.ref f) ⟨.ref (s.heap.objs.size+1)::vs,kw⟩) (PySem.W.InitBack (s.heap.objs.size+1) R)
   { s with heap:=(s.heap.push PySem.W.emptyDict).push (PySem.W.instObj C s.heap.objs.size) }) :
  codeAny (model prog w) A (.call (.ref C) ⟨vs,kw⟩) R s:=by
 obtain ⟨hh,g,d,t,os⟩:=s
 exact PySem.W.make_core (PySem.W.makes_of X hm) (PySem.W.looks_findIn X hi) (λself=>PySem.W.bind_fn X self hf) (.inl rfl) h
end
def cj (f:Str) (v:V):List (Str×V)->List (Str×V)
 | []=>[(f,v)]
 | (g,x)::r=>if g=f then (g,v)::r else (g,x)::cj f v r
theorem QO (f g:Str) (v:V):∀ fs:List (Str×V),(cj f v fs).lookup g=if g=f then some v else fs.lookup g
 | []=>by
  show List.lookup g [(f,v)]=_
  by_cases h:g=f
  ·have hb:(g==f)=true:=beq_iff_eq.mpr h
   simp only [List.lookup,hb,if_pos h]
  ·have hb:(g==f)=false:=beq_eq_false_iff_ne.mpr h
   simp only [List.lookup,hb,if_neg h]
 | (k,x)::r=>by
  have ih:=QO f g v r
  rw [show cj f v ((k,x)::r)=(if k=f then (k,v)::r else (k,x)::cj f v r) from rfl]
  by_cases hk:k=f
  ·rw [if_pos hk]
   by_cases h:g=k
   ·have hb:(g==k)=true:=beq_iff_eq.mpr h
    simp only [List.lookup,hb,if_pos (h.trans hk)]
   ·have hb:(g==k)=false:=beq_eq_false_iff_ne.mpr h
    simp only [List.lookup,hb,if_neg (λe:g=f=>h (e.trans hk.symm))]
  ·rw [if_neg hk]
   by_cases h:g=k
   ·have hb:(g==k)=true:=beq_iff_eq.mpr h
    simp only [List.lookup,hb,if_neg (λe:g=f=>hk (h.symm.trans e))]
   ·have hb:(g==k)=false:=beq_eq_false_iff_ne.mpr h
    simp only [List.lookup,hb]
    exact ih
theorem OQ (f:Str) (v:V):∀ fs:List (Str×V),f∈(cj f v fs).map (·.1)/\∀ g,g∈fs.map (·.1)->g∈(cj f v fs).map (·.1)
 | []=>⟨by simp [cj],λg h=>by simp at h⟩
 | (k,x)::r=>by
  obtain ⟨i1,i2⟩:=OQ f v r
  rw [show cj f v ((k,x)::r)=(if k=f then (k,v)::r else (k,x)::cj f v r) from rfl]
  by_cases hk:k=f
  ·rw [if_pos hk]
   subst hk
   exact ⟨by simp,λg h=>by simpa using h⟩
  ·rw [if_neg hk]
   refine ⟨?_,λg h=>?_⟩
   ·rw [List.map_cons]
    exact List.mem_cons_of_mem _ i1
   ·rw [List.map_cons] at h ⊢
    rcases List.mem_cons.mp h with e | e
    ·exact List.mem_cons.mpr (.inl e)
    ·exact List.mem_cons_of_mem _ (i2 g e)
theorem O8 (f:Str) (v:V):∀ fs:List (Str×V),(cj f v fs).length<=fs.length+1
 | []=>by simp [cj]
 | (k,x)::r=>by
  have ih:=O8 f v r
  rw [show cj f v ((k,x)::r)=(if k=f then (k,v)::r else (k,x)::cj f v r) from rfl]
  by_cases hk:k=f
  ·rw [if_pos hk,List.length_cons,List.length_cons];omega
  ·rw [if_neg hk,List.length_cons,List.length_cons];omega
theorem Ho.some_of {v:V} {o:Option Value} (r:Ho (some v) o):∃ u,o=some u/\RelV v u:=by
 cases o with
 | none=>exact (show False from r).elim
 | some u=>exact ⟨u,rfl,r⟩
theorem Ho.none_of {o:Option Value} (r:Ho none o):o=none:=by
 cases o with
 | none=>rfl
 | some u=>exact (show False from r).elim
theorem aji {v:V} {u:Value} (r:RelV v u):PySem.W.handedIn u=true:=by
 cases v with
 | non=>cases (show u=Value.none from r);rfl
 | bl b=>cases (show u=Value.bool b from r);rfl
 | int i=>obtain ⟨t,e⟩:=(show ∃ t,u=Value.int i t from r);cases e;rfl
 | str x=>obtain ⟨t,e⟩:=(show ∃ t,u=Value.str x t from r);cases e;rfl
 | byt b=>obtain ⟨t,e⟩:=(show ∃ t,u=Value.bytes b t from r);cases e;rfl
 | flt b=>obtain ⟨t,e⟩:=(show ∃ t,u=Value.float b t from r);cases e;rfl
 | ref a=>cases (show u=Value.ref a from r);rfl
 | ty n=>cases (show u=Value.type n from r);rfl
section
variable {P:Program} {w:World} {H H':Hp} {h h':Heap} {a C dx:Addr} {fs fs':List (Str×V)}
theorem ZK (hok:HOk P w H h) (e:H a=some (.ins C dx fs)):∃ mA,agX h a dx C mA/\(∀ f,Ho (fs.lookup f) (mA f))/\PySem.Within mA (fs.map (·.1))/\fs.length<=1000/\H dx=some (.own a):=by
 obtain ⟨d,z,ne,ob,mA,n,r,q⟩:=(show jf P w H h a (.ins C dx fs) from hok a _ e)
 exact ⟨mA,⟨ob,n,ne⟩,r,q,z,d⟩
end
structure Cls (K:W.Frag) (C:Addr):Prop where
 pg:PySem.W.plainGet K C Str.empty=true
 hd:PySem.W.hasDictIn K C=true
 po:PySem.W.plainOver K C=true
 sa:PySem.W.findIn K (.ref C) "__setattr__"=some (some (.builtin "object.__setattr__"))
theorem Cls.get {K:W.Frag} {C:Addr} (c:Cls K C) (f:Str):PySem.W.plainGet K C f=true:=c.pg
def bN (K:W.Frag) (C:Addr) (f:Str):Prop:=PySem.W.findIn K (.ref C) f=some none
theorem bN.ao3 {K:W.Frag} {C:Addr} {f:Str} (n:bN K C f):PySem.W.takerIn K C f=some none:=by
 unfold PySem.W.takerIn
 rw [show PySem.W.findIn K (.ref C) f=some none from n]
 rfl
structure Meth (K:W.Frag) (C:Addr) (m:Str) (f:Addr):Prop where
 at_:PySem.W.findIn K (.ref C) m=some (some (.ref f))
 fn:PySem.W.isFn K (.ref f)=true
 kp:PySem.W.keepIn K (.ref f)=true
section
variable {X:Cx} {pins:List (Addr×Obj)} {σ:St} {H:Hp} {s:Shared} {a C dx:Addr} {fs:List (Str×V)} {f:Str} {v:V} {A:Around} {E:Value->Shared->Prop}
theorem Vz {b:Bool} {Q:Value->Shared->Prop} (I:Inv X pins σ H s) (e:H a=some (.ins C dx fs)) (c:Cls X.K C) (n:bN X.K C f) (l:fs.lookup f=some v)
  (h:∀ u s',Inv X pins σ H s'->RelV v u->Q u s'):wpAny (model X.prog X.w) A (getAttr (.ref a) f b) Q E s:=by
 obtain ⟨mA,O,r,_,_,_⟩:=ZK I.hok e
 obtain ⟨u,hu,ru⟩:=Ho.some_of (v:=v) (o:=mA f) (by rw [<-l];exact r f)
 exact get_map I.kIn O (c.get f) c.hd n hu (aji ru) (h u _ (I.tok _) ru)
theorem KY {m:Str} {g:Addr} {pl:Sem Bool} {Q:Value×List Value->Shared->Prop} (I:Inv X pins σ H s) (e:H a=some (.ins C dx fs)) (c:Cls X.K C) (k:Meth X.K C m g) (l:fs.lookup m=none)
  (h:Q (.ref g,[.ref a]) s):wpAny (model X.prog X.w) A (getMethod (.ref a) m pl) Q E s:=by
 obtain ⟨mA,O,r,_,_,_⟩:=ZK I.hok e
 have hn:mA m=none:=Ho.none_of (by rw [<-l];exact r m)
 exact ak8 I.kIn O (c.get m) k.at_ k.fn hn h
theorem Um {y:V} {u:Value} {Q:Unit->Shared->Prop} (I:Inv X pins σ H s) (e:H a=some (.ins C dx fs)) (c:Cls X.K C) (n:bN X.K C f) (hl:fs.length < 1000) (ry:RelV y u)
  (h:∀ s',Inv X pins σ (upd H a (.ins C dx (cj f y fs))) s'->Q () s'):wpAny (model X.prog X.w) A (setAttr (.ref a) f u) Q E s:=by
 obtain ⟨mA,O,r,wi,_,ho⟩:=ZK I.hok e
 have hz:(fs.map (·.1)).length<=sizeLine:=by rw [List.length_map,sizeLine_eq];omega
 refine amn I.kIn O c.sa c.po n.ao3 c.hd wi hz λh' O' sb=>h _ ?_
 have hd:∃ o,h'.get? dx=some o:=let ⟨o,_,_,e',_⟩:=O'.ns;⟨o,e'⟩
 refine I.write (x:=a) (e:=dx) (by rw [e];exact True.intro) (.inr ho) (λb q hb z=>(sb.2 b hb).trans z) hd ?_
 refine ⟨by rw [aq O.ne];exact ho,?_,O.ne,O'.obj,_,O'.ns,λg=>?_,λg hg=>?_⟩
 ·have:=O8 f y fs;omega
 ·show Ho ((cj f y fs).lookup g) (if g=f then some u else mA g)
  rw [QO]
  by_cases q:g=f
  ·rw [if_pos q,if_pos q];exact ry
  ·rw [if_neg q,if_neg q];exact r g
 ·by_cases q:g=f
  ·rw [q];exact (OQ f y fs).1
  ·refine (OQ f y fs).2 g (wi g λz=>hg ?_)
   show (if g=f then some u else mA g)=none
   rw [if_neg q];exact z
theorem Inv.made (I:Inv X pins σ H s):Inv X pins σ (upd (upd H s.heap.objs.size (.own (s.heap.objs.size+1))) (s.heap.objs.size+1) (.ins C s.heap.objs.size []))
  { s with heap:=(s.heap.push PySem.W.emptyDict).push (PySem.W.instObj C s.heap.objs.size) }:=by
 have e1:(s.heap.push PySem.W.emptyDict).get? s.heap.objs.size=some PySem.W.emptyDict:=Heap.get?_push_size s.heap rfl
 have e2:((s.heap.push PySem.W.emptyDict).push (PySem.W.instObj C s.heap.objs.size)).get? (s.heap.objs.size+1)=some (PySem.W.instObj C s.heap.objs.size):=by
  have:=Heap.get?_push_size (s.heap.push PySem.W.emptyDict) (o:=PySem.W.instObj C s.heap.objs.size) rfl
  rwa [Heap.size_push] at this
 have e3:(s.heap.push PySem.W.emptyDict).Ns s.heap.objs.size (λ_=>none):=⟨PySem.W.emptyDict,#[],_,e1,rfl,(λe he=>absurd he (by simp)),λ_=>rfl⟩
 have I1:=I.laid (a:=s.heap.objs.size) (o:=.own (s.heap.objs.size+1)) (h':=s.heap.push PySem.W.emptyDict) (t':=s.toks) (λb u q=>Heap.get?_push_of_some _ q) (Nat.le_refl _) ⟨_,e1⟩
 refine I1.laid (a:=s.heap.objs.size+1) (o:=.ins C s.heap.objs.size []) (t':=s.toks) (λb u q=>Heap.get?_push_of_some _ q) (Nat.le_of_eq (Heap.size_push _ _)) ?_
 have ne:s.heap.objs.size≠s.heap.objs.size+1:=Nat.ne_of_lt (Nat.lt_succ_self _)
 refine ⟨by rw [aq ne,ay],Nat.zero_le _,ne,e2,λ_=>none,(Heap.Ns1.of_empty e3).at λo q=>Heap.get?_push_of_some _ q,λ_=>True.intro,λy hy=>absurd rfl hy⟩
theorem ane {prog:Program} {w:World} {env:Env} {e:Expr} {f:Str} {pos:Pos} {s:Shared} {Q:Value->Shared->Prop} (hb:attributeBase e f env (eval e env)=eval e env)
  (h:wpAny (model prog w) A (eval e env) (λo s₁=>wpAny (model prog w) A (getAttr o f true) Q E s₁) E s):wpAny (model prog w) A (eval (.Attribute e f pos) env) Q E s:=
 Attribute_any_ h (by rw [arm_eval_Attribute,hb])
end
def aN (K:W.Frag) (ta:TE) (f:Str):TE:=λσ H Q=>ta σ H λx H1=>∃ a C dx fs v,x=.ref a/\H1 a=some (.ins C dx fs)/\Cls K C/\bN K C f/\fs.lookup f=some v/\Q v H1
def fm (K:W.Frag) (ta tv:TE) (f:Str):TS:=λD σ H=>tv σ H λy H1=>ta σ H1 λx H2=>∃ a C dx fs,x=.ref a/\H2 a=some (.ins C dx fs)/\Cls K C/\bN K C f/\fs.length < 1000 /\
 D.nx σ (upd H2 a (.ins C dx (cj f y fs)))
def apn (X:Cx) (op:Operator) (rd:V->V->Hp->VK->Prop):Prop:=
 ∀ (pins:List (Addr×Obj)) (s:Shared) (σ:St) (H:Hp) (x y:V) (u v:Value) (Q:VK),Inv X pins σ H s->RelV x u->RelV y v->rd x y H Q->wpAny (model X.prog X.w) X.A (inplaceOp op u v) (EP X pins σ Q) X.xe s
def Im (K:W.Frag) (ta tv:TE) (rd:V->V->Hp->VK->Prop) (f:Str):TS:=λD σ H=>ta σ H λx H1=>∃ a C dx fs v,x=.ref a/\H1 a=some (.ins C dx fs)/\Cls K C/\bN K C f/\fs.lookup f=some v /\
 tv σ H1 λy H2=>rd v y H2 λz H3=>∃ dx' fs',H3 a=some (.ins C dx' fs')/\fs'.length < 1000/\D.nx σ (upd H3 a (.ins C dx' (cj f z fs')))
section
variable {X:Cx} {o e value:Expr} {f:Str} {pos pos' tpos:Pos} {ta tv:TE}
theorem az (he:PE X e ta) (hb:attributeBase e f X.env (eval e X.env)=eval e X.env):PE X (.Attribute e f pos) (aN X.K ta f):=by
 intro pins s σ H Q I h
 refine ane hb (thn (he pins s σ H _ I h) λu s1 ⟨x,H1,I1,rx,a,C,dx,fs,v,ex,ea,c,n,l,q⟩=>?_)
 subst ex
 obtain rfl:u=Value.ref a:=rx
 exact Vz I1 ea c n l λu' s2 I2 ru=>⟨v,H1,I2,ru,q⟩
theorem bV (ha:PE X o ta) (hv:PE X value tv) (hs:swapsWith value (some (.Attribute o f pos')) pos.line X.env=pure false):PS X (.Assign [.Attribute o f pos'] value pos) (fm X.K ta tv f):=by
 intro pins s σ H D I h
 refine plainObj_wpAny_Assign_Attribute (thn (hv pins s σ H _ I h) λu s1 ⟨y,H1,I1,ry,q⟩=>thn (ha pins s1 σ H1 _ I1 q) λov s2 ⟨x,H2,I2,rx,a,C,dx,fs,ex,ea,c,n,l,q2⟩=>?_) hs
 subst ex
 obtain rfl:ov=Value.ref a:=rx
 exact Um I2 ea c n l ry λs3 I3=>⟨σ,_,I3,q2⟩
theorem OW {op:Operator} {rd:V->V->Hp->VK->Prop} (ha:PE X o ta) (hv:PE X value tv) (hop:apn X op rd):PS X (.AugAssign (.Attribute o f tpos) op value pos) (Im X.K ta tv rd f):=by
 intro pins s σ H D I h
 refine wpAny_AugAssign_AttributeAny (thn (ha pins s σ H _ I h) λov s1 ⟨x,H1,I1,rx,a,C,dx,fs,v,ex,ea,c,n,l,q⟩=>?_)
 subst ex
 obtain rfl:ov=Value.ref a:=rx
 refine Vz I1 ea c n l λu s2 I2 ru=>thn (hv pins s2 σ H1 _ I2 q) λw3 s3 ⟨y,H2,I3,ry,q3⟩=>thn (hop pins s3 σ H2 v y u w3 _ I3 ru ry q3) λw4 s4 ⟨z,H3,I4,rz,dx',fs',ea',l',q4⟩=>?_
 exact Um I4 ea' c n l' rz λs5 I5=>⟨σ,_,I5,q4⟩
end
end L2
namespace L2
open PySem PySem.Spec PyProof.Rows
structure qt (k:Nat) (A:Around):Prop where
 hd:A.handled=none
 dp:A.depth+3 * k+5 < recursionLimit
 un:A.units+16 * k+200 < cLine
theorem qt.mono {j k:Nat} {A:Around} (r:qt k A) (h:j<=k):qt j A:=⟨r.hd,by have:=r.dp;omega,by have:=r.un;omega⟩
theorem qt.deeper {k:Nat} {A:Around} (r:qt (k+1) A) (env:Env):qt k (A.deeper env):=
 ⟨r.hd,by have:=r.dp;show A.depth+1+3 * k+5 < _;omega,by have:=r.un;show A.units+3+16 * k+200 < _;omega⟩
theorem agm {A:Around} {C:Addr} {us:List Value} {kw:List (Str×Value)}:(A.under (.builtin "type.__call__" ⟨.ref C::us,kw⟩)).depth=A.depth+1:=by
 first | rfl | simp [Around.under,Code.weight,Code.isCreation,Code.isGuard,Code.isCaller,Code.frames,Code.isFrame,guardIds]
theorem agy {A:Around} {C:Addr} {us:List Value} {kw:List (Str×Value)}:(A.under (.builtin "type.__call__" ⟨.ref C::us,kw⟩)).units=A.units+1:=by
 first | rfl | simp [Around.under,Code.cUnits,Code.frames,Code.isFrame]
theorem qt.make {k:Nat} {A:Around} (r:qt (k+1) A) (C:Addr) (us:List Value) (kw:List (Str×Value)):qt k (A.under (.builtin "type.__call__" ⟨.ref C::us,kw⟩)):=
 ⟨r.hd,by have:=r.dp;rw [agm];omega,by have:=r.un;rw [agy];omega⟩
theorem qt.depth {k:Nat} {A:Around} (r:qt k A):A.depth < recursionLimit:=by have:=r.dp;omega
theorem qt.units {k:Nat} {A:Around} (r:qt k A):A.units+64 < cLine:=by have:=r.un;omega
def aJ:TA:=λ_ H Q=>Q [] H
def aB (ta:TE) (tr:TA):TA:=λσ H Q=>ta σ H λx H1=>tr σ H1 λxs H2=>Q (x::xs) H2
section
variable {X:Cx} {e:Expr} {es:List Expr} {te:TE} {t:TA} {pos:Pos}
theorem aA:PA X [] aJ:=λ_ _ _ _ H Q I h=>Calls.spliced_nil ⟨[],H,I,.nil,h⟩
theorem aj (ha:PE X e te) (hr:PA X es t) (hs:starEach (e::es) X.env=(false,eval e X.env)::starEach es X.env:=by rfl):PA X (e::es) (aB te t):=by
 intro pos pins s σ H Q I h
 rw [hs]
 show wpAny _ _ (spliced ((false,eval e X.env)::backTo pos (starEach es X.env))) _ _ s
 refine Calls.spliced_cons (thn (ha pins s σ H _ I h) λu s1 ⟨x,H1,I1,r1,q1⟩=>?_)
 exact thn (hr pos pins s1 σ H1 _ I1 q1) λus s2 ⟨xs,H2,I2,r2,q2⟩=>⟨x::xs,H2,I2,.cons r1 r2,q2⟩
def aop (t:TA):TE:=λσ H Q=>t σ H λxs H1=>xs.length<=sizeLine/\∀ p,H1 p=none->Q (.ref p) (upd H1 p (.tup xs))
def kC (t:TA):TE:=λσ H Q=>t σ H λxs H1=>xs.length<=sizeLine/\∀ p,H1 p=none->Q (.ref p) (upd H1 p (.lst xs))
theorem aoB {x1} (h:PA X es t):PE X (.Tuple es x1 pos) (aop t):=by
 intro pins s σ H Q I hq
 refine wpAny_Tuple_spliced (thn (h pos pins s σ H _ I hq) λus s1 ⟨xs,H1,I1,r,z,q⟩=>⟨by rw [<-r.length];exact z,?_⟩)
 have hf:H1 s1.heap.objs.size=none:=I1.hok.fresh (Nat.le_refl _)
 refine ⟨.ref s1.heap.objs.size,upd H1 s1.heap.objs.size (.tup xs),I1.laid (t':=s1.toks) (λb u e=>Heap.get?_push_of_some _ e) (Nat.le_refl _) ?_,rfl,q _ hf⟩
 exact ⟨z,us,r,⟨_,Heap.get?_push_size _ rfl,rfl,_,rfl⟩⟩
theorem dM (h:PA X es t):PE X (.List es pos) (kC t):=by
 intro pins s σ H Q I hq
 refine wpAny_List_spliced (thn (h pos pins s σ H _ I hq) λus s1 ⟨xs,H1,I1,r,z,q⟩=>⟨by rw [<-r.length];exact z,?_⟩)
 have hf:H1 s1.heap.objs.size=none:=I1.hok.fresh (Nat.le_refl _)
 refine ⟨.ref s1.heap.objs.size,upd H1 s1.heap.objs.size (.lst xs),I1.laid (t':=s1.toks) (λb u e=>Heap.get?_push_of_some _ e) (Nat.le_refl _) ?_,rfl,q _ hf⟩
 exact ⟨z,us,0,r,Heap.get?_push_size _ rfl⟩
end
abbrev Sp:=List V->Hp->VK->XK->Prop
abbrev CXT:=List Env->Hp->Shared->XK->Value->Shared->Prop
structure agB (P:Program) (w:World) (K:W.Frag) (mg:Str->Option Value) (base:Heap) (A:Around) (outer:List Env) (s:Shared) (H:Hp):Prop where
 frames:A.frames=some outer
 mod:Mod K mg base
 bs:∀ b o,base.get? b=some o->s.heap.get? b=some o/\H b=none
 bsz:base.objs.size<=s.heap.objs.size
 Ra:s.heap.FunFrames base outer
 frf:∀ b∈frs outer,H b=none
 hok:HOk P w H s.heap
 bare:AllBare s.gens
def CE (outer:List Env) (P:Program) (w:World) (H:Hp) (s:Shared) (Q:VK) (u:Value) (s':Shared):Prop:=
 ∃ v H',s'.os=s.os/\AllBare s'.gens/\Un (frs outer) [] H H' s.heap s'.heap/\HOk P w H' s'.heap/\RelV v u/\Q v H'
def CR (CX:CXT) (outer:List Env) (P:Program) (w:World) (H:Hp) (s:Shared) (Q:VK) (E:XK) (r:Result) (s':Shared):Prop:=
 match r with
 | .ok (.ret u)=>CE outer P w H s Q u s'
 | .ok _=>False
 | .error e=>CX outer H s E e s'
structure aQ (P:Program) (w:World) (K:W.Frag) (mg:Str->Option Value) (base:Heap) (CX:CXT) (k:Nat) (f:Addr) (fd:FuncData) (ps:List Str) (sp:Sp):Prop where
 len:∀ vs H Q E,sp vs H Q E->vs.length=ps.length
 run:∀ (A:Around) (outer:List Env) (s:Shared) (H:Hp) (args:Args) (us:List Value) (vs:List V) (Q:VK) (E:XK),qt k A->agB P w K mg base A outer s H->BindsTo s fd args (ps.zip us)->Vals vs us->sp vs H Q E ->
  codeAny (model P w) A (.call (.ref f) args) (CR CX outer P w H s Q E) s
theorem aQ.mono {P:Program} {w:World} {K:W.Frag} {mg:Str->Option Value} {base:Heap} {CX:CXT} {j k:Nat} {f:Addr} {fd:FuncData} {ps:List Str} {sp:Sp} (F:aQ P w K mg base CX j f fd ps sp) (h:j<=k) :
  aQ P w K mg base CX k f fd ps sp:=⟨F.len,λA outer s H args us vs Q E hr=>F.run A outer s H args us vs Q E (hr.mono h)⟩
theorem agB.make {P:Program} {w:World} {K:W.Frag} {mg:Str->Option Value} {base:Heap} {A:Around} {outer:List Env} {s:Shared} {H:Hp} (e:agB P w K mg base A outer s H) (C:Addr) (us:List Value) (kw:List (Str×Value)) :
  agB P w K mg base (A.under (.builtin "type.__call__" ⟨.ref C::us,kw⟩)) outer s H:=⟨by first | exact e.frames | (simpa [Around.under,Code.envs,Code.isFrame,pushEnvs] using e.frames),e.mod,e.bs,e.bsz,e.Ra,e.frf,e.hok,e.bare⟩
section
variable {X:Cx} {pins:List (Addr×Obj)} {σ:St} {H:Hp} {s s':Shared}
theorem Inv.apt (I:Inv X pins σ H s):agB X.prog X.w X.K X.mg X.base X.A X.stack s H:=
 ⟨I.ok.frames,I.ok.mod,I.bs,Nat.le_trans I.ok.bsz I.sz,I.stack,I.ah5,I.hok,I.bare⟩
theorem Inv.after {Q:VK} {u:Value} (I:Inv X pins σ H s) (h:CE X.stack X.prog X.w H s Q u s'):EP X pins σ Q u s':=by
 obtain ⟨v,H',os,bare,un,hok,r,q⟩:=h
 obtain ⟨hh,g,d,t,os'⟩:=s'
 obtain rfl:os'=s.os:=os
 exact ⟨v,H',I.call (h':=hh) (g':=g) (d':=d) (t':=t) (ch:=[]) un hok bare (λb z=>absurd z (by simp)),r,q⟩
end
def cW (sp:Sp) (dvs:List V) (E:XK) (t:TA):TE:=λσ H Q=>t σ H λvs H1=>sp (vs++dvs) H1 Q E
def bD (C:Addr) (m:Str) (sp:Sp) (dvs:List V) (E:XK) (ta:TE) (t:TA):TE:=λσ H Q=>ta σ H λx H1=>∃ a dx fs,x=.ref a/\H1 a=some (.ins C dx fs)/\fs.lookup m=none /\
 t σ H1 λvs H2=>sp (x::(vs++dvs)) H2 Q E
def Hf (C:Addr) (sp:Sp) (dvs:List V) (E:XK) (t:TA):TE:=λσ H Q=>t σ H λvs H1=>∀ x dx,H1 x=none->H1 dx=none->dx≠x ->
 sp (.ref x::(vs++dvs)) (upd (upd H1 dx (.own x)) x (.ins C dx [])) (λv H2=>v=.non/\Q (.ref x) H2) E
def Binds (K:W.Frag) (fd:FuncData) (ps:List Str) (ds:List Value):Prop:=
 ∀ (s:Shared) (us:List Value),K.In s.heap->(us++ds).length=ps.length->BindsTo s fd ⟨us,[]⟩ (ps.zip (us++ds))
theorem Binds.all {K:W.Frag} {fd:FuncData} {ps:List Str} (h:∀ us:List Value,us.length=ps.length->bindArgs fd ⟨us,[]⟩=pure (ps.zip us)):Binds K fd ps []:=λs us _ hl=>by
 rw [List.append_nil] at hl ⊢
 exact .of_eq (h us hl)
def Passes (CX:CXT) (X:Cx) (E:XK):Prop:=∀ (pins:List (Addr×Obj)) (σ:St) (H:Hp) (s:Shared) (e:Value) (s':Shared),Inv X pins σ H s->CX X.stack H s E e s'->X.xe e s'
section
variable {X:Cx} {CX:CXT} {k:Nat} {f C:Addr} {fd:FuncData} {ps:List Str} {sp:Sp} {dvs:List V} {ds:List Value} {E:XK} {x m:Str} {p pos apos:Pos} {e o:Expr} {es:List Expr} {ta:TE} {t:TA}
theorem ahx {pins:List (Addr×Obj)} {σ:St} {H:Hp} {s:Shared} {Q:VK} {us:List Value} {vs:List V} (F:aQ X.prog X.w X.K X.mg X.base CX k f fd ps sp) (hr:qt k X.A) (hb:Binds X.K fd ps ds) (hd:Vals dvs ds) (hx:Passes CX X E)
  (I:Inv X pins σ H s) (r:Vals vs us) (h:sp (vs++dvs) H Q E):wpAny (model X.prog X.w) X.A (call (.ref f) us) (EP X pins σ Q) X.xe s:=by
 have r2:Vals (vs++dvs) (us++ds):=r.append hd
 have hl:(us++ds).length=ps.length:=by rw [<-r2.length];exact F.len _ _ _ _ h
 refine wpAny_call (codeAny_mono (F.run X.A X.stack s H ⟨us,[]⟩ (us++ds) (vs++dvs) Q E hr I.apt (hb s us I.kIn hl) r2 h) λr s' hq=>?_)
 cases r with
 | error e=>exact hx pins σ H s e s' I hq
 | ok fl=>
  cases fl with
  | ret u=>exact I.after hq
  | next=>exact False.elim hq
  | brk=>exact False.elim hq
  | cont=>exact False.elim hq
theorem bC (F:aQ X.prog X.w X.K X.mg X.base CX k f fd ps sp) (hr:qt k X.A) (hg:Gl X x) (hm:X.mg x=some (.ref f)) (hk:PySem.W.keepIn X.K (.ref f)=true) (hb:Binds X.K fd ps ds) (hd:Vals dvs ds) (hx:Passes CX X E)
  (ha:PA X (e::es) t) (hdb:(x==("__debug__":Str))=false:=by decide) (he:starEach (e::es) X.env=(false,eval e X.env)::starEach es X.env:=by rfl) (hpl:(backTo pos (starEach es X.env)).any (·.1)=false:=by rfl) :
  PE X (.Call (.Name x p) (e::es) [] pos) (cW sp dvs E t):=by
 intro pins s σ H Q I h
 refine wpAny_Call_Name_kw (LD I hg hm ?_ hdb)
 refine PySem.W.callWith_K (h₀:=X.base) I.ok.mod.kin hk (thn (ha pos pins s σ H _ I h) λus s1 ⟨vs,H1,I1,r,q⟩=>⟨I1.kIn,?_⟩) he hpl
 exact ahx F hr hb hd hx I1 r q
theorem bh {pl:Sem Bool} (he:PE X o ta) (c:Cls X.K C) (hm:Meth X.K C m f) (F:aQ X.prog X.w X.K X.mg X.base CX k f fd ps sp) (hr:qt k X.A) (hb:Binds X.K fd ps ds) (hd:Vals dvs ds) (hx:Passes CX X E) (ha:PA X (e::es) t)
  (hst:starEach (e::es) X.env=(false,eval e X.env)::starEach es X.env:=by rfl) (hpl:(backTo pos (starEach es X.env)).any (·.1)=false:=by rfl)
  (ht:eval (.Call (.Attribute o m apos) (e::es) [] pos) X.env=(do
   let ov <-eval o X.env
   standAt apos.atName
   let (f,first) <-holding [ov] (getMethod ov m pl)
   callWith pos f first (backTo pos (starEach (e::es) X.env)) (backToKw pos (keywordEach [] X.env))):=by rfl) :
  PE X (.Call (.Attribute o m apos) (e::es) [] pos) (bD C m sp dvs E ta t):=by
 intro pins s σ H Q I h
 refine PySem.W.methodCall_KW (pl:=pl) (thn (he pins s σ H _ I h) λu s1 ⟨x,H1,I1,rx,a,dx,fs,ex,ea,l,q⟩=>?_) ht
 subst ex
 obtain rfl:u=Value.ref a:=rx
 refine KY I1 ea c hm l ?_
 refine PySem.W.callWith_K (first:=[.ref a]) (h₀:=X.base) I.ok.mod.kin hm.kp (thn (ha pos pins s1 σ H1 _ I1 q) λus s2 ⟨vs,H2,I2,r,q2⟩=>⟨I2.kIn,?_⟩) hst hpl
 exact ahx (us:=.ref a::us) (vs:=.ref a::vs) F hr hb hd hx I2 (.cons rfl r) q2
theorem iI {pl:Sem Bool} (he:PE X o ta) (c:Cls X.K C) (hm:Meth X.K C m f) (F:aQ X.prog X.w X.K X.mg X.base CX k f fd ps sp) (hr:qt k X.A) (hb:Binds X.K fd ps ds) (hd:Vals dvs ds) (hx:Passes CX X E)
  (ht:eval (.Call (.Attribute o m apos) [] [] pos) X.env=(do
   let ov <-eval o X.env
   standAt apos.atName
   let (f,first) <-holding [ov] (getMethod ov m pl)
   callWith pos f first (backTo pos (starEach [] X.env)) (backToKw pos (keywordEach [] X.env))):=by rfl) :
  PE X (.Call (.Attribute o m apos) [] [] pos) (bD C m sp dvs E ta aJ):=by
 intro pins s σ H Q I h
 refine PySem.W.methodCall_KW (pl:=pl) (thn (he pins s σ H _ I h) λu s1 ⟨x,H1,I1,rx,a,dx,fs,ex,ea,l,q⟩=>?_) ht
 subst ex
 obtain rfl:u=Value.ref a:=rx
 refine KY I1 ea c hm l ?_
 exact PySem.W.callWith_K0 (first:=[.ref a]) I1.kIn hm.kp (ahx (us:=[.ref a]) (vs:=[.ref a]) F hr hb hd hx I1 (.cons rfl .nil) q)
structure Mk (K:W.Frag) (C f:Addr):Prop where
 makes:PySem.W.makesIn K C=true
 init:PySem.W.findIn K (.ref C) "__init__"=some (some (.ref f))
 fn:PySem.W.isFn K (.ref f)=true
 kp:PySem.W.keepIn K (.ref C)=true
theorem aeq {pins:List (Addr×Obj)} {σ:St} {H:Hp} {s:Shared} {Q:VK} {us:List Value} {vs:List V} (M:Mk X.K C f) (F:aQ X.prog X.w X.K X.mg X.base CX k f fd ps sp) (hr:qt (k+1) X.A) (hb:Binds X.K fd ps ds) (hd:Vals dvs ds)
  (hx:Passes CX X E) (I:Inv X pins σ H s) (r:Vals vs us)
  (h:∀ x dx,H x=none->H dx=none->dx≠x->sp (.ref x::(vs++dvs)) (upd (upd H dx (.own x)) x (.ins C dx [])) (λv H2=>v=.non/\Q (.ref x) H2) E) :
  wpAny (model X.prog X.w) X.A (call (.ref C) us) (EP X pins σ Q) X.xe s:=by
 have hq:=h (s.heap.objs.size+1) s.heap.objs.size (I.hok.fresh (Nat.le_succ _)) (I.hok.fresh (Nat.le_refl _)) (Nat.ne_of_lt (Nat.lt_succ_self _))
 have I2:=Inv.made (C:=C) I
 have r2:Vals (V.ref (s.heap.objs.size+1)::(vs++dvs)) (Value.ref (s.heap.objs.size+1)::(us++ds)):=.cons rfl (r.append hd)
 have hl:(Value.ref (s.heap.objs.size+1)::us++ds).length=ps.length:=by
  have e:=r2.length
  rw [F.len _ _ _ _ hq] at e
  exact e.symm
 refine wpAny_call (akf (f:=f) I.kIn M.makes M.init (beq_iff_eq.mp M.fn) (codeAny_mono (F.run _ X.stack _ _ ⟨Value.ref (s.heap.objs.size+1)::us,[]⟩ (Value.ref (s.heap.objs.size+1)::(us++ds)) _ _ E (hr.make C us [])
  (I2.apt.make C us []) (hb _ (Value.ref (s.heap.objs.size+1)::us) I2.kIn hl) r2 hq) λr s' hq'=>?_))
 cases r with
 | error e=>exact hx pins σ _ _ e s' I2 hq'
 | ok fl=>
  cases fl with
  | ret u=>
   obtain ⟨v,H',I3,rv,ev,q3⟩:=I2.after hq'
   subst ev
   exact ⟨rv,⟨V.ref (s.heap.objs.size+1),H',I3,rfl,q3⟩⟩
  | next=>exact False.elim hq'
  | brk=>exact False.elim hq'
  | cont=>exact False.elim hq'
theorem CD (M:Mk X.K C f) (F:aQ X.prog X.w X.K X.mg X.base CX k f fd ps sp) (hr:qt (k+1) X.A) (hg:Gl X x) (hm:X.mg x=some (.ref C)) (hb:Binds X.K fd ps ds) (hd:Vals dvs ds) (hx:Passes CX X E)
  (ha:PA X (e::es) t) (hdb:(x==("__debug__":Str))=false:=by decide) (he:starEach (e::es) X.env=(false,eval e X.env)::starEach es X.env:=by rfl) (hpl:(backTo pos (starEach es X.env)).any (·.1)=false:=by rfl) :
  PE X (.Call (.Name x p) (e::es) [] pos) (Hf C sp dvs E t):=by
 intro pins s σ H Q I h
 refine wpAny_Call_Name_kw (LD I hg hm ?_ hdb)
 refine PySem.W.callWith_K (h₀:=X.base) I.ok.mod.kin M.kp (thn (ha pos pins s σ H _ I h) λus s1 ⟨vs,H1,I1,r,q⟩=>⟨I1.kIn,?_⟩) he hpl
 exact aeq M F hr hb hd hx I1 r q
theorem aj5 (M:Mk X.K C f) (F:aQ X.prog X.w X.K X.mg X.base CX k f fd ps sp) (hr:qt (k+1) X.A) (hg:Gl X x) (hm:X.mg x=some (.ref C)) (hb:Binds X.K fd ps ds) (hd:Vals dvs ds) (hx:Passes CX X E)
  (hdb:(x==("__debug__":Str))=false:=by decide):PE X (.Call (.Name x p) [] [] pos) (Hf C sp dvs E aJ):=by
 intro pins s σ H Q I h
 refine wpAny_Call_Name_kw (LD I hg hm ?_ hdb)
 exact PySem.W.callWith_K0 I.kIn M.kp (aeq (us:=[]) M F hr hb hd hx I .nil h)
end
structure aW (N P:List Str) (sc:Scope):Prop where
 kind:sc.kind=.function
 co:sc.isCoroutine=false
 gen:sc.isGenerator=false
 nd:N.Nodup
 pre:N.take P.length=P
 par:∀ x∈P,sc.names.lookup x=some .local\/sc.names.lookup x=some .cell
 aoJ:∀ y∈sc.names,y.2≠.free
theorem Xg {kindOf:Str->Option NameKind} {x:Str}:∀ {binds:List (Str×Value)} {m:Str->Option Value},(∀ v,(x,v)∉binds)->bindL kindOf binds m x=m x
 | [],_,_=>rfl
 | (n,v)::r,m,h=>by
  unfold bindL
  rw [Xg λw hw=>h w (List.mem_cons_of_mem _ hw)]
  split
  ·have:x≠n:=by rintro rfl;exact h v List.mem_cons_self
   simp [this]
  ·rfl
theorem XN {kindOf:Str->Option NameKind} {x:Str}:∀ {binds:List (Str×Value)} {m:Str->Option Value},(∀ v,(x,v)∉binds)->bindC kindOf binds m x=m x
 | [],_,_=>rfl
 | (n,v)::r,m,h=>by
  unfold bindC
  rw [XN λw hw=>h w (List.mem_cons_of_mem _ hw)]
  split
  ·rfl
  ·have:x≠n:=by rintro rfl;exact h v List.mem_cons_self
   simp [this]
theorem WY {kindOf:Str->Option NameKind} {x:Str} {v:Value}:∀ {P:List Str} {vs:List Value} {i:Nat} {m:Str->Option Value},P.Nodup->P[i]?=some x->vs[i]?=some v->kindOf x=some .local ->
  bindL kindOf (P.zip vs) m x=some v
 | [],_,_,_,_,h,_,_=>by simp at h
 | _::_,[],_,_,_,_,h,_=>by simp at h
 | p::P,w::vs,0,m,nd,h1,h2,hk=>by
  simp at h1 h2;subst h1;subst h2
  show bindL kindOf ((p,w)::P.zip vs) m p=_
  unfold bindL
  rw [Xg λv hv=>(List.nodup_cons.mp nd).1 (List.of_mem_zip hv).1,if_pos hk]
  simp
 | p::P,w::vs,i+1,m,nd,h1,h2,hk=>by
  show bindL kindOf ((p,w)::P.zip vs) m x=_
  unfold bindL
  exact WY (i:=i) (List.nodup_cons.mp nd).2 (by simpa using h1) (by simpa using h2) hk
theorem XO {kindOf:Str->Option NameKind} {x:Str} {v:Value}:∀ {P:List Str} {vs:List Value} {i:Nat} {m:Str->Option Value},P.Nodup->P[i]?=some x->vs[i]?=some v->kindOf x≠some .local ->
  bindC kindOf (P.zip vs) m x=some v
 | [],_,_,_,_,h,_,_=>by simp at h
 | _::_,[],_,_,_,_,h,_=>by simp at h
 | p::P,w::vs,0,m,nd,h1,h2,hk=>by
  simp at h1 h2;subst h1;subst h2
  show bindC kindOf ((p,w)::P.zip vs) m p=_
  unfold bindC
  rw [XN λv hv=>(List.nodup_cons.mp nd).1 (List.of_mem_zip hv).1,if_neg hk]
  simp
 | p::P,w::vs,i+1,m,nd,h1,h2,hk=>by
  show bindC kindOf ((p,w)::P.zip vs) m x=_
  unfold bindC
  exact XO (i:=i) (List.nodup_cons.mp nd).2 (by simpa using h1) (by simpa using h2) hk
def start (N:List Str) (vs:List V):St:=vs.map some++List.replicate (N.length - vs.length) none
def aiT (CX:CXT) (P:Program) (w:World) (K:W.Frag) (mg:Str->Option Value) (base:Heap) (N:List Str) (qual:Str) (scope:Scope) (f:Addr) (cd:Value) (A:Around) (outer:List Env) (s:Shared) (H:Hp) (E:XK):Cx where
 prog:=P
 w:=w
 K:=K
 mg:=mg
 base:=base
 A:=A.deeper (envOfC qual scope s.heap.objs.size f cd)
 N:=N
 s₀:=s
 H₀:=H
 env:=envOfC qual scope s.heap.objs.size f cd
 outer:=outer
 stack:=envOfC qual scope s.heap.objs.size f cd::outer
 ex:=[]
 calm:=true
 fn:=λ_=>true
 pn:=[]
 xe:=λe s'=>wpAny (model P w) (A.deeper (envOfC qual scope s.heap.objs.size f cd)) (leaving (envOfC qual scope s.heap.objs.size f cd) e) (λ_ s''=>CX outer H s E e s'') (λe' s''=>CX outer H s E e' s'') s'
theorem afz {sc:Scope} {n:Nat} {x:Str} (h:sc.names.lookup x=some .cell):∃ c,(cellsFrom n sc.names []).lookup x=some c:=by
 have q:=PySem.W.cellsFrom_some sc.names n [] (.inl h)
 exact Option.isSome_iff_exists.mp q
theorem ajh {CX:CXT} {P:Program} {w:World} {K:W.Frag} {mg:Str->Option Value} {base:Heap} {N ps:List Str} {qual:Str} {scope:Scope} {f:Addr} {cd:Value} {A:Around} {outer:List Env} {s s1:Shared} {H:Hp} {E:XK} {us:List Value} {vs:List V}
  (S:aW N ps scope) (hd:A.handled=none) (e0:agB P w K mg base A outer s H) (hl:vs.length=ps.length) (r:Vals vs us)
  (x:InCallC s s.heap.objs.size (bindL (envOfC qual scope s.heap.objs.size f cd).kindOf (ps.zip us) λ_=>none) (cellsFrom (s.heap.objs.size+1) scope.names []) (bindC (envOfC qual scope s.heap.objs.size f cd).kindOf (ps.zip us) λ_=>none) s1) :
  Inv (aiT CX P w K mg base N qual scope f cd A outer s H E) [] (start N vs) H s1:=by
 have hpl:ps.length<=N.length:=by have:=congrArg List.length S.pre;rw [List.length_take] at this;omega
 obtain ⟨h1,tk,rfl,hk⟩:=x.done
 have noA:∀ b:Addr,b∉(aiT CX P w K mg base N qual scope f cd A outer s H E).ex:=λb z=>absurd (show b∈([]:List Addr) from z) (by simp)
 refine ⟨⟨e0.mod,S.kind,rfl,rfl,Nat.le_refl _,λy z c h1 h2=>?_,λy hy=>?_,λy c _ h=>?_,λ_=>hd,Around.frames_deeper e0.frames,.inr ⟨rfl,rfl⟩,λb z=>absurd z (noA b),e0.bs,e0.bsz,λb _ _=>noA b,λb z=>absurd z (noA b),e0.Ra,e0.frf⟩,
  rfl,e0.bare,Un.kept hk,⟨_,x.toInCall.ns,λi y v h1 h2 h3=>?_⟩,λy c h=>⟨_,x.cell y c h⟩,e0.hok.fresh (Nat.le_refl _),λy c h=>?_,λp hp=>absurd (show p∈([]:List (Addr×Obj)) from hp) (by simp),e0.hok.kept hk,?_⟩
 ·exact name_of_addr x.apart (PySem.mem_of_lookup h1) (PySem.mem_of_lookup h2)
 ·have hy:scope.names.lookup y=some .cell\/scope.names.lookup y=some .free:=hy
  rcases hy with hy | hy
  ·exact afz hy
  ·exact absurd rfl (S.aoJ _ (PySem.mem_of_lookup hy))
 ·exact Nat.le_of_lt (x.above y c (PySem.mem_of_lookup h))
 ·have hi:i < vs.length:=by
   unfold start at h2
   by_cases hi:i < vs.length
   ·exact hi
   ·rw [List.getElem?_append_right (by simpa using hi)] at h2
    rw [List.getElem?_replicate] at h2
    split at h2<;>cases h2
  have ha:vs[i]?=some v:=by
   unfold start at h2
   rw [List.getElem?_append_left (by simpa using hi),List.getElem?_map] at h2
   cases e:vs[i]? with
   | none=>rw [e] at h2;cases h2
   | some a=>rw [e] at h2;cases h2;rfl
  obtain ⟨u,hu,rv⟩:=r.get ha
  have hp:ps[i]?=some y:=by
   rw [<-S.pre,List.getElem?_take_of_lt (by omega)];exact h1
  have ndP:ps.Nodup:=by rw [<-S.pre];exact S.nd.sublist (List.take_sublist _ _)
  refine ⟨u,rv,?_⟩
  rcases S.par y (List.mem_of_getElem? hp) with k | k
  ·exact .inl ⟨k,WY ndP hp hu k⟩
  ·obtain ⟨c,e⟩:=afz (n:=s.heap.objs.size+1) k
   refine .inr ⟨.inl k,c,e,?_⟩
   have q:=x.cell y c e
   rw [XO ndP hp hu (by show scope.names.lookup y≠_;rw [k];decide)] at q
   exact q
 ·exact e0.hok.fresh (Nat.le_of_lt (x.above y c (PySem.mem_of_lookup h)))
 ·unfold start
  show _=N.length
  rw [List.length_append,List.length_map,List.length_replicate]
  omega
theorem aps {CX:CXT} {P:Program} {w:World} {K:W.Frag} {mg:Str->Option Value} {base:Heap} {k:Nat} {f:Addr} {name qual:Str} {params:Arguments} {body:List Stmt} {scope:Scope} {dV kV doc pm cdv ct oc:Value} {an od:Option Addr}
  {osl:Array (Option Value)} {N ps:List Str} {sp:Sp} (lk:K.lookup f=some ⟨oc,od,.func (PySem.W.fnOf name qual params body scope dV kV doc pm an cdv ct),osl⟩) (hcd:PySem.W.codeIn K cdv qual=true) (S:aW N ps scope)
  (len:∀ vs H Q E,sp vs H Q E->vs.length=ps.length)
  (hbody:∀ (A:Around) (outer:List Env) (s:Shared) (H:Hp) (vs:List V) (Q:VK) (E:XK),qt k (A.deeper (envOfC qual scope s.heap.objs.size f cdv))->sp vs H Q E ->
   ∃ t,PSs (aiT CX P w K mg base N qual scope f cdv A outer s H E) body t/\t { nx:=λ_ H'=>Q .non H',rt:=Q } (start N vs) H) :
  aQ P w K mg base CX (k+1) f (PySem.W.fnOf name qual params body scope dV kV doc pm an cdv ct) ps sp:=by
 refine ⟨len,λA outer s H args us vs Q E hr e0 hb r hsp=>?_⟩
 have hl:=len _ _ _ _ hsp
 have KX:K.In s.heap:=e0.mod.kin.keeps λb o e=>(e0.bs b o e).1
 have lim:s.heap.NoLimit:=e0.mod.nolimit.keeps λb o e=>(e0.bs b o e).1
 have hkind:∀ y∈ps.zip us,scope.names.lookup y.1=some .local\/(scope.names.lookup y.1=some .cell/\((cellsFrom (s.heap.objs.size+1) scope.names []).lookup y.1).isSome=true):=λ⟨n,v⟩ hy=>by
  rcases S.par n (List.of_mem_zip hy).1 with q | q
  ·exact .inl q
  ·exact .inr ⟨q,PySem.W.cellsFrom_some _ _ _ (.inl q)⟩
 refine codeAny_call_function hr.depth (KX _ _ lk) rfl S.co S.gen rfl (PySem.W.codeRec_of KX hcd) (hb _ _ _ _ ?_)
 refine wpAny_newFunctionEnv_cells S.kind hkind λenv he s1 x=>?_
 subst he
 refine ⟨lim.keeps x.toInCall.keep,codeAny_func ?_⟩
 obtain ⟨t,ht,hq⟩:=hbody A outer s H vs Q E (hr.deeper _) hsp
 have I:Inv (aiT CX P w K mg base N qual scope f cdv A outer s H E) [] (start N vs) H s1:=ajh S hr.hd e0 hl r x
 refine wpAny_mono (ht [] s1 (start N vs) H _ I hq) (λfl s' hs=>?_) λe s' hs=>hs
 have fin:∀ {σ':St} {H':Hp} {v:V} {u:Value},Inv (aiT CX P w K mg base N qual scope f cdv A outer s H E) [] σ' H' s'->RelV v u->Q v H'->CE outer P w H s Q u s':=
  λ{σ' H' v u} J rv q=>⟨v,H',J.os,J.bare,J.base,J.hok,rv,q⟩
 cases fl with
 | ret u=>
  obtain ⟨v,σ',H',J,rv,q⟩:=hs
  exact fin J rv q
 | next=>
  obtain ⟨σ',H',J,q⟩:=hs
  exact fin (v:=V.non) (u:=Value.none) J rfl q
 | brk=>
  obtain ⟨_,_,_,q⟩:=hs
  exact False.elim q
 | cont=>
  obtain ⟨_,_,_,q⟩:=hs
  exact False.elim q
end L2
namespace L2
open PySem PySem.Spec PyProof.Rows
section
variable {X:Cx} {x:Str} {p pos:Pos} {e:Expr} {es:List Expr} {t:TA} {id T:String} {r:List V->Hp->VK->Prop}
def tCB (r:List V->Hp->VK->Prop) (t:TA):TE:=λσ H Q=>t σ H λvs H1=>r vs H1 Q
theorem fU (hc:afJ X (.builtin id) r) (hg:Gl X x) (hm:X.mg x=none) (hv:bootBuiltins x=some (.builtin id)) (ha:PA X (e::es) t) (hn:x≠"__name__":=by decide) (hdb:(x==("__debug__":Str))=false:=by decide)
  (he:starEach (e::es) X.env=(false,eval e X.env)::starEach es X.env:=by rfl) (hpl:(backTo pos (starEach es X.env)).any (·.1)=false:=by rfl):PE X (.Call (.Name x p) (e::es) [] pos) (tCB r t):=by
 intro pins s σ H Q I h
 refine wpAny_Call_Name_kw (Hs I hg hm hv ?_ hn hdb)
 exact PyProof.Rows.callWith_builtin1 (thn (ha pos pins s σ H _ I h) λus s1 ⟨vs,H1,I1,r1,q1⟩=>hc pins s1 σ H1 vs us Q I1 r1 q1) he hpl
theorem Xn (hc:afJ X (.type T) r) (hg:Gl X x) (hm:X.mg x=none) (hv:bootBuiltins x=some (.type T)) (ha:PA X (e::es) t) (hn:x≠"__name__":=by decide) (hdb:(x==("__debug__":Str))=false:=by decide)
  (he:starEach (e::es) X.env=(false,eval e X.env)::starEach es X.env:=by rfl) (hpl:(backTo pos (starEach es X.env)).any (·.1)=false:=by rfl):PE X (.Call (.Name x p) (e::es) [] pos) (tCB r t):=by
 intro pins s σ H Q I h
 refine wpAny_Call_Name_kw (Hs I hg hm hv ?_ hn hdb)
 exact PyProof.Rows.callWith_type1 (thn (ha pos pins s σ H _ I h) λus s1 ⟨vs,H1,I1,r1,q1⟩=>hc pins s1 σ H1 vs us Q I1 r1 q1) he hpl
end
end L2
namespace HT
open PySem PyProof.Rows
section
variable {prog:Program} {w:World} {A:Around} {E:Value->Shared->Prop} {s:Shared}
def sIx (n d:Nat):Option Int->Nat
 | none=>d
 | some v=>if v < 0 then (v+(n:Int)).toNat else min v.toNat n
theorem ahT (n d k:Nat):sIx n d (some (k:Int))=min k n:=by
 show (if (k:Int) < 0 then ((k:Int)+(n:Int)).toNat else min (k:Int).toNat n)=min k n
 rw [if_neg (by omega),Int.toNat_natCast]
end
end HT
namespace L2
open PySem PySem.Spec PyProof.Rows
abbrev TO:=St->Hp->(Option Int->Hp->Prop)->Prop
def PO (X:Cx) (e:Option Expr) (t:TO):Prop:=
 ∀ (pins:List (Addr×Obj)) (s:Shared) (σ:St) (H:Hp) (Q:Option Int->Hp->Prop),Inv X pins σ H s->t σ H Q ->
  wpAny (model X.prog X.w) X.A (evalPart e X.env) (λu s'=>∃ o H',Inv X pins σ H' s'/\IsPart u o/\Q o H') X.xe s
def NN:TO:=λ_ H Q=>Q none H
def Sf (t:TE):TO:=λσ H Q=>t σ H λx H1=>∃ i,x=.int i/\Q (some i) H1
section
variable {X:Cx} {e:Expr} {te:TE} {lo hi:Option Expr} {tl th:TO} {pos p2:Pos}
theorem ZU:PO X none NN:=by
 intro pins s σ H Q I h
 rw [evalPart_none]
 exact wpAny_pure ⟨none,H,I,.none,h⟩
theorem N3 (h:PE X e te):PO X (some e) (Sf te):=by
 intro pins s σ H Q I hw
 rw [evalPart_some]
 refine thn (h pins s σ H _ I hw) λu s1 ⟨x,H1,I1,r1,q1⟩=>?_
 obtain ⟨i,rfl,q⟩:=q1
 obtain ⟨t,rfl⟩:=r1
 exact ⟨some i,H1,I1,.int i t,q⟩
def SlR (X:Cx) (r:V->Option Int->Option Int->Hp->VK->Prop):Prop:=
 ∀ (pins:List (Addr×Obj)) (s:Shared) (σ:St) (H:Hp) (x:V) (v vl vu:Value) (lo hi:Option Int) (sl:Addr) (Q:VK),Inv X pins σ H s->RelV x v->s.heap.IsSliceOf sl vl vu .none->IsPart vl lo->IsPart vu hi->r x lo hi H Q ->
  ∃ T id,typeLookup (.type T) "__getitem__"=pure (some (.builtin id))/\s.TypeIs v T/\wpAny (model X.prog X.w) X.A (getItem v (.ref sl)) (EP X pins σ Q) X.xe s
def tSl (r:V->Option Int->Option Int->Hp->VK->Prop) (te:TE) (tl th:TO):TE:=λσ H Q=>te σ H λx H1=>tl σ H1 λl H2=>th σ H2 λu H3=>r x l u H3 Q
theorem NI {r:V->Option Int->Option Int->Hp->VK->Prop} (hr:SlR X r) (he:PE X e te) (hl:PO X lo tl) (hu:PO X hi th):PE X (.Subscript e (.Slice lo hi none p2) pos) (tSl r te tl th):=by
 intro pins s σ H Q I h
 refine Subscript_ (thn (he pins s σ H _ I h) λv s1 ⟨x,H1,I1,r1,q1⟩=>?_)
 refine wpAny_Slice (thn (hl pins s1 σ H1 _ I1 q1) λvl s2 ⟨l,H2,I2,pl,q2⟩=>thn (hu pins s2 σ H2 _ I2 q2) λvu s3 ⟨u,H3,I3,pu,q3⟩=>?_)
 rw [evalPart_none]
 refine wpAny_pure ?_
 have I4:Inv X pins σ H3 { s3 with heap:=s3.heap.push { cls:=.type "slice",data:=.fields #[vl,vu,.none] } }:=I3.kept (t':=s3.toks) λb ob q=>Heap.get?_push_of_some _ q
 obtain ⟨T,id,hT,ht,hg⟩:=hr pins { s3 with heap:=s3.heap.push { cls:=.type "slice",data:=.fields #[vl,vu,.none] } } σ H3 x v vl vu l u s3.heap.objs.size Q I4 r1 (Heap.IsSliceOf.new ..) pl pu q3
 show wpAny (model X.prog X.w) X.A (subscriptTail e (.Slice lo hi none p2) v (.ref s3.heap.objs.size)) (EP X pins σ Q) X.xe { s3 with heap:=s3.heap.push { cls:=.type "slice",data:=.fields #[vl,vu,.none] } }
 exact tail_any (ops:=[.ref s3.heap.objs.size,v]) ht hT hg (by with_unfolding_all rfl)
def Ox (xs:List V) (lo hi:Option Int):List V:=(xs.drop (HT.sIx xs.length 0 lo)).take (HT.sIx xs.length xs.length hi - HT.sIx xs.length 0 lo)
theorem aer (xs:List V) (lo hi:Option Int):(Ox xs lo hi).length<=xs.length:=by
 unfold Ox
 rw [List.length_take,List.length_drop]
 omega
end
end L2
namespace L2
open PySem PySem.Spec PyProof.Rows
def ixN (n:Nat) (i:Int):Option Nat:=if 0<=i then (if i < n then some i.toNat else none) else if -(n:Int)<=i then some (i+n).toNat else none
def atI {α:Type} (xs:List α) (i:Int):Option α:=(ixN xs.length i).bind λj=>xs[j]?
theorem aio {n:Nat} {i:Int} {j:Nat} (h:ixN n i=some j):seqIndex? i n=some j/\j < n/\-(n:Int)<=i/\i < n:=by
 unfold ixN at h
 by_cases h0:0<=i
 ·rw [if_pos h0] at h
  by_cases h1:i < n
  ·rw [if_pos h1] at h
   have e:i.toNat=j:=Option.some.inj h
   exact ⟨by rw [seqIndex_of h0 h1,e],by omega,by omega,h1⟩
  ·rw [if_neg h1] at h;cases h
 ·rw [if_neg h0] at h
  by_cases h1:-(n:Int)<=i
  ·rw [if_pos h1] at h
   have e:(i+n).toNat=j:=Option.some.inj h
   exact ⟨by rw [seqIndex_neg (by omega) h1,e],by omega,h1,by omega⟩
  ·rw [if_neg h1] at h;cases h
theorem ant {α:Type} {xs:List α} {i:Int} {v:α} (h:atI xs i=some v):∃ j,seqIndex? i xs.length=some j/\xs[j]?=some v/\j < xs.length/\-(xs.length:Int)<=i/\i < xs.length:=by
 unfold atI at h
 cases e:ixN xs.length i with
 | none=>rw [e] at h;cases h
 | some j=>
  rw [e] at h
  obtain ⟨h1,h2,h3,h4⟩:=aio e
  exact ⟨j,h1,h,h2,h3,h4⟩
theorem amK {α:Type} {xs:List α} {j:Nat} {v:α} (h:xs[j]?=some v):atI xs (j:Int)=some v:=by
 have hj:j < xs.length:=(List.getElem?_eq_some_iff.mp h).1
 have e:ixN xs.length (j:Int)=some j:=by
  unfold ixN
  rw [if_pos (by omega),if_pos (by omega)];simp
 unfold atI;rw [e];exact h
def am7 (b:Expr):Prop:=∀ o i,subscripted b false o i=operate [o,i] (getItem o i)
def IxR (X:Cx) (r:R2):Prop:=
 ∀ (value slice:Expr) (pins:List (Addr×Obj)) (s:Shared) (σ:St) (H:Hp) (x y:V) (v u:Value) (Q:VK),Inv X pins σ H s->RelV x v->RelV y u->r x y H Q ->
  subscripted slice false v u=operate [v,u] (getItem v u)->wpAny (model X.prog X.w) X.A (subscriptTail value slice v u) (EP X pins σ Q) X.xe s
def MtR (X:Cx) (id:String) (r:V->List V->Hp->VK->Prop):Prop:=
 ∀ (pins:List (Addr×Obj)) (s:Shared) (σ:St) (H:Hp) (x:V) (xs:List V) (v:Value) (us:List Value) (Q:VK),Inv X pins σ H s->RelV x v->Vals xs us->r x xs H Q ->
  wpAny (model X.prog X.w) X.A (call (.builtin id) (v::us)) (EP X pins σ Q) X.xe s
section
variable {X:Cx} {a b:Expr} {ta tb:TE} {pos:Pos}
theorem br {r:R2} (hr:IxR X r) (ha:PE X a ta) (hb:PE X b tb) (hs:am7 b):PE X (.Subscript a b pos) (tOp r ta tb):=by
 intro pins s σ H Q I h
 exact Subscript_ (aoi ha hb I h λv u s2 x y H2 I2 rx ry q=>hr a b pins s2 σ H2 x y v u Q I2 rx ry q (hs _ _))
def bY (K:W.Frag):R2:=λx y H Q=>∃ p xs i v,x=.ref p/\y=.int i/\SqL K H p xs/\atI xs i=some v/\Q v H
theorem aG:IxR X (bY X.K):=by
 intro value slice pins s σ H x y v u Q I rx ry h hs
 obtain ⟨p,xs,i,z,rfl,rfl,hq,he,q⟩:=h
 cases rx
 obtain ⟨t,rfl⟩:=ry
 obtain ⟨its,r,pl,hz⟩:=I.list hq
 obtain ⟨j,h1,h2,h3,h4,h5⟩:=ant he
 obtain ⟨w,ew,rw'⟩:=r.get h2
 have hl:=r.length
 have hn:=U0
 have fin:EP X pins σ Q w s:=⟨z,H,I,rw',q⟩
 by_cases h0:0<=i
 ·have hj:i.toNat=j:=by
   rw [seqIndex_of h0 h5] at h1
   exact Option.some.inj h1
  exact item_listR pl.isList h0 (by omega) (by rw [hj];simpa using ew) fin hs
 ·have hj:(i+(its.toArray.size:Int)).toNat=j:=by
   rw [seqIndex_neg (by omega) h4] at h1
   rw [List.size_toArray,<-hl]
   exact Option.some.inj h1
  exact subscriptTail_builtinR (x:=w) pl.isList.typeIs slot_list_getitem.lookup
   (wpAny_getItem_list_neg (Q:=λr s'=>r=w/\EP X pins σ Q r s') pl.isList (by omega) (by rw [List.size_toArray]<;>omega) (by omega) (by rw [hj];simpa using ew) ⟨rfl,fin⟩) hs
theorem agQ (its:List Value) (n j:Nat) (u:Value):Obj.mapSeq (·.setIfInBounds j u) { cls:=.type "list",data:=.seq its.toArray n }={ cls:=.type "list",data:=.seq (its.set j u).toArray n }:=by
 simp [Obj.mapSeq]
theorem Inv.lst {pins:List (Addr×Obj)} {σ:St} {H:Hp} {s:Shared} {p:Addr} {xs:List V} (I:Inv X pins σ H s) (h:H p=some (.lst xs)) :
  ∃ (its:List Value) (n:Nat),Vals xs its/\s.heap.get? p=some { cls:=.type "list",data:=.seq its.toArray n }/\xs.length<=sizeLine:=by
 obtain ⟨z,its,n,r,e⟩:=I.hok p _ h
 exact ⟨its,n,r,e,z⟩
theorem Inv.an7 {pins:List (Addr×Obj)} {σ:St} {H:Hp} {s:Shared} {p:Addr} {xs ys:List V} {its its':List Value} {n n':Nat} {f:Obj->Obj} (I:Inv X pins σ H s) (h:H p=some (.lst xs))
  (ho:s.heap.get? p=some { cls:=.type "list",data:=.seq its.toArray n }) (hf:f { cls:=.type "list",data:=.seq its.toArray n }={ cls:=.type "list",data:=.seq its'.toArray n' }) (r:Vals ys its') (hz:ys.length<=sizeLine) (t:Nat) :
  Inv X pins σ (upd H p (.lst ys)) { s with heap:=s.heap.update p f,toks:=t }:=by
 have e:(s.heap.update p f).get? p=some { cls:=.type "list",data:=.seq its'.toArray n' }:=by
  rw [Heap.get?_update_self f ho (by rw [hf]<;>rfl),hf]
 refine I.write (x:=p) (e:=p) (by rw [h];trivial) (.inl rfl) (λb u hb q=>(Heap.get?_update_other _ _ (Ne.symm hb)).trans q) ⟨_,e⟩ ?_
 exact ⟨hz,its',n',r,e⟩
def Xy:V->V->V->Hp->(Hp->Prop)->Prop:=λo i v H Q=>∃ p xs k j,o=.ref p/\i=.int k/\H p=some (.lst xs)/\ixN xs.length k=some j/\Q (upd H p (.lst (xs.set j v)))
theorem set_list:aor X Xy:=by
 intro pins s σ H o i v ov iv u Q I ro ri rv h
 obtain ⟨p,xs,k,j,rfl,rfl,hp,hj,q⟩:=h
 cases ro
 obtain ⟨t,rfl⟩:=ri
 obtain ⟨its,n,r,ho,hz⟩:=I.lst hp
 obtain ⟨h1,h2,h3,h4⟩:=aio hj
 have hl:=r.length
 have hn:=U0
 have I':Inv X pins σ (upd H p (.lst (xs.set j v))) { s with heap:=s.heap.update p (Obj.mapSeq (·.setIfInBounds j u)) }:=
  I.an7 hp ho (agQ its n j u) (r.set rv j) (by rw [List.length_set];exact hz) s.toks
 by_cases h0:0<=k
 ·have hk:k.toNat=j:=by
   rw [seqIndex_of h0 h4] at h1
   exact Option.some.inj h1
  exact PySem.W.ki_setAt ho h0 (by omega) (by rw [List.size_toArray,<-hl];exact h4) (by rw [hk];exact ⟨_,I',q⟩)
 ·have hk:(k+(its.toArray.size:Int)).toNat=j:=by
   rw [seqIndex_neg (by omega) h3] at h1
   rw [List.size_toArray,<-hl]
   exact Option.some.inj h1
  exact PySem.W.ki_setBack ho (by omega) (by rw [List.size_toArray,<-hl];exact h3) (by omega) (by rw [hk];exact ⟨_,I',q⟩)
theorem X6 (lo hi:Option Int) (n:Nat):(sliceBounds lo hi none n).1=((HT.sIx n 0 lo:Nat):Int)/\(sliceBounds lo hi none n).2.1=((HT.sIx n n hi:Nat):Int)/\(sliceBounds lo hi none n).2.2=1:=by
 refine ⟨?_,?_,rfl⟩
 ·cases lo with
  | none=>simp [sliceBounds,HT.sIx]
  | some i=>
   simp only [sliceBounds,HT.sIx,Option.getD_none,show (1:Int) > 0 by decide,if_true]
   by_cases h:i < 0
   ·simp only [h,if_true]<;>omega
   ·simp only [h,if_false]<;>omega
 ·cases hi with
  | none=>simp [sliceBounds,HT.sIx]
  | some i=>
   simp only [sliceBounds,HT.sIx,Option.getD_none,show (1:Int) > 0 by decide,if_true]
   by_cases h:i < 0
   ·simp only [h,if_true]<;>omega
   ·simp only [h,if_false]<;>omega
theorem Wb (its:List Value) (lo hi:Option Int):slicePick its.toArray lo hi none=((its.drop (HT.sIx its.length 0 lo)).take (HT.sIx its.length its.length hi - HT.sIx its.length 0 lo)).toArray:=by
 obtain ⟨h1,h2,h3⟩:=X6 lo hi its.toArray.size
 unfold slicePick
 rw [h1,h2,h3]
 simp only [sliceRange_one,pick_run,List.size_toArray]<;>rfl
def ajJ (K:W.Frag):V->Option Int->Option Int->Hp->VK->Prop:=λx lo hi H Q=>∃ a xs,x=.ref a/\SqL K H a xs/\∀ p,H p=none->Q (.ref p) (upd H p (.lst (Ox xs lo hi)))
theorem RX:SlR X (ajJ X.K):=by
 intro pins s σ H x v vl vu lo hi sl Q I rx hs pl pu h
 obtain ⟨a,xs,rfl,hx,q⟩:=h
 cases rx
 obtain ⟨its,r,ht,hz⟩:=I.list hx
 have hlen:=r.length
 refine ⟨"list",_,slot_list_getitem.lookup,ht.isList.typeIs,?_⟩
 refine wpAny_getItem_list_slice ht.isList hs pl pu .none (by simp) ?_ (by rw [List.size_toArray]<;>omega)
 rw [Wb,<-hlen]
 refine ⟨.ref s.heap.objs.size,_,I.laid (t':=s.toks) (o:=.lst (Ox xs lo hi)) (λb ob q=>Heap.get?_push_of_some _ q) (Nat.le_refl _) ?_,rfl,q _ (I.hok.fresh (Nat.le_refl _))⟩
 exact ⟨Nat.le_trans (aer xs lo hi) hz,_,0,(r.drop (HT.sIx xs.length 0 lo)).take (HT.sIx xs.length xs.length hi - HT.sIx xs.length 0 lo),Heap.get?_push_size _ rfl⟩
def LP:V->Bool
 | .non=>true
 | .bl _=>true
 | .int _=>true
 | .str _=>true
 | _=>false
def eqV:V->V->Bool
 | .non,.non=>true
 | .bl a,.bl b=>a==b
 | .bl a,.int b=>(if a then 1 else 0)==b
 | .int a,.bl b=>a==(if b then 1 else 0)
 | .int a,.int b=>a==b
 | .str a,.str b=>a==b
 | _,_=>false
theorem aoQ {A:Around} {s:Shared} {y x:V} {u v:Value} (ry:RelV y u) (rx:RelV x v) (fy:LP y=true) (fx:LP x=true):SeqAt.EqAt A s u v (eqV y x):=by
 cases y with
 | non=>
  cases ry
  cases x with
  | non=>cases rx;exact SeqAt.EqAt.same _
  | bl b=>cases rx;exact SeqAt.EqAt.none_bool b
  | int b=>obtain ⟨t,rfl⟩:=rx;exact SeqAt.EqAt.none_int b t
  | str b=>obtain ⟨t,rfl⟩:=rx;exact SeqAt.EqAt.none_str b t
  | _=>exact absurd (show false=true from fx) Bool.false_ne_true
 | bl a=>
  cases ry
  cases x with
  | non=>cases rx;exact SeqAt.EqAt.bool_none a
  | bl b=>cases rx;exact SeqAt.EqAt.bool_bool a b
  | int b=>obtain ⟨t,rfl⟩:=rx;exact SeqAt.EqAt.bool_int a b t
  | str b=>obtain ⟨t,rfl⟩:=rx;exact SeqAt.EqAt.bool_str a b t
  | _=>exact absurd (show false=true from fx) Bool.false_ne_true
 | int a=>
  obtain ⟨t',rfl⟩:=ry
  cases x with
  | non=>cases rx;exact SeqAt.EqAt.int_none a t'
  | bl b=>cases rx;exact SeqAt.EqAt.int_bool a t' b
  | int b=>obtain ⟨t,rfl⟩:=rx;exact SeqAt.EqAt.int_int a t' b t
  | str b=>obtain ⟨t,rfl⟩:=rx;exact SeqAt.EqAt.int_str a t' b t
  | _=>exact absurd (show false=true from fx) Bool.false_ne_true
 | str a=>
  obtain ⟨t',rfl⟩:=ry
  cases x with
  | non=>cases rx;exact SeqAt.EqAt.str_none a t'
  | bl b=>cases rx;exact SeqAt.EqAt.str_bool a t' b
  | int b=>obtain ⟨t,rfl⟩:=rx;exact SeqAt.EqAt.str_int a t' b t
  | str b=>obtain ⟨t,rfl⟩:=rx;exact SeqAt.EqAt.str_str a t' b t
  | _=>exact absurd (show false=true from fx) Bool.false_ne_true
 | _=>exact absurd (show false=true from fy) Bool.false_ne_true
def eqU (x:V) (u:Value):Bool:=match u with
 | .none=>eqV .non x
 | .bool b=>eqV (.bl b) x
 | .int i _=>eqV (.int i) x
 | .str z _=>eqV (.str z) x
 | _=>false
theorem akE {x y:V} {u:Value} (r:RelV y u) (f:LP y=true):eqU x u=eqV y x:=by
 cases y with
 | non=>cases r;rfl
 | bl b=>cases r;rfl
 | int i=>obtain ⟨t,rfl⟩:=r;rfl
 | str z=>obtain ⟨t,rfl⟩:=r;rfl
 | _=>exact absurd (show false=true from f) Bool.false_ne_true
theorem Ze {x:V}:∀ {xs:List V} {us:List Value},Vals xs us->xs.all LP=true->us.any (eqU x)=xs.any λy=>eqV y x
 | _,_,.nil,_=>rfl
 | y::xs,u::us,.cons r t,f=>by
  rw [List.all_cons,Bool.and_eq_true] at f
  rw [List.any_cons,List.any_cons,akE r f.1,Ze t f.2]
theorem Sy {A:Around} {s:Shared} {x:V} {v:Value} (rx:RelV x v) (fx:LP x=true):∀ {xs:List V} {us:List Value},Vals xs us->xs.all LP=true->∀ u∈us,SeqAt.EqAt A s u v (eqU x u)
 | _,_,.nil,_=>λu hu=>by cases hu
 | y::xs,u::us,.cons r t,f=>λu' hu=>by
  rw [List.all_cons,Bool.and_eq_true] at f
  rcases List.mem_cons.mp hu with rfl | hu
  ·rw [akE r f.1];exact aoQ r rx f.1 fx
  ·exact Sy rx fx t f.2 u' hu
def inV (x:V) (xs:List V):Bool:=xs.any λy=>eqV y x
def rIn (K:W.Frag) (neg:Bool):R2:=λx y H Q=>∃ p xs,y=.ref p/\(SqL K H p xs\/SqT K H p xs)/\LP x=true/\xs.all LP=true/\Q (.bl (if neg then !inV x xs else inV x xs)) H
theorem YY:OpR X (compareOp .NotIn) (rIn X.K true):=by
 intro pins s σ H x y v u Q I rx ry h
 obtain ⟨p,xs,rfl,hq,fx,fs,q⟩:=h
 cases ry
 rcases hq with hq | hq
 ·obtain ⟨its,r,pl,hz⟩:=I.list hq
  refine SeqAt.notIn_listAt (eqU x) pl.isList (λw hw=>Sy rx fx r fs w (by simpa using hw)) ⟨.bl _,H,I,rfl,?_⟩
  rw [show its.toArray.any (eqU x)=its.any (eqU x) by simp,Ze r fs]
  exact q
 ·obtain ⟨its,r,pl,hz⟩:=I.tuple hq
  refine SeqAt.notIn_tupleAt (eqU x) pl (λw hw=>Sy rx fx r fs w (by simpa using hw)) ⟨.bl _,H,I,rfl,?_⟩
  rw [show its.toArray.any (eqU x)=its.any (eqU x) by simp,Ze r fs]
  exact q
theorem ck:afJ X (.builtin "len") (λxs H Q=>∃ p ys,xs=[.ref p]/\(SqL X.K H p ys\/SqT X.K H p ys)/\Q (.int ys.length) H):=by
 intro pins s σ H xs us Q I r h
 obtain ⟨p,ys,rfl,hq,q⟩:=h
 obtain ⟨u,rfl,rx⟩:=vals1 r
 cases rx
 have hn:=U0
 rcases hq with hq | hq
 ·obtain ⟨its,r',pl,hz⟩:=I.list hq
  have hlen:=r'.length
  exact Calls.call_len_list pl.isList (by simp only [List.size_toArray]<;>omega) ⟨.int ys.length,H,I.tok _,⟨s.toks+1,by rw [List.size_toArray,hlen]⟩,q⟩
 ·obtain ⟨its,r',pl,hz⟩:=I.tuple hq
  have hlen:=r'.length
  exact len_tuple pl (by simp only [List.size_toArray]<;>omega) ⟨.int ys.length,H,I.tok _,⟨s.toks+1,by rw [List.size_toArray,hlen]⟩,q⟩
theorem aaq:afJ X (.type "list") (λxs H Q=>∃ p ys,xs=[.ref p]/\(SqL X.K H p ys\/SqT X.K H p ys)/\∀ l,H l=none->Q (.ref l) (upd H l (.lst ys))):=by
 intro pins s σ H xs us Q I r h
 obtain ⟨p,ys,rfl,hq,q⟩:=h
 obtain ⟨u,rfl,rx⟩:=vals1 r
 cases rx
 have fin:∀ (its:List Value),Vals ys its->ys.length<=sizeLine->∀ (h':Heap) (c':Nat),(∀ b o',s.heap.get? b=some o'->h'.get? b=some o') ->
   h'.get? s.heap.objs.size=some { cls:=.type "list",dict:=none,data:=.seq its.toArray c',slots:=#[] }->EP X pins σ Q (.ref s.heap.objs.size) { s with heap:=h' }:=λits r' hz h' c' kp e=>
  ⟨.ref s.heap.objs.size,_,I.laid (t':=s.toks) kp (Nat.le_refl _) (show jf X.prog X.w _ h' _ (.lst ys) from ⟨hz,its,c',r',e⟩),rfl,q _ (I.hok.fresh (Nat.le_refl _))⟩
 rcases hq with hq | hq
 ·obtain ⟨its,r',pl,hz⟩:=I.list hq
  have hlen:=r'.length
  obtain ⟨o,ho,hc,n,hd⟩:=pl.isList
  exact call_list_seq p (.inl rfl) ho hc hd (λh' c' kp e=>fin its r' hz h' c' kp e) (by simp only [List.size_toArray]<;>omega)
 ·obtain ⟨its,r',pl,hz⟩:=I.tuple hq
  have hlen:=r'.length
  obtain ⟨o,ho,hc,n,hd⟩:=pl
  exact call_list_seq p (.inr rfl) ho hc hd (λh' c' kp e=>fin its r' hz h' c' kp e) (by simp only [List.size_toArray]<;>omega)
def tyV (K:W.Frag) (T:String) (x:V) (H:Hp):Prop:=match x with
 | .str _=>T="str"
 | .int _=>T="int"
 | .ref p=>(T="list"/\∃ xs,SqL K H p xs)\/(T="tuple"/\∃ o,K.lookup p=some o/\o.cls=.type "tuple"/\o.dict=none) \/
   (T="dict"/\((∃ kvs,H p=some (.dK kvs))\/∃ kvs,H p=some (.dT kvs)))\/(T="set"/\∃ S n,H p=some (.set S n))
 | _=>False
theorem akt {pins:List (Addr×Obj)} {σ:St} {H:Hp} {s:Shared} {T:String} {x:V} {v:Value} (I:Inv X pins σ H s) (r:RelV x v) (ty:tyV X.K T x H) :
  s.TypeIs v T/\∀ a,v=.ref a->∃ ob,s.heap.get? a=some ob/\ob.dict=none:=by
 cases x with
 | str z=>
  obtain ⟨t,rfl⟩:=r
  cases (show T="str" from ty)
  exact ⟨typeIs_str s z t,λ_ e=>nomatch e⟩
 | int i=>
  obtain ⟨t,rfl⟩:=r
  cases (show T="int" from ty)
  exact ⟨typeIs_int s i t,λ_ e=>nomatch e⟩
 | ref p=>
  cases r
  rcases ty with ⟨rfl,xs,hq⟩ | ⟨rfl,o,hk,hc,hd⟩ | ⟨rfl,hk⟩ | ⟨rfl,S,n,hk⟩
  ·obtain ⟨its,_,pl,_⟩:=I.list hq
   refine ⟨pl.isList.typeIs,λa e=>?_⟩
   cases e
   obtain ⟨o,n,e,c,hd,_⟩:=pl
   exact ⟨o,e,hd⟩
  ·refine ⟨⟨o,I.kIn p o hk,hc⟩,λa e=>?_⟩
   cases e
   exact ⟨o,I.kIn _ o hk,hd⟩
  ·have z:∃ o,s.heap.get? p=some o/\o.ExactDict:=by
    rcases hk with ⟨kvs,hk⟩ | ⟨kvs,hk⟩
    ·obtain ⟨_,_,_,_,o,_,_,e,ex,_⟩:=I.hok p _ hk
     exact ⟨o,e,ex⟩
    ·obtain ⟨_,_,_,_,o,_,_,e,ex,_⟩:=I.hok p _ hk
     exact ⟨o,e,ex⟩
   obtain ⟨o,e,ex⟩:=z
   refine ⟨⟨o,e,ex.1⟩,λa e2=>?_⟩
   cases e2
   exact ⟨o,e,ex.2.1⟩
  ·obtain ⟨o,_,_,_,e,ex,_⟩:=I.hok p _ hk
   refine ⟨⟨o,e,ex.1⟩,λa e2=>?_⟩
   cases e2
   exact ⟨o,e,ex.2.1⟩
 | _=>exact False.elim ty
def amd (K:W.Frag) (T:String) (r:V->List V->Hp->VK->Prop) (to:TE):TE:=λσ H Q=>to σ H λx H1=>tyV K T x H1/\r x [] H1 Q
def tBM (K:W.Frag) (T:String) (r:V->List V->Hp->VK->Prop) (to:TE) (t:TA):TE:=λσ H Q=>to σ H λx H1=>tyV K T x H1/\t σ H1 λxs H2=>r x xs H2 Q
variable {o e:Expr} {es:List Expr} {to:TE} {t:TA} {name:Str} {apos cpos:Pos} {T id:String} {r:V->List V->Hp->VK->Prop}
theorem alc (pa:PlainAttrs T) (slot:Slot T name id) (hty:typeOf (.builtin id)=pure (.type "method_descriptor")) (hm:MtR X id r) (ho:PE X o to)
  (hbase:attributeBase o name X.env (eval o X.env)=eval o X.env:=by rfl) (hline:(apos.endLine==cpos.line)=true:=by rfl):PE X (.Call (.Attribute o name apos) [] [] cpos) (amd X.K T r to):=by
 intro pins s σ H Q I h
 refine wpAny_Call_method0_late hbase hline (thn (ho pins s σ H _ I h) λv s1 ⟨x,H1,I1,r1,ty,q1⟩=>?_)
 obtain ⟨h1,h2⟩:=akt I1 r1 ty
 exact ⟨T,id,pa,slot,hty,h1,h2,Calls.callWith_builtin rfl (PySem.evalArgs_none (hm pins s1 σ H1 x [] v [] Q I1 r1 .nil q1))⟩
theorem qh (pa:PlainAttrs T) (slot:Slot T name id) (hty:typeOf (.builtin id)=pure (.type "method_descriptor")) (hm:MtR X id r) (ho:PE X o to) (ha:PA X (e::es) t)
  (hbase:attributeBase o name X.env (eval o X.env)=eval o X.env:=by rfl)
  (hfew:((backTo cpos (starEach (e::es) X.env)).all (λx=>!x.1)&&(backToKw cpos (keywordEach [] X.env)).all (λx=>x.1.isSome)
   && decide ((e::es).length+([]:List Keyword).length+(if ([]:List Keyword).isEmpty then 0 else 1) < 30))=true:=by rfl)
  (hline:(apos.endLine==cpos.line)=true:=by rfl) (hs:starEach (e::es) X.env=(false,eval e X.env)::starEach es X.env:=by rfl) (hplain:(backTo cpos (starEach es X.env)).any (·.1)=false:=by rfl) :
  PE X (.Call (.Attribute o name apos) (e::es) [] cpos) (tBM X.K T r to t):=by
 intro pins s σ H Q I h
 refine wpAny_Call_method_late hbase hfew hline rfl (thn (ho pins s σ H _ I h) λv s1 ⟨x,H1,I1,r1,ty,q1⟩=>?_)
 obtain ⟨h1,h2⟩:=akt I1 r1 ty
 refine ⟨T,id,pa,slot,hty,h1,h2,?_⟩
 have hA:=ha cpos pins s1 σ H1 _ I1 q1
 rw [hs] at hA ⊢
 refine Calls.callWith_builtin (by show (false||(backTo cpos (starEach es X.env)).any (·.1))=false;rw [hplain]<;>rfl) (Calls.evalArgs_plain ?_)
 exact thn hA λus s2 ⟨vs,H2,I2,r2,q2⟩=>hm pins s2 σ H2 x vs v us Q I2 r1 r2 q2
end
end L2
namespace L2
open PySem PySem.Spec PyProof.Rows
def MtM (X:Cx) (id:String) (r:V->List V->Hp->VK->Prop):Prop:=
 ∀ (pins:List (Addr×Obj)) (s:Shared) (σ:St) (H:Hp) (x:V) (xs:List V) (v:Value) (us:List Value) (Q:VK),Inv X pins σ H s->RelV x v->Vals xs us->r x xs H Q ->
  wpAny (model X.prog X.w) X.A (call (.builtin id) (v::us)) (EP X pins σ Q) X.xe s
theorem Vals.one:∀ {x:V} {us:List Value},Vals [x] us->∃ u,us=[u]/\RelV x u
 | _,_,.cons r .nil=>⟨_,rfl,r⟩
theorem Vals.rep {xs:List V} {us:List Value} (h:Vals xs us):∀ k:Nat,Vals (List.replicate k xs).flatten (List.replicate k us).flatten
 | 0=>.nil
 | k+1=>by
  rw [List.replicate_succ,List.replicate_succ,List.flatten_cons,List.flatten_cons]
  exact Vals.append h (Vals.rep h k)
theorem foldl_rep (its:List Value):∀ (k:Nat) (acc:List Value),
  List.foldl (λx1 x2=>x1++x2) acc.toArray (List.replicate k its.toArray)=(acc++(List.replicate k its).flatten).toArray
 | 0,acc=>by simp
 | k+1,acc=>by
  have e:acc.toArray++its.toArray=(acc++its).toArray:=by simp
  have e2:(acc++its)++(List.replicate k its).flatten=acc++(List.replicate (k+1) its).flatten:=by
   rw [List.replicate_succ,List.flatten_cons,List.append_assoc]
  rw [<-e2,<-foldl_rep its k (acc++its),<-e,List.replicate_succ,List.foldl_cons]
section
variable {X:Cx} {pins:List (Addr×Obj)} {σ:St} {H:Hp} {s:Shared} {l b:Addr} {xs ys zs:List V}
theorem Inv.ao6 {its its':List Value} {n:Nat} {f:Array Value->Array Value} {t':Nat} (I:Inv X pins σ H s) (hH:H l=some (.lst xs))
  (e:s.heap.get? l=some { cls:=.type "list",data:=.seq its.toArray n }) (hf:f its.toArray=its'.toArray) (hv:Vals ys its') (hz:ys.length<=sizeLine) :
  Inv X pins σ (upd H l (.lst ys)) { s with heap:=s.heap.update l (Obj.mapSeq f),toks:=t' }:=by
 have q:=PySem.IsL.update e f
 rw [hf] at q
 refine I.write (x:=l) (e:=l) (by rw [hH];exact trivial) (.inl rfl) (λb' u hb hu=>(Heap.get?_update_other s.heap (Obj.mapSeq f) (Ne.symm hb)).trans hu) ⟨_,q⟩ ?_
 exact ⟨hz,its',_,hv,q⟩
theorem Inv.UO {its:List Value} {t':Nat} (I:Inv X pins σ H s) (hv:Vals ys its) (hz:ys.length<=sizeLine) :
  Inv X pins σ (upd H s.heap.objs.size (.lst ys)) { s with heap:=s.heap.push { cls:=.type "list",data:=.seq its.toArray },toks:=t' }:=
 I.laid (λ_ _ q=>Heap.get?_push_of_some _ q) (Nat.le_refl _) ⟨hz,its,0,hv,Heap.get?_push_size _ rfl⟩
theorem Inv.fresh (I:Inv X pins σ H s):H s.heap.objs.size=none:=I.hok.fresh (Nat.le_refl _)
theorem Inv.aiE (I:Inv X pins σ H s) (hH:H l=some (.lst xs)):xs.length<=sizeLine/\∃ (its:List Value) (n:Nat),Vals xs its/\xs.length=its.length/\s.heap.get? l=some { cls:=.type "list",data:=.seq its.toArray n }:=by
 obtain ⟨z,its,n,r,e⟩:=I.hok l _ hH
 exact ⟨z,its,n,r,r.length,e⟩
theorem aep {n:Nat} (h:n<=sizeLine):Builtin.List.listTooLong n=false:=by
 unfold Builtin.List.listTooLong
 exact decide_eq_false (by omega)
end
section
variable {X:Cx}
def eX:V->List V->Hp->VK->Prop:=λx vs H Q=>∃ l xs y,x=.ref l/\vs=[y]/\H l=some (.lst xs)/\xs.length < sizeLine/\Q .non (upd H l (.lst (xs++[y])))
theorem dH:MtM X "list.append" eX:=by
 intro pins s σ H x vs v us Q I rx rv h
 obtain ⟨l,xs,y,rfl,rfl,hH,hz,q⟩:=h
 cases rx
 obtain ⟨u,rfl,ru⟩:=rv.one
 obtain ⟨z,its,n,r,hl,e⟩:=I.aiE hH
 refine call_meets F.slot_list_append ⟨_,e,rfl⟩ F.entry_list_append (F.args_list_append_2 _ _) (PySem.list_append l its.toArray n u (by rw [List.size_toArray];omega)) ⟨e,?_⟩
 refine ⟨.non,_,I.ao6 (its':=its++[u]) hH e (by simp) (r.append (.cons ru .nil)) ?_,rfl,q⟩
 rw [List.length_append,List.length_singleton]
 omega
def ahD:V->List V->Hp->VK->Prop:=λx vs H Q=>∃ l b xs zs,x=.ref l/\vs=[.ref b]/\H l=some (.lst xs)/\H b=some (.lst zs)/\xs.length+zs.length<=sizeLine/\Q .non (upd H l (.lst (xs++zs)))
theorem ajz:MtM X "list.extend" ahD:=by
 intro pins s σ H x vs v us Q I rx rv h
 obtain ⟨l,b,xs,zs,rfl,rfl,hH,hB,hz,q⟩:=h
 cases rx
 obtain ⟨u,rfl,ru⟩:=rv.one
 cases ru
 obtain ⟨z,its,n,r,hl,e⟩:=I.aiE hH
 obtain ⟨z2,its2,n2,r2,hl2,e2⟩:=I.aiE hB
 have hsz:its.toArray.size+its2.toArray.size<=sizeLine:=by rw [List.size_toArray,List.size_toArray];omega
 have hlong:¬(!its.toArray.isEmpty&&Builtin.List.listTooLong (its.toArray.size+its2.toArray.size))=true:=by
  rw [aep hsz,Bool.and_false]
  exact Bool.false_ne_true
 refine call_meets F.slot_list_extend ⟨_,e,rfl⟩ F.entry_list_extend (F.args_list_extend_2 _ _)
  (AutoSeq1.list_extend_list_list_0 l its.toArray n b its2.toArray n2 hlong (by rw [List.size_toArray];omega) (by omega)) ⟨e,e2,?_⟩
 refine ⟨.non,_,I.ao6 (its':=its++its2) hH e (by simp) (r.append r2) ?_,rfl,q⟩
 rw [List.length_append]
 omega
def amA:R2:=λx y H Q=>∃ l b xs zs,x=.ref l/\y=.ref b/\H l=some (.lst xs)/\H b=some (.lst zs)/\xs.length+zs.length<=sizeLine/\∀ p,H p=none->Q (.ref p) (upd H p (.lst (xs++zs)))
theorem agx:OpR X (binaryOp .Add) amA:=by
 intro pins s σ H x y v u Q I rx ry h
 obtain ⟨l,b,xs,zs,rfl,rfl,hH,hB,hz,q⟩:=h
 cases rx
 cases ry
 obtain ⟨z,its,n,r,hl,e⟩:=I.aiE hH
 obtain ⟨z2,its2,n2,r2,hl2,e2⟩:=I.aiE hB
 refine PySem.P.add_list e e2 ?_ (by rw [List.size_toArray,List.size_toArray];omega)
 have ea:its.toArray++its2.toArray=(its++its2).toArray:=by simp
 rw [ea]
 exact ⟨.ref _,_,I.UO (t':=s.toks) (r.append r2) (by rw [List.length_append];omega),rfl,q _ I.fresh⟩
def apg:R2:=λx y H Q=>∃ l k xs,x=.ref l/\y=.int k/\H l=some (.lst xs)/\-(2 ^ 63)<=k/\k < 2 ^ 63/\xs.length * k.toNat<=sizeLine /\
 ∀ p,H p=none->Q (.ref p) (upd H p (.lst (List.replicate k.toNat xs).flatten))
theorem len_rep {α:Type} (xs:List α) (k:Nat):(List.replicate k xs).flatten.length=k * xs.length:=by
 induction k with
 | zero=>simp
 | succ k ih=>rw [List.replicate_succ,List.flatten_cons,List.length_append,ih,Nat.succ_mul,Nat.add_comm]
theorem an1:OpR X (binaryOp .Mult) apg:=by
 intro pins s σ H x y v u Q I rx ry h
 obtain ⟨l,k,xs,rfl,rfl,hH,h1,h2,hz,q⟩:=h
 cases rx
 obtain ⟨t,rfl⟩:=ry
 obtain ⟨z,its,n,r,hl,e⟩:=I.aiE hH
 have hlen:its.toArray.size * k.toNat<=sizeLine:=by rw [List.size_toArray,<-hl];exact hz
 have hcap:¬its.toArray.size * k.toNat > (2 ^ 63 - 1) / 8:=by
  have:(sizeLine:Nat)<=(2 ^ 63 - 1) / 8:=by decide
  omega
 have hfit:¬(!Builtin.List.listFitsIndex k)=true:=by
  rw [fitsIndex_both h1 h2]
  exact Bool.false_ne_true
 have hlong:¬Builtin.List.listTooLong (its.toArray.size * k.toNat)=true:=by
  rw [aep hlen]
  exact Bool.false_ne_true
 have hnew:List.foldl (λx1 x2=>x1++x2) #[] (List.replicate (if its.toArray.isEmpty=true then 0 else k.toNat) its.toArray)=(List.replicate k.toNat its).flatten.toArray:=by
  have f0:∀ m:Nat,List.foldl (λx1 x2=>x1++x2) #[] (List.replicate m its.toArray)=(List.replicate m its).flatten.toArray:=λm=>by
   have:=foldl_rep its m []
   rw [List.nil_append] at this
   exact this
  rw [f0]
  cases its with
  | nil=>simp
  | cons a r'=>rw [if_neg (by simp)]
 refine wpAny_binaryOp_repeat_ref (T:="list") (U:="int") (by decide) ⟨_,e,rfl⟩ (λs'=>typeIs_int s' k t) noFill_list_mul F.fills_int_mul F.slot_int_rmul repeat_list F.slot_int_index.lookup
  (call_meets F.slot_int_rmul (typeIs_int s k t) F.entry_int_rmul (F.args_int_rmul_2 _ _) (int___rmul___int_list k t l its.toArray n)
   ⟨e,rfl,⟨_,e,rfl⟩,call_meets F.slot_list_mul ⟨_,e,rfl⟩ F.entry_list_mul (F.args_list_mul_2 _ _) (AutoListH.list___mul___list_int_3 l its.toArray n k t hfit hcap hlong) ⟨e,?_⟩⟩)
 rw [hnew]
 exact ⟨.ref _,_,I.UO (t':=s.toks) (r.rep k.toNat) (by rw [len_rep,Nat.mul_comm];exact hz),rfl,q _ I.fresh⟩
end
end L2
namespace L2
open PySem PySem.Spec PyProof.Rows
theorem Vals.ints:∀ {ns:List Int} {us:List Value},Vals (ns.map V.int) us->IntsAre us ns
 | [],us,h=>by
  rw [List.map_nil] at h
  cases h
  exact IntsAre.nil
 | n::ns,us,h=>by
  rw [List.map_cons] at h
  cases h with
  | cons r t=>
   obtain ⟨k,rfl⟩:=r
   exact IntsAre.cons n k (Vals.ints t)
theorem abC:∀ {us:List Value} {ns:List Int},IntsAre us ns->Vals (ns.map V.int) us
 | _,_,.nil=>by rw [List.map_nil];exact Paired.nil
 | _,_,.cons n t h=>by rw [List.map_cons];exact Paired.cons (show RelV (V.int n) (Value.int n t) from ⟨t,rfl⟩) (abC h)
theorem Vals.apv {a:Addr} {us:List Value} (r:Vals [V.ref a] us):us=[Value.ref a]:=by
 cases r with
 | cons r t=>
  cases t
  cases r
  rfl
end L2
namespace L2
open PySem PySem.Spec PyProof.Rows
abbrev alD (h:Heap) (c:Addr) (v:Option Value):Prop:=h.IsCell c v
def apu (scope sc:Scope):Scope:=
 { scope with names:=scope.names.map λ(n,k)=>if (k==.free&&sc.kind==.function&&sc.names.lookup n==some .cell) then (n,.cell) else (n,k) }
def eZ (cells:List (Str×Addr)):List (Str×NameKind)->List (Str×Addr)->List (Str×Addr)
 | [],acc=>acc
 | (n,k)::r,acc=>if k==.free then eZ cells r ((n,(cells.lookup n).getD 0)::acc) else eZ cells r acc
theorem LN (env:Env) (f:Str×NameKind->List (Str×Addr)->Sem (ForInStep (List (Str×Addr))))
  (hf:∀ n k c,f (n,k) c=if k==.free then (do let a <-cellOf env n;pure (.yield ((n,a)::c))) else pure (.yield c)) :
  ∀ (names:List (Str×NameKind)) (acc:List (Str×Addr)),(∀ y∈names,y.2=.free->∃ c,env.cells.lookup y.1=some c)->forIn names acc f=pure (eZ env.cells names acc)
 | [],acc,_=>by rw [List.forIn_nil];rfl
 | (n,k)::r,acc,h=>by
  rw [List.forIn_cons,hf]
  have ih:=λacc=>LN env f hf r acc λy hy=>h y (List.mem_cons_of_mem _ hy)
  unfold eZ
  by_cases hk:(k==NameKind.free)=true
  ·rw [if_pos hk,if_pos hk]
   obtain ⟨c,hc⟩:=h (n,k) List.mem_cons_self (by simpa using hk)
   have e:cellOf env n=pure c:=by unfold cellOf;rw [hc]
   rw [e]
   have e2:(env.cells.lookup n).getD 0=c:=by rw [hc];rfl
   rw [e2]
   exact ih _
  ·rw [if_neg hk,if_neg hk]
   exact ih _
theorem ahv {scope:Scope} {env:Env} (h:∀ y∈scope.names,y.2=.free->∃ c,env.cells.lookup y.1=some c):closureFor scope env=pure (eZ env.cells scope.names []):=by
 simp only [closureFor]
 rw [LN env _ (λn k c=>rfl) scope.names [] h]
 rfl
theorem mem_lookup {α:Type}:∀ {l:List (Str×α)} {n:Str} {c:α},(n,c)∈l->∃ c',l.lookup n=some c'
 | (k,v)::r,n,c,h=>by
  rw [List.lookup_cons]
  cases hb:n==k with
  | true=>exact ⟨_,rfl⟩
  | false=>
   rcases List.mem_cons.mp h with e | h
   ·cases e;simp at hb
   ·exact mem_lookup h
theorem xO {cells:List (Str×Addr)}:∀ {names:List (Str×NameKind)} {acc:List (Str×Addr)} {n:Str} {c:Addr},(n,c)∈eZ cells names acc->(n,c)∈acc\/((n,.free)∈names/\c=(cells.lookup n).getD 0)
 | [],_,_,_,h=>.inl h
 | (m,k)::r,acc,n,c,h=>by
  unfold eZ at h
  split at h
  ·rename_i hk
   have hk:k=.free:=by simpa using hk
   rcases xO h with h | ⟨h1,h2⟩
   ·rcases List.mem_cons.mp h with e | h
    ·cases e;exact .inr ⟨hk▸List.mem_cons_self,rfl⟩
    ·exact .inl h
   ·exact .inr ⟨List.mem_cons_of_mem _ h1,h2⟩
  ·rcases xO h with h | ⟨h1,h2⟩
   ·exact .inl h
   ·exact .inr ⟨List.mem_cons_of_mem _ h1,h2⟩
theorem ER {cells:List (Str×Addr)}:∀ {names:List (Str×NameKind)} {acc:List (Str×Addr)} {p:Str×Addr},p∈acc->p∈eZ cells names acc
 | [],_,_,h=>h
 | (m,k)::r,acc,p,h=>by
  unfold eZ
  split
  ·exact ER (List.mem_cons_of_mem _ h)
  ·exact ER h
theorem Ft {cells:List (Str×Addr)}:∀ {names:List (Str×NameKind)} {acc:List (Str×Addr)} {n:Str},(n,.free)∈names->(n,(cells.lookup n).getD 0)∈eZ cells names acc
 | (m,k)::r,acc,n,h=>by
  unfold eZ
  rcases List.mem_cons.mp h with e | h
  ·cases e
   exact ER List.mem_cons_self
  ·split
   ·exact Ft h
   ·exact Ft h
theorem AM:∀ {names:List (Str×NameKind)} {h:Heap} {acc:List (Str×Addr)} {x:Str} {c:Addr},(x,c)∈cellsFrom h.objs.size names acc ->
  (x,c)∈acc\/((x,.cell)∈names/\h.objs.size<=c/\alD (pushCells h names) c none)
 | [],_,_,_,_,h=>.inl h
 | (n,k)::r,h,acc,x,c,hm=>by
  unfold cellsFrom at hm
  unfold pushCells
  split at hm
  ·rename_i hk
   rw [if_pos hk]
   have hk:k=.cell:=by simpa using hk
   rw [<-Heap.size_push h { cls:=.type "cell",data:=.cell none }] at hm
   rcases AM hm with hm | ⟨h1,h2,h3⟩
   ·rcases List.mem_cons.mp hm with e | hm
    ·cases e
     exact .inr ⟨hk▸List.mem_cons_self,Nat.le_refl _,_,pushCells_keeps r _ _ _ (Heap.get?_push_size _ rfl),rfl⟩
    ·exact .inl hm
   ·rw [Heap.size_push] at h2
    exact .inr ⟨List.mem_cons_of_mem _ h1,Nat.le_of_succ_le h2,h3⟩
  ·rename_i hk
   rw [if_neg hk]
   rcases AM hm with hm | ⟨h1,h2,h3⟩
   ·exact .inl hm
   ·exact .inr ⟨List.mem_cons_of_mem _ h1,h2,h3⟩
theorem Ih:∀ {names:List (Str×NameKind)} {n:Nat} {acc:List (Str×Addr)} {p:Str×Addr},p∈acc->p∈cellsFrom n names acc
 | [],_,_,_,h=>h
 | (m,k)::r,n,acc,p,h=>by
  unfold cellsFrom
  split
  ·exact Ih (List.mem_cons_of_mem _ h)
  ·exact Ih h
theorem Oz:∀ {names:List (Str×NameKind)} {n:Nat} {acc:List (Str×Addr)} {x:Str},(x,.cell)∈names->∃ c,(x,c)∈cellsFrom n names acc
 | (m,k)::r,n,acc,x,h=>by
  unfold cellsFrom
  rcases List.mem_cons.mp h with e | h
  ·cases e
   exact ⟨n,Ih List.mem_cons_self⟩
  ·split
   ·exact Oz h
   ·exact Oz h
theorem Ov:∀ {names:List (Str×NameKind)} {h:Heap} {acc:List (Str×Addr)} {x y:Str} {c:Addr},(∀ p∈acc,p.2 < h.objs.size)->(∀ x y c,(x,c)∈acc->(y,c)∈acc->x=y) ->
  (x,c)∈cellsFrom h.objs.size names acc->(y,c)∈cellsFrom h.objs.size names acc->x=y
 | [],_,_,_,_,_,_,hi,h1,h2=>hi _ _ _ h1 h2
 | (n,k)::r,h,acc,x,y,c,hl,hi,h1,h2=>by
  unfold cellsFrom at h1 h2
  split at h1
  ·rename_i hk
   rw [if_pos hk] at h2
   rw [<-Heap.size_push h { cls:=.type "cell",data:=.cell none }] at h1 h2
   refine Ov (h:=h.push _) (λp hp=>?_) (λx y c a b=>?_) h1 h2
   ·rw [Heap.size_push]
    rcases List.mem_cons.mp hp with rfl | hp
    ·exact Nat.lt_succ_self _
    ·exact Nat.lt_succ_of_lt (hl p hp)
   ·rcases List.mem_cons.mp a with e | a<;>rcases List.mem_cons.mp b with e' | b
    ·cases e;cases e';rfl
    ·cases e;exact absurd (hl _ b) (Nat.lt_irrefl _)
    ·cases e';exact absurd (hl _ a) (Nat.lt_irrefl _)
    ·exact hi _ _ _ a b
  ·rename_i hk
   rw [if_neg hk] at h2
   exact Ov hl hi h1 h2
theorem aeb {M:Model} {A:Around} {E:Value->Shared->Prop} {s:Shared} {scope:Scope} {globals:Addr} {closure:List (Str×Addr)} {qual:Str} {func:Option Addr} {code:Value} {around:Env} {builtins:Addr} {Q:Env->Shared->Prop}
  (h:Q (newEnv scope s.heap.objs.size globals (cellsFrom (s.heap.objs.size+1) scope.names closure) qual func code (some around) builtins)
   { s with heap:=pushCells (s.heap.push { cls:=.type "dict",data:=.dict #[] }) scope.names }) :
  wpAny M A (newFunctionEnv scope globals closure [] qual func code (some around) builtins) Q E s:=by
 simp only [newFunctionEnv,Option.isSome_some,if_true]
 refine wpAny_bind (wpAny_alloc ?_)
 refine wpAny_bind (wpAny_layCells _ (λn k c=>rfl) scope.names closure _ _ ?_)
 rw [show ({ s with heap:=s.heap.push { cls:=.type "dict",data:=.dict #[] } }:Shared).heap.objs.size=s.heap.objs.size+1 from Heap.size_push ..]
 rw [List.forIn_nil]
 exact wpAny_bind (wpAny_pure (wpAny_pure h))
theorem D8 {sc:Scope}:∀ {names:List (Str×NameKind)} {x:Str} {k:NameKind},
  (names.map λ(n,k)=>if (k==NameKind.free&&sc.kind==.function&&sc.names.lookup n==some .cell) then (n,NameKind.cell) else (n,k)).lookup x=some k ->
  ∃ k',names.lookup x=some k'/\(k=k'\/(k'=.free/\k=.cell))
 | [],_,_,h=>by simp at h
 | (n,k₀)::r,x,k,h=>by
  have ih:=@D8 sc r x k
  have h':List.lookup x ((if (k₀==NameKind.free&&sc.kind==.function&&sc.names.lookup n==some .cell)=true then (n,NameKind.cell) else (n,k₀))::(r.map _))=some k:=h
  cases hx:x==n with
  | true=>
   simp only [List.lookup_cons,hx]
   by_cases hc:(k₀==NameKind.free&&sc.kind==.function&&sc.names.lookup n==some .cell)=true
   ·rw [if_pos hc] at h'
    simp only [List.lookup_cons,hx] at h'
    cases h'
    simp only [Bool.and_eq_true,beq_iff_eq] at hc
    exact ⟨k₀,rfl,.inr ⟨hc.1.1,rfl⟩⟩
   ·rw [if_neg hc] at h'
    simp only [List.lookup_cons,hx] at h'
    cases h'
    exact ⟨_,rfl,.inl rfl⟩
  | false=>
   simp only [List.lookup_cons,hx]
   by_cases hc:(k₀==NameKind.free&&sc.kind==.function&&sc.names.lookup n==some .cell)=true
   ·rw [if_pos hc] at h'
    simp only [List.lookup_cons,hx] at h'
    exact ih h'
   ·rw [if_neg hc] at h'
    simp only [List.lookup_cons,hx] at h'
    exact ih h'
structure ae8 (N:List Str) (sc scope:Scope) (own:List (Str×Nat)):Prop where
 kind:scope.kind=.function
 uniq:∀ y∈scope.names,scope.names.lookup y.1=some y.2
 ix:∀ p∈own,N[p.2]?=some p.1
 free:∀ y∈scope.names,y.2=.free->sc.names.lookup y.1=some .cell\/sc.names.lookup y.1=some .free
 own:∀ y∈scope.names,y.2=.local\/y.2=.cell->y.1∈own.map (·.1)\/y.1∉N
def wipe (σ:St):List Nat->St
 | []=>σ
 | v::vs=>(wipe σ vs).set v none
theorem GS (σ:St):∀ vs:List Nat,(wipe σ vs).length=σ.length
 | []=>rfl
 | v::vs=>by unfold wipe;rw [List.length_set,GS σ vs]
theorem OG {σ:St} {i:Nat} {x:V}:∀ {vs:List Nat},(wipe σ vs)[i]?=some (some x)->σ[i]?=some (some x)/\i∉vs
 | [],h=>⟨h,by simp⟩
 | v::vs,h=>by
  unfold wipe at h
  by_cases hi:v=i
  ·subst hi
   by_cases hv:v < (wipe σ vs).length
   ·rw [List.getElem?_set_self hv] at h;cases h
   ·rw [List.getElem?_eq_none (by simpa using hv)] at h;cases h
  ·rw [List.getElem?_set_ne hi] at h
   obtain ⟨h1,h2⟩:=OG h
   exact ⟨h1,by simp only [List.mem_cons,not_or];exact ⟨λe=>hi e.symm,h2⟩⟩
abbrev Cx.blk (X:Cx) (s:Shared) (H:Hp) (scope:Scope) (cenv:Env) (fp:List Addr):Cx:={ X with s₀:=s,H₀:=H,env:=cenv,outer:=X.stack,ex:=fp,fn:=λx=>scope.names.lookup x==some .cell,pn:=[],xe:=λ_ _=>False }
section
variable {X:Cx} {pins:List (Addr×Obj)} {σ:St} {H:Hp} {s:Shared}
theorem aeK {scope:Scope} {own:List (Str×Nat)} {fp:List Addr} (I:Inv X pins σ H s) (ok:ae8 X.N X.env.scope scope own) (hN:X.N.Nodup) (hfp:∀ b∈fp,Ud X pins H b/\b < s.heap.objs.size) :
  Inv (X.blk s H scope (compEnvC scope (cellsFrom (s.heap.objs.size+1) scope.names (eZ X.env.cells scope.names [])) s.heap.objs.size X.env) fp) [] (wipe σ (own.map (·.2))) H { s with heap:=pushCells (s.heap.push { cls:=.type "dict",data:=.dict #[] }) scope.names }:=by
 have hfree:∀ y∈scope.names,y.2=.free->∃ c,X.env.cells.lookup y.1=some c:=λy hy e=>by
  rcases ok.free y hy e with k | k
  ·exact I.ok.has _ (.inl k)
  ·exact I.ok.has _ (.inr k)
 generalize hcenv:compEnvC scope (cellsFrom (s.heap.objs.size+1) scope.names (eZ X.env.cells scope.names [])) s.heap.objs.size X.env=cenv
 have kp:∀ b o,s.heap.get? b=some o->(pushCells (s.heap.push { cls:=.type "dict",data:=.dict #[] }) scope.names).get? b=some o:=λb o e=>pushCells_keeps _ _ _ _ (Heap.get?_push_of_some _ e)
 have hL:cenv.locals=s.heap.objs.size:=by rw [<-hcenv];rfl
 have hcl:cenv.cells=cellsFrom (s.heap.objs.size+1) scope.names (eZ X.env.cells scope.names []):=by rw [<-hcenv];rfl
 have hsc:cenv.scope=apu scope X.env.scope:=by rw [<-hcenv];rfl
 rw [<-Heap.size_push s.heap { cls:=.type "dict",data:=.dict #[] }] at hcl
 have cm:∀ {y c},(y,c)∈eZ X.env.cells scope.names []->X.env.cells.lookup y=some c/\c < s.heap.objs.size:=λ{y c} hm=>by
  rcases xO hm with hm | ⟨h1,rfl⟩
  ·cases hm
  ·obtain ⟨c,hc⟩:=hfree _ h1 rfl
   rw [hc]
   obtain ⟨w,z⟩:=I.cell _ _ hc
   exact ⟨rfl,z.lt⟩
 have mem:∀ {y c},cenv.cells.lookup y=some c->(X.env.cells.lookup y=some c/\c < s.heap.objs.size)\/(s.heap.objs.size+1<=c/\alD (pushCells (s.heap.push { cls:=.type "dict",data:=.dict #[] }) scope.names) c none):=λ{y c} e=>by
  rw [hcl] at e
  rcases AM (PySem.mem_of_lookup e) with hm | ⟨_,h2,h3⟩
  ·exact .inl (cm hm)
  ·rw [Heap.size_push] at h2;exact .inr ⟨h2,h3⟩
 have look:∀ {y},scope.names.lookup y=some .free->∃ c,cenv.cells.lookup y=some c/\X.env.cells.lookup y=some c:=λ{y} hl=>by
  have hy:(y,NameKind.free)∈scope.names:=PySem.mem_of_lookup hl
  obtain ⟨c',e'⟩:=mem_lookup (Ih (names:=scope.names) (n:=(s.heap.push { cls:=.type "dict",data:=.dict #[] }).objs.size) (Ft (cells:=X.env.cells) (acc:=[]) hy))
  rw [<-hcl] at e'
  refine ⟨c',e',?_⟩
  rw [hcl] at e'
  rcases AM (PySem.mem_of_lookup e') with hm | ⟨h1,_,_⟩
  ·exact (cm hm).1
  ·have:=ok.uniq _ h1
   rw [hl] at this;cases this
 have okB:(X.blk s H scope cenv fp).Ok:=by
  refine ⟨I.ok.mod,by show cenv.scope.kind=_;rw [hsc];exact ok.kind,by show cenv.globals=_;rw [<-hcenv];exact I.ok.glob,by show cenv.builtins=_;rw [<-hcenv];exact I.ok.blt,by show s.heap.objs.size<=cenv.locals;rw [hL];exact Nat.le_refl _,
   λy z c e1 e2=>?_,λy hy=>?_,λy c z e=>?_,I.ok.hd,I.ok.frames,.inl rfl,λb hb=>⟨?_,λy c e z=>?_⟩,I.bs,Nat.le_trans I.ok.bsz I.sz,λb o e hb=>?_,λb hb z=>?_,I.stack,I.ah5⟩
  ·have e1:cenv.cells.lookup y=some c:=e1
   have e2:cenv.cells.lookup z=some c:=e2
   rw [hcl] at e1 e2
   refine Ov (λp hp=>?_) (λy z c a b=>I.ok.inj y z c (cm a).1 (cm b).1) (PySem.mem_of_lookup e1) (PySem.mem_of_lookup e2)
   rw [Heap.size_push]
   exact Nat.lt_succ_of_lt (cm (y:=p.1) (c:=p.2) hp).2
  ·show ∃ c,cenv.cells.lookup y=some c
   have key:∀ k,cenv.kindOf y=some k->(k=.cell\/k=.free)->∃ c,cenv.cells.lookup y=some c:=λk hk hk'=>by
    unfold Env.kindOf at hk
    rw [hsc] at hk
    obtain ⟨k',e,r⟩:=D8 hk
    have:k'=.cell\/k'=.free:=by
     rcases r with rfl | ⟨rfl,_⟩
     ·exact hk'
     ·exact .inr rfl
    rcases this with rfl | rfl
    ·obtain ⟨c,hm⟩:=Oz (n:=(s.heap.push { cls:=.type "dict",data:=.dict #[] }).objs.size) (acc:=eZ X.env.cells scope.names []) (PySem.mem_of_lookup e)
     obtain ⟨c',e'⟩:=mem_lookup hm
     exact ⟨c',by rw [hcl];exact e'⟩
    ·obtain ⟨c,h1,_⟩:=look e
     exact ⟨c,h1⟩
   rcases hy with hy | hy
   ·exact key _ hy (.inl rfl)
   ·exact key _ hy (.inr rfl)
  ·have z:(scope.names.lookup y==some NameKind.cell)=true:=z
   have z:scope.names.lookup y=some .cell:=by simpa using z
   have e:cenv.cells.lookup y=some c:=e
   rw [hcl] at e
   rcases AM (PySem.mem_of_lookup e) with hm | ⟨_,h2,_⟩
   ·rcases xO hm with hm | ⟨h1,_⟩
    ·cases hm
    ·have q:=ok.uniq _ h1
     rw [z] at q;cases q
   ·rw [Heap.size_push] at h2
    exact Nat.le_of_succ_le h2
  ·show b≠cenv.locals
   rw [hL];exact Nat.ne_of_lt (hfp b hb).2
  ·have e:cenv.cells.lookup y=some c:=e
   rcases mem e with ⟨h1,_⟩ | ⟨h1,_⟩
   ·exact (hfp b hb).1.2.2.2.2.1 y c h1 z
   ·have h2:s.heap.objs.size+1<=b:=by rw [<-z];exact h1
    exact absurd (Nat.lt_of_lt_of_le (hfp b hb).2 (Nat.le_of_succ_le h2)) (Nat.lt_irrefl _)
  ·rcases (hfp b hb).1.2.2.2.1 with z | z
   ·exact I.ok.ak3 b o e z
   ·exact absurd (Nat.lt_of_lt_of_le (Heap.lt_size e) (Nat.le_trans I.ok.bsz z)) (Nat.lt_irrefl _)
  ·rcases List.mem_cons.mp (I.agU b z) with z | z
   ·exact (hfp b hb).1.2.1 z
   ·exact (hfp b hb).1.2.2.1 z
 refine ⟨okB,rfl,I.bare,Un.kept kp,⟨λ_=>none,?_,λi y av e1 e2 e3=>?_⟩,λy c e=>?_,?_,λy c e=>?_,λp hp=>?_,I.hok.kept kp,by rw [GS];exact I.len⟩
 ·show Heap.Ns _ cenv.locals _
  rw [hL]
  exact Heap.Ns.keeps (Heap.Ns.new ..) λb o e=>pushCells_keeps _ _ _ _ e
 ·obtain ⟨e2,hne⟩:=OG e2
  have hfr:scope.names.lookup y=some .free/\(cenv.kindOf y=some .cell\/cenv.kindOf y=some .free):=by
   have key:∀ k,cenv.scope.names.lookup y=some k->k=.local\/k=.cell\/k=.free->scope.names.lookup y=some .free/\(cenv.kindOf y=some .cell\/cenv.kindOf y=some .free):=λk hk hk'=>by
    have hk0:=hk
    rw [hsc] at hk
    obtain ⟨k',e,r⟩:=D8 hk
    have no:¬(k'=.local\/k'=.cell):=λhh=>by
     rcases ok.own _ (PySem.mem_of_lookup e) hh with e' | e'
     ·obtain ⟨p,hp,hpy⟩:=List.mem_map.mp e'
      have e3:=ok.ix p hp
      have:p.1=y:=hpy
      rw [this] at e3
      exact hne (List.mem_map.mpr ⟨p,hp,UJ hN e3 e1⟩)
     ·exact e' (List.mem_of_getElem? e1)
    rcases r with rfl | ⟨rfl,rfl⟩
    ·rcases hk' with rfl | rfl | rfl
     ·exact absurd (.inl rfl) no
     ·exact absurd (.inr rfl) no
     ·exact ⟨e,.inr hk0⟩
    ·exact ⟨e,.inl hk0⟩
   have e3:Vis cenv.scope y:=e3
   rcases e3 with e3 | e3 | e3
   ·exact key _ e3 (.inl rfl)
   ·exact key _ e3 (.inr (.inl rfl))
   ·exact key _ e3 (.inr (.inr rfl))
  obtain ⟨m,hn,hl⟩:=I.loc
  have hvis:Vis X.env.scope y:=(ok.free _ (PySem.mem_of_lookup hfr.1) rfl).elim (λk=>.inr (.inl k)) (λk=>.inr (.inr k))
  obtain ⟨w,r,q⟩:=hl i y av e1 e2 hvis
  refine ⟨w,r,.inr ⟨hfr.2,?_⟩⟩
  obtain ⟨c,h1,h2⟩:=look hfr.1
  rcases q with ⟨k,_⟩ | ⟨_,c',e',z⟩
  ·have k:X.env.scope.names.lookup y=some .local:=k
   rcases ok.free _ (PySem.mem_of_lookup hfr.1) rfl with k' | k'<;>rw [show X.env.scope.names.lookup y=_ from k'] at k<;>cases k
  ·rw [h2] at e';cases e'
   exact ⟨c,h1,z.keeps kp⟩
 ·have e:cenv.cells.lookup y=some c:=e
  rcases mem e with ⟨h1,_⟩ | ⟨_,z⟩
  ·obtain ⟨w,z⟩:=I.cell y c h1
   exact ⟨w,z.keeps kp⟩
  ·exact ⟨_,z⟩
 ·show H cenv.locals=none
  rw [hL];exact I.hok.fresh (Nat.le_refl _)
 ·have e:cenv.cells.lookup y=some c:=e
  rcases mem e with ⟨h1,_⟩ | ⟨h1,_⟩
  ·exact I.AL y c h1
  ·exact I.hok.fresh (Nat.le_of_succ_le h1)
 ·exact absurd (show p∈([]:List (Addr×Obj))++[] from hp) (by simp)
theorem aoL {E:Value->Shared->Prop} {D:Addr} {xs:List V} {y:V} {v:Value} {Q:Value->Shared->Prop} (I:Inv X pins σ H s) (hD:H D=some (.lst xs)) (hz:xs.length < sizeLine) (r:RelV y v)
  (h:∀ s',Inv X pins σ (upd H D (.lst (xs++[y]))) s'->Q .none s'):wpAny (model X.prog X.w) X.A (call (.builtin "list.append") [.ref D,v]) Q E s:=by
 obtain ⟨hz',its,n,ri,e⟩:=I.hok D _ hD
 have hl:=ri.length
 refine append_at (hsz:=by rw [List.size_toArray];omega) e λh' sb ho'=>?_
 refine h { s with heap:=h' } (I.write (t':=s.toks) (by rw [hD];trivial) (.inl rfl) (λb u hb q=>(sb.2 b hb).trans q) ⟨_,ho'⟩ ⟨by rw [List.length_append];exact hz,its++[v],n+1,ri.append (.cons r .nil),?_⟩)
 rw [ho']
 simp
def PTs (X:Cx) (ifs:List Expr) (t:TT):Prop:=
 ∀ (pins:List (Addr×Obj)) (s:Shared) (σ:St) (H:Hp) (Q:Bool->Hp->Prop),Inv X pins σ H s->t σ H Q ->
  wpAny (model X.prog X.w) X.A (forIn ifs true λc r=>if r=true then do let ok <-isTrue c X.env (eval c X.env);pure (ForInStep.yield ok) else pure (ForInStep.yield r)) (TP X pins σ Q) X.xe s
def abv:TT:=λ_ H Q=>Q true H
theorem RY:PTs X [] abv:=λ_ _ _ H _ I h=>wpAny_tests_nil ⟨H,I,h⟩
theorem LH {c:Expr} {t:TT} (h:PT X c t):PTs X [c] t:=λpins s σ H Q I hw=>wpAny_tests_one (h pins s σ H Q I hw)
end
theorem ajq {α:Type} {t:Sem α} {Q Q':α->Shared->Prop} {M:Model} {A:Around} {E:Value->Shared->Prop} {s:Shared} (h:wpAny M A t Q (λ_ _=>False) s) (hQ:∀ a s,Q a s->Q' a s):wpAny M A t Q' E s:=wpAny_mono h hQ λ_ _ z=>False.elim z
theorem aav {prog:Program} {w:World} {A:Around} {R:Result->Shared->Prop} {s:Shared} {elt target iter:Expr} {ifs:List Expr} {scope:Scope} {pos:Pos} {it acc:Value} {env:Env} (I:Nat->Shared->Prop)
  (turn:∀ n s,I n s->wpAny (model prog w) A (pyNext it) (λr s₁=>match r with
   | none=>R (.ok .next) s₁
   | some v=>wpAny (model prog w) A (letOwnedTupleGo target it v) (λ_ s₁'=>wpAny (model prog w) A (assign target env v) (λ_ s₂=>
     wpAny (model prog w) A (forIn ifs true λc r=>if r=true then do let ok <-isTrue c env (eval c env);pure (ForInStep.yield ok) else pure (ForInStep.yield r)) (λok s₃=>
      if ok=true then wpAny (model prog w) A (eval elt env) (λx s₄=>
       wpAny (model prog w) A (call (.builtin "list.append") [acc,x]) (λ_ s₅=>∃ m,m < n/\I m s₅) (notedBy (model prog w) A env λe s'=>R (.error e) s') s₄) (notedBy (model prog w) A env λe s'=>R (.error e) s') s₃
      else ∃ m,m < n/\I m s₃) (notedBy (model prog w) A env λe s'=>R (.error e) s') s₂) (notedBy (model prog w) A env λe s'=>R (.error e) s') s₁') (notedBy (model prog w) A env λe s'=>R (.error e) s') s₁) (notedBy (model prog w) A env λe s'=>R (.error e) s') s)
  (n:Nat) (h:I n s) :
  codeAny (model prog w) A (.compLoop (.ListComp elt [⟨target,iter,ifs,0⟩] scope pos) 0 it acc env) R s:=by
 refine codeAny_loop rfl I (λn s hI=>?_) n h
 show wpAny _ A ((compTurn (.ListComp elt [⟨target,iter,ifs,0⟩] scope pos) 0 it acc env).onRaise (λx=>do noteFrame x env;theTreesLotGoes x)) _ _ s
 refine wpAny_noted ?_
 rw [compTurn_list]
 refine wpAny_bind (wpAny_standAt (wpAny_bind (wpAny_mono (turn n s hI) (λr s₁ h₁=>?_) λ_ _ h'=>h')))
 cases r with
 | none=>exact wpAny_pure h₁
 | some v=>
  refine wpAny_bind (wpAny_mono h₁ (λ_ s₁' h₁'=>?_) λ_ _ h'=>h')
  refine wpAny_bind (wpAny_mono h₁' (λ_ s₂ h₂=>wpAny_bind (wpAny_mono h₂ (λok s₃ h₃=>?_) λ_ _ h'=>h')) λ_ _ h'=>h')
  cases ok with
  | false=>exact wpAny_pure ⟨rfl,h₃⟩
  | true=>
   exact wpAny_bind (wpAny_bind (wpAny_mono h₃ (λx s₄ h₄=>wpAny_bind (wpAny_mono h₄ (λ_ s₅ h₅=>wpAny_pure (wpAny_pure ⟨rfl,h₅⟩)) λ_ _ h'=>h')) λ_ _ h'=>h'))
section
variable {X:Cx}
def tLc (wi:TI) (g:TG) (tt:TT) (te:TE) (vs:List Nat):TE:=λσ H Q=>wi σ H λJ H1=>∀ D,H1 D=none->∃ W:Nat->Nat->Hp->Prop,(∃ m,W 0 m (upd H1 D (.lst [])))/\∀ i m H,W i m H ->
 (J.stop i H/\Q (.ref D) H)\/(J.go i H/\∃ Nx:Hp->Prop,(∀ H',Nx H'->∃ m',m' < m/\W (i+1) m' H')/\∀ x H',J.yld i H x H'->g x (wipe σ vs) H' λσ2 H2=>wipe σ2 vs=wipe σ vs/\tt σ2 H2 λb H3=>
  if b=true then te σ2 H3 λy H4=>∃ acc,H4 D=some (.lst acc)/\acc.length < sizeLine/\Nx (upd H4 D (.lst (acc++[y]))) else Nx H3)
theorem aia {pins:List (Addr×Obj)} {s:Shared} {σ:St} {H:Hp} {Q:VK} {elt tg iter:Expr} {ifs:List Expr} {scope:Scope} {own:List (Str×Nat)} {pos pos':Pos} {wi:TI} {g:TG} {tt:TT} {te:TE} {use:Option (Value->Sem Unit)} {Qf:Value->Shared->Prop}
  (hc:X.calm=true) (hN:X.N.Nodup) (I:Inv X pins σ H s) (hi:PI X tg iter wi) (ok:ae8 X.N X.env.scope scope own)
  (hg:∀ (s:Shared) (H:Hp) (C:Addr) (cl:List (Str×Addr)) (fp:List Addr),PG (X.blk s H scope (compEnvC scope cl C X.env) fp) tg g) (ht:∀ (s:Shared) (H:Hp) (C:Addr) (cl:List (Str×Addr)) (fp:List Addr),PTs (X.blk s H scope (compEnvC scope cl C X.env) fp) ifs tt)
  (he:∀ (s:Shared) (H:Hp) (C:Addr) (cl:List (Str×Addr)) (fp:List Addr),PE (X.blk s H scope (compEnvC scope cl C X.env) fp) elt te) (hs:∀ x,foldedSetIterable iter X.env x=pure x)
  (h:tLc wi g tt te (own.map (·.2)) σ H Q)
  (hRR:∀ D C s' m H',Inv X pins σ H' s'->Q (.ref D) H'->s'.heap.Ns C m->Ud X pins H' C->compPost (model X.prog X.w) X.A X.xe use Qf (.ref D) C (.ok .next) s') :
  wpAny (model X.prog X.w) X.A (comprehension (.ListComp elt [⟨tg,iter,ifs,0⟩] scope pos) scope X.env pos' (newList []) false (eval iter X.env) use) Qf X.xe s:=by
 have hfree:∀ y∈scope.names,y.2=.free->∃ c,X.env.cells.lookup y.1=some c:=λy hy e=>by
  rcases ok.free y hy e with k | k
  ·exact I.ok.has _ (.inl k)
  ·exact I.ok.has _ (.inr k)
 refine wpAny_comprehension_free (use:=use) rfl hs (ahv hfree) ok.kind (λy hy e=>by rw [ok.uniq y hy,e])
  (thn (hi pins s σ H _ I h) λxv s1 hx=>thn hx λitv s2 h2=>?_)
 obtain ⟨it,fp,tn,J,H2,e,I2,T,st2,f2,q⟩:=h2
 subst e
 refine wpAny_newObj_type (aeb ?_) (by show 0<=sizeLine;decide)
 generalize hD:s2.heap.objs.size=D
 have hDn:H2 D=none:=I2.hok.fresh (Nat.le_of_eq hD)
 obtain ⟨W,⟨m0,w0⟩,turn⟩:=q D hDn
 generalize hs3:({ s2 with heap:=s2.heap.push { cls:=.type "list",data:=.seq ([]:List Value).toArray } }:Shared)=s3
 have I3:Inv X pins σ (upd H2 D (.lst [])) s3:=by
  rw [<-hs3]
  refine I2.laid (t':=s2.toks) (λb o e=>Heap.get?_push_of_some _ e) (Nat.le_of_eq hD) ⟨Nat.zero_le _,[],0,.nil,?_⟩
  rw [<-hD]
  exact Heap.get?_push_size _ rfl
 have h3:s3.heap=s2.heap.push { cls:=.type "list",data:=.seq ([]:List Value).toArray }:=by rw [<-hs3]
 have sz:∀ b∈fp,b < s2.heap.objs.size:=λb hb=>by
  obtain ⟨o,e,_⟩:=T.obj _ _ st2 b hb
  exact Heap.lt_size e
 have f3:∀ b∈fp,Ud X pins (upd H2 D (.lst [])) b/\b < s3.heap.objs.size:=λb hb=>by
  have hlt:=sz b hb
  refine ⟨⟨?_,(f2 b hb).2⟩,by rw [h3,Heap.size_push];exact Nat.lt_succ_of_lt hlt⟩
  rw [aq (by rw [<-hD];exact Nat.ne_of_lt hlt)]
  exact (f2 b hb).1
 have st3:tn 0 s3.heap:=T.keep _ _ _ st2 λb _ o e=>by rw [h3];exact Heap.get?_push_of_some _ e
 have I4:=aeK I3 ok hN f3
 have pg:=hg s3 (upd H2 D (.lst [])) s3.heap.objs.size (cellsFrom (s3.heap.objs.size+1) scope.names (eZ X.env.cells scope.names [])) fp
 have pt:=ht s3 (upd H2 D (.lst [])) s3.heap.objs.size (cellsFrom (s3.heap.objs.size+1) scope.names (eZ X.env.cells scope.names [])) fp
 have pe:=he s3 (upd H2 D (.lst [])) s3.heap.objs.size (cellsFrom (s3.heap.objs.size+1) scope.names (eZ X.env.cells scope.names [])) fp
 show codeAny _ _ (.compStart (.ListComp elt [⟨tg,iter,ifs,0⟩] scope pos) 0 (.ref it) (.ref D) (compEnvC scope (cellsFrom (s3.heap.objs.size+1) scope.names (eZ X.env.cells scope.names [])) s3.heap.objs.size X.env)) (compPost (model X.prog X.w) X.A X.xe use Qf (.ref D) s3.heap.objs.size) { s3 with heap:=pushCells (s3.heap.push { cls:=.type "dict",data:=.dict #[] }) scope.names }
 have nfp:∀ b∈fp,(upd H2 D (.lst [])) b=none:=λb hb=>(f3 b hb).1.1
 generalize hce:compEnvC scope (cellsFrom (s3.heap.objs.size+1) scope.names (eZ X.env.cells scope.names [])) s3.heap.objs.size X.env=ce at I4 pg pt pe ⊢
 have cL:ce.locals=s3.heap.objs.size:=by subst hce;rfl
 generalize hH3:upd H2 D (.lst [])=H3 at I3 I4 pg pt pe w0 nfp f3
 generalize hs4:({ s3 with heap:=pushCells (s3.heap.push { cls:=.type "dict",data:=.dict #[] }) scope.names }:Shared)=s4 at I4 ⊢
 have st4:tn 0 s4.heap:=T.keep _ _ _ st3 λb _ o e=>by rw [<-hs4];exact pushCells_keeps _ _ _ _ (Heap.get?_push_of_some _ e)
 have stat:∀ {σ':St} {H':Hp} {s':Shared},Inv (X.blk s3 H3 scope ce fp) [] σ' H' s'->(∀ b∈fp,H' b=none)->∀ b∈fp,Ud (X.blk s3 H3 scope ce fp) [] H' b:=λ{σ' H' s'} I' hn b hb=>
  ⟨hn b hb,(I'.ok.exf b hb).1,I'.ok.alj b hb,.inl hb,λx c e=>(I'.ok.exf b hb).2 x c e,λp hp=>absurd (show p∈([]:List (Addr×Obj))++[] from hp) (by simp)⟩
 have loop:codeAny (model X.prog X.w) X.A (.compLoop (.ListComp elt [⟨tg,iter,ifs,0⟩] scope pos) 0 (.ref it) (.ref D) ce) (compPost (model X.prog X.w) X.A X.xe use Qf (.ref D) s3.heap.objs.size) s4:=by
  refine aav (λn s'=>∃ i H',Inv (X.blk s3 H3 scope ce fp) [] (wipe σ (own.map (·.2))) H' s'/\tn i s'.heap/\(∀ b∈fp,H' b=none)/\W i n H') ?_ m0 ⟨0,H3,I4,st4,nfp,w0⟩
  rintro n s5 ⟨i,H5,I5,st5,n5,w5⟩
  rcases turn i n H5 w5 with ⟨stop,qq⟩ | ⟨go,Nx,hNx,step⟩
  ·have td:=T.done (X.blk s3 H3 scope ce fp) rfl rfl rfl hc i [] s5 _ H5 (λ_ _=>False) I5 (stat I5 n5) st5 stop
   refine ajq td λr s6 ⟨hr,I6⟩=>?_
   subst hr
   have I7:Inv X pins σ H5 s6:=I3.ao5 (ch:=fp) I6.os I6.base I6.hok I6.bare λb hb=>⟨(f3 b hb).1.2.2.2.1,(f3 b hb).1.2.1,(f3 b hb).1.2.2.2.2.1,(f3 b hb).1.2.2.2.2.2⟩
   have nC:H5 s3.heap.objs.size=none:=by
    have z:H5 ce.locals=none:=I6.free
    rw [cL] at z
    exact z
   obtain ⟨m,hn,_⟩:=I6.loc
   have hn:s6.heap.Ns ce.locals m:=hn
   rw [cL] at hn
   exact hRR D s3.heap.objs.size s6 m H5 I7 qq hn (I3.amI (Nat.le_refl _) nC)
  ·have ti:=T.item (X.blk s3 H3 scope ce fp) rfl rfl rfl hc i [] s5 _ H5 (λ_ _=>False) I5 (stat I5 n5) st5 go
   refine ajq ti λr s6 ⟨u,hr,h6⟩=>?_
   subst hr
   refine ajq h6 λ_ s7 ⟨x,H7,I7,r7,y7,st7,n7⟩=>?_
   have I7':=I7.pinned (stat I7 n7) (T.obj _ _ st7)
   refine ajq (pg _ s7 _ H7 x u _ I7' r7 (step x H7 y7)) λ_ s8 ⟨σ8,H8,I8,hw8,q8⟩=>?_
   refine ajq (pt _ s8 σ8 H8 _ I8 q8) λb s9 ⟨H9,I9,q9⟩=>?_
   have fin:∀ {s':Shared} {H':Hp},Inv (X.blk s3 H3 scope ce fp) ([]++T5 fp s7.heap) σ8 H' s'->Nx H'->∃ m,m < n/\∃ i H',Inv (X.blk s3 H3 scope ce fp) [] (wipe σ (own.map (·.2))) H' s'/\tn i s'.heap/\(∀ b∈fp,H' b=none)/\W i m H':=λ{s' H'} I' nx=>by
    obtain ⟨m',hm,w'⟩:=hNx H' nx
    have pin':∀ b∈fp,∀ o,s7.heap.get? b=some o->s'.heap.get? b=some o/\H' b=none:=λb hb o e=>
     let z:=I'.pin (b,o) (List.mem_append_right _ (List.mem_append_right _ (Kz hb e)))
     ⟨z.1,z.2.1⟩
    have hl:(wipe σ (own.map (·.2))).length=σ8.length:=by rw [<-hw8,GS]
    refine ⟨m',hm,i+1,H',(I'.Nk (pins:=[])).weak hl (λj v e=>?_),T.keep _ _ _ st7 λb hb o e=>(pin' b hb o e).1,λb hb=>?_,w'⟩
    ·rw [<-hw8] at e
     exact (OG e).1
    ·obtain ⟨o,e,_⟩:=T.obj _ _ st7 b hb
     exact (pin' b hb o e).2
   cases b with
   | false=>
    simp only [Bool.false_eq_true,if_false] at q9 ⊢
    exact fin I9 q9
   | true=>
    simp only [if_true] at q9 ⊢
    refine ajq (pe _ s9 σ8 H9 _ I9 q9) λz s10 ⟨yv,H10,I10,r10,acc,hD10,hz10,nx⟩=>?_
    exact aoL (X:=X.blk s3 H3 scope ce fp) I10 hD10 hz10 r10 λs11 I11=>fin I11 nx
 exact codeAny_compStart_list loop (T.self X.A 0 _ _ _ st4 loop)
theorem Xa {elt tg iter:Expr} {ifs:List Expr} {scope:Scope} {own:List (Str×Nat)} {pos:Pos} {wi:TI} {g:TG} {tt:TT} {te:TE} (hc:X.calm=true) (hN:X.N.Nodup) (hi:PI X tg iter wi) (ok:ae8 X.N X.env.scope scope own)
  (hg:∀ (s:Shared) (H:Hp) (C:Addr) (cl:List (Str×Addr)) (fp:List Addr),PG (X.blk s H scope (compEnvC scope cl C X.env) fp) tg g) (ht:∀ (s:Shared) (H:Hp) (C:Addr) (cl:List (Str×Addr)) (fp:List Addr),PTs (X.blk s H scope (compEnvC scope cl C X.env) fp) ifs tt)
  (he:∀ (s:Shared) (H:Hp) (C:Addr) (cl:List (Str×Addr)) (fp:List Addr),PE (X.blk s H scope (compEnvC scope cl C X.env) fp) elt te) (hs:∀ x,foldedSetIterable iter X.env x=pure x:=by intro _;rfl) :
  PE X (.ListComp elt [⟨tg,iter,ifs,0⟩] scope pos) (tLc wi g tt te (own.map (·.2))):=by
 intro pins s σ H Q I h
 rw [eval_ListComp]
 refine aia hc hN I hi ok hg ht he hs h λD C s' m H' I' q hn f=>⟨m,hn,λh'' sb=>?_⟩
 obtain ⟨f0,f1,f2,f3,f4,f5⟩:=f
 exact ⟨.ref D,H',I'.turned (t':=s'.toks) (λb o hb e=>(sb.2 b hb).trans e) f0 f1 f3 f4 f5,rfl,q⟩
theorem SX {i:Nat} {y:Str} {py:Pos} {elt tg iter:Expr} {ifs:List Expr} {scope:Scope} {own:List (Str×Nat)} {pos spos:Pos} {wi:TI} {g:TG} {tt:TT} {te:TE} (hc:X.calm=true) (hN:X.N.Nodup) (hy:X.N[i]?=some y) (hyl:X.env.scope.names.lookup y=some .local)
  (hsw:swapsWith (.ListComp elt [⟨tg,iter,ifs,0⟩] scope pos) (some (.Name y py)) spos.line X.env=pure true) (hi:PI X tg iter wi) (ok:ae8 X.N X.env.scope scope own)
  (hg:∀ (s:Shared) (H:Hp) (C:Addr) (cl:List (Str×Addr)) (fp:List Addr),PG (X.blk s H scope (compEnvC scope cl C X.env) fp) tg g) (ht:∀ (s:Shared) (H:Hp) (C:Addr) (cl:List (Str×Addr)) (fp:List Addr),PTs (X.blk s H scope (compEnvC scope cl C X.env) fp) ifs tt)
  (he:∀ (s:Shared) (H:Hp) (C:Addr) (cl:List (Str×Addr)) (fp:List Addr),PE (X.blk s H scope (compEnvC scope cl C X.env) fp) elt te) (hs:∀ x,foldedSetIterable iter X.env x=pure x:=by intro _;rfl) :
  PS X (.Assign [.Name y py] (.ListComp elt [⟨tg,iter,ifs,0⟩] scope pos) spos) (c5 (tLc wi g tt te (own.map (·.2))) (aX i)):=by
 intro pins s σ H D I h
 rw [exec_Assign_Name_used _ _ _ _ hsw]
 refine wpAny_bind (wpAny_standAt (wpAny_bind ?_))
 show wpAny _ X.A (do let _ <-comprehension (.ListComp elt [⟨tg,iter,ifs,0⟩] scope pos) scope X.env (firstIterPos [⟨tg,iter,ifs,0⟩] pos) (newList []) false (eval iter X.env) (some (assign (.Name y py) X.env))) _ _ s
 have h:tLc wi g tt te (own.map (·.2)) σ H (λx H1=>aX i x σ H1 D.nx):=h
 refine wpAny_bind (thn (aia (Qf:=λ_ s'=>SP X pins D .next s') hc hN I hi ok hg ht he hs h λL C s' m H' I' q hn f=>?_) λ_ s' hq=>wpAny_pure (wpAny_pure hq))
 show wpAny _ _ (assign (.Name y py) X.env (.ref L)) _ _ _
 refine wpAny_assign_Name (Xh (v:=V.ref L) I' hN hy (.inl hyl) rfl (λs2 I2 ⟨a,sb,ha⟩=>?_) (.inr hyl))
 obtain ⟨f0,f1,f2,f3,f4,f5⟩:=f
 have haC:C≠a:=by
  rcases ha with z | z
  ·rw [z];exact f1
  ·exact λe=>f4 y a z e.symm
 refine ⟨m,hn.sameBut sb haC,λh3 sb3=>?_⟩
 exact ⟨_,H',I2.turned (t':=s2.toks) (λb o hb e=>(sb3.2 b hb).trans e) f0 f1 f3 f4 f5,q⟩
theorem ZM {elt:Expr} {gs:List Comprehension} {scope:Scope} {pos py:Pos} {y:Str} {l:Nat} {env:Env} (hk:env.scope.kind=.function) (hy:env.scope.names.lookup y=some .local) (hl:(py.line==pos.line)=true)
  (ha:(scope.names.any λ(n,k)=>n==y&&(k==.local||k==.cell))=false):swapsWith (.ListComp elt gs scope pos) (some (.Name y py)) l env=pure true:=by
 have ky:env.kindOf y=some .local:=hy
 have hb:env.blockKind=.function:=by unfold Env.blockKind;rw [hk];rfl
 unfold swapsWith
 simp only [hb,ky,ha,show Expr.pos (.ListComp elt gs scope pos)=pos from rfl,hl]
 rfl
end
def apc (N:List Str) (sc scope:Scope) (own:List (Str×Nat)):Bool:=
 (match scope.kind with | .function=>true | _=>false)&&(scope.names.all λy=>decide (scope.names.lookup y.1=some y.2))&&(own.all λp=>decide (N[p.2]?=some p.1)) &&
  (scope.names.all λy=>match y.2 with
   | .free=>(match sc.names.lookup y.1 with | some .cell=>true | some .free=>true | _=>false)
   | .local=>decide (y.1∈own.map (·.1))||decide (y.1∉N)
   | .cell=>decide (y.1∈own.map (·.1))||decide (y.1∉N)
   | _=>true)
theorem o4 {N:List Str} {sc scope:Scope} {own:List (Str×Nat)} (h:apc N sc scope own=true):ae8 N sc scope own:=by
 unfold apc at h
 simp only [Bool.and_eq_true,List.all_eq_true,decide_eq_true_eq] at h
 obtain ⟨⟨⟨h1,h2⟩,h3⟩,h4⟩:=h
 refine ⟨?_,h2,h3,λy hy e=>?_,λy hy e=>?_⟩
 ·split at h1
  ·assumption
  ·cases h1
 ·have q:=h4 y hy
  simp only [e] at q
  split at q<;>first | exact .inl (by assumption) | exact .inr (by assumption) | cases q
 ·have q:=h4 y hy
  rcases e with e | e<;>(simp only [e,Bool.or_eq_true,decide_eq_true_eq] at q;exact q)
end L2
namespace L2
open PySem PySem.Spec PyProof.Rows
section
variable {κ:Type} [DecidableEq κ]
def iN (kvs:List (κ×V)) (k:κ):Option V:=(kvs.find? λkv=>decide (kv.1=k)).map (·.2)
def putK (kvs:List (κ×V)) (k:κ) (v:V):List (κ×V):=
 if (kvs.any λkv=>decide (kv.1=k))=true then kvs.map (λkv=>if kv.1=k then (kv.1,v) else kv) else kvs++[(k,v)]
theorem jj {p:κ×V} {r:List (κ×V)} {k:κ} (e:p.1=k):iN (p::r) k=some p.2:=by simp [iN,List.find?_cons,e]
theorem iC {p:κ×V} {r:List (κ×V)} {k:κ} (e:¬p.1=k):iN (p::r) k=iN r k:=by simp [iN,List.find?_cons,e]
theorem vZ (k:κ):∀ kvs:List (κ×V),(kvs.any λkv=>decide (kv.1=k))=(iN kvs k).isSome
 | []=>rfl
 | p::r=>by
  rw [List.any_cons]
  by_cases e:p.1=k
  ·simp only [jj e,decide_eq_true e,Bool.true_or,Option.isSome_some]
  ·rw [iC e,decide_eq_false e,Bool.false_or];exact vZ k r
theorem aen (k j:κ) (y:V):∀ kvs:List (κ×V),iN (kvs.map λkv=>if kv.1=k then (kv.1,y) else kv) j=(iN kvs j).map λx=>if j=k then y else x
 | []=>rfl
 | p::r=>by
  have ih:=aen k j y r
  rw [List.map_cons]
  by_cases h:p.1=k
  ·rw [if_pos h]
   by_cases e:p.1=j
   ·rw [jj (p:=(p.1,y)) e,jj e,Option.map_some,if_pos (e.symm.trans h)]
   ·rw [iC (p:=(p.1,y)) e,iC e,ih]
  ·rw [if_neg h]
   by_cases e:p.1=j
   ·rw [jj (p:=p) e,jj e,Option.map_some,if_neg (λz=>h (e.trans z))]
   ·rw [iC (p:=p) e,iC e,ih]
theorem Xc (k j:κ) (y:V):∀ kvs:List (κ×V),iN kvs k=none->iN (kvs++[(k,y)]) j=if j=k then some y else iN kvs j
 | [],_=>by
  by_cases e:k=j
  ·rw [if_pos e.symm];exact jj (p:=(k,y)) e
  ·rw [if_neg (λz=>e z.symm)];exact iC (p:=(k,y)) e
 | p::r,hn=>by
  rw [List.cons_append]
  have hk:¬p.1=k:=λz=>by rw [jj z] at hn;cases hn
  rw [iC hk] at hn
  have ih:=Xc k j y r hn
  by_cases e:p.1=j
  ·rw [jj e,jj e,if_neg (λz=>hk (e.trans z))]
  ·rw [iC e,iC e,ih]
theorem U8 (kvs:List (κ×V)) (k j:κ) (y:V):iN (putK kvs k y) j=if j=k then some y else iN kvs j:=by
 unfold putK
 by_cases a:(kvs.any λkv=>decide (kv.1=k))=true
 ·rw [if_pos a,aen]
  rw [vZ] at a
  by_cases e:j=k
  ·obtain ⟨x,hx⟩:=Option.isSome_iff_exists.mp a
   rw [if_pos e,e,hx,Option.map_some,if_pos rfl]
  ·rw [if_neg e]
   cases iN kvs j with
   | none=>rfl
   | some x=>rw [Option.map_some,if_neg e]
 ·rw [if_neg a]
  refine Xc k j y kvs ?_
  rw [vZ] at a
  cases q:iN kvs k with
  | none=>rfl
  | some x=>rw [q] at a;exact (a rfl).elim
theorem Gg (kvs:List (κ×V)) (k:κ) (v:V):(putK kvs k v).length<=kvs.length+1:=by
 unfold putK
 split
 ·rw [List.length_map];omega
 ·rw [List.length_append,List.length_cons,List.length_nil];omega
theorem HV {kvs:List (κ×V)} {k:κ} (v:V) (h:iN kvs k=none):putK kvs k v=kvs++[(k,v)]:=by
 unfold putK
 rw [vZ,h]
 exact if_neg (by decide)
theorem Ho.aja {o:Option V} {u:Option Value} (r:Ho o u):o.isSome=u.isSome:=by
 cases o with
 | none=>cases u with
  | none=>rfl
  | some _=>exact (show False from r).elim
 | some _=>cases u with
  | none=>exact (show False from r).elim
  | some _=>rfl
theorem Ho.getD {o:Option V} {u:Option Value} {d:V} {d':Value} (r:Ho o u) (rd:RelV d d'):RelV (o.getD d) (u.getD d'):=by
 cases o with
 | none=>cases u with
  | none=>exact rd
  | some _=>exact (show False from r).elim
 | some _=>cases u with
  | none=>exact (show False from r).elim
  | some _=>exact r
theorem KV.val {kvs:List (κ×V)} {vs:List (κ×Value)} (r:KV kvs vs) (k:κ):Ho (iN kvs k) (valueAt vs k):=by
 unfold KV at r
 induction r with
 | nil=>exact True.intro
 | @cons p q ps qs h t ih=>
  obtain ⟨h1,h2⟩:=h
  by_cases e:p.1=k
  ·have e':q.1=k:=h1.symm.trans e
   have b:valueAt (q::qs) k=some q.2:=by simp [valueAt,List.find?_cons,e']
   rw [jj e,b];exact h2
  ·have e':¬q.1=k:=λz=>e (h1.trans z)
   have b:valueAt (q::qs) k=valueAt qs k:=by simp [valueAt,List.find?_cons,e']
   rw [iC e,b];exact ih
theorem KV.any {kvs:List (κ×V)} {vs:List (κ×Value)} (r:KV kvs vs) (k:κ):(kvs.any λkv=>decide (kv.1=k))=vs.any λkv=>decide (kv.1=k):=by
 unfold KV at r
 induction r with
 | nil=>rfl
 | cons h t ih=>rw [List.any_cons,List.any_cons,ih,h.1]
theorem KV.repl {kvs:List (κ×V)} {vs:List (κ×Value)} (r:KV kvs vs) (k:κ) {y:V} {u:Value} (ry:RelV y u) :
  KV (kvs.map λkv=>if kv.1=k then (kv.1,y) else kv) (vs.map λkv=>if kv.1=k then (kv.1,u) else kv):=by
 unfold KV at r ⊢
 induction r with
 | nil=>exact .nil
 | @cons p q ps qs h t ih=>
  rw [List.map_cons,List.map_cons]
  refine .cons ?_ ih
  obtain ⟨h1,h2⟩:=h
  by_cases e:p.1=k
  ·rw [if_pos e,if_pos (h1.symm.trans e)];exact ⟨h1,ry⟩
  ·rw [if_neg e,if_neg (λz=>e (h1.trans z))];exact ⟨h1,h2⟩
theorem KV.put {kvs:List (κ×V)} {vs:List (κ×Value)} (r:KV kvs vs) (k:κ) {y:V} {u:Value} (ry:RelV y u):KV (putK kvs k y) (stored vs k u):=by
 unfold putK stored
 rw [r.any k]
 by_cases e:(vs.any λkv=>decide (kv.1=k))=true
 ·rw [if_pos e,if_pos e];exact r.repl k ry
 ·rw [if_neg e,if_neg e];exact Paired.snoc r ⟨rfl,ry⟩
theorem KV.length {kvs:List (κ×V)} {vs:List (κ×Value)} (r:KV kvs vs):kvs.length=vs.length:=Paired.length r
end
theorem ad6 {P:Program} {w:World} {k:Key} {u:Value} (r:RelV (kV k) u):(eF P w).is k u=true:=by
 cases k with
 | inl i=>obtain ⟨t,e⟩:=(show ∃ t,u=Value.int i t from r);subst e;exact afO P w i t
 | inr x=>obtain ⟨t,e⟩:=(show ∃ t,u=Value.str x t from r);subst e;exact ae2 P w x t
theorem WL {P:Program} {w:World}:∀ {ks:List Key} {us:List Value},Vals (ks.map kV) us->ItemsAre (eF P w) ks us
 | [],_,r=>by rw [List.map_nil] at r;cases r;exact .nil
 | k::ks,_,r=>by
  rw [List.map_cons] at r
  cases r with
  | cons h t=>exact .cons (ad6 h) (WL t)
abbrev KT (H:Hp):List (List Key×V)->List (List Key×Addr×Value)->Prop:=Paired λp q=>p.1=q.1/\H q.2.1=some (.tup (p.1.map kV))/\RelV p.2 q.2.2
theorem KT.val {H:Hp} {kvs:List (List Key×V)} {xs:List (List Key×Addr×Value)} (r:KT H kvs xs) (k:List Key):Ho (iN kvs k) ((atKey xs k).map (·.2)):=by
 induction r with
 | nil=>exact True.intro
 | @cons p q ps qs h t ih=>
  obtain ⟨h1,_,h2⟩:=h
  by_cases e:p.1=k
  ·have e':q.1=k:=h1.symm.trans e
   have b:atKey (q::qs) k=some q.2:=by simp [atKey,List.find?_cons,e']
   rw [jj e,b];exact h2
  ·have e':¬q.1=k:=λz=>e (h1.trans z)
   have b:atKey (q::qs) k=atKey qs k:=by simp [atKey,List.find?_cons,e']
   rw [iC e,b];exact ih
theorem KT.repl {H:Hp} {kvs:List (List Key×V)} {xs:List (List Key×Addr×Value)} (r:KT H kvs xs) (k:List Key) {y:V} {u:Value} (ry:RelV y u) :
  KT H (kvs.map λkv=>if kv.1=k then (kv.1,y) else kv) (xs.map (putAt k u)):=by
 induction r with
 | nil=>exact .nil
 | @cons p q ps qs h t ih=>
  rw [List.map_cons,List.map_cons]
  refine .cons ?_ ih
  obtain ⟨h1,h2,h3⟩:=h
  unfold putAt
  by_cases e:p.1=k
  ·rw [if_pos e,if_pos (h1.symm.trans e)];exact ⟨h1,h2,ry⟩
  ·rw [if_neg e,if_neg (λz=>e (h1.trans z))];exact ⟨h1,h2,h3⟩
theorem KT.put {H:Hp} {kvs:List (List Key×V)} {xs:List (List Key×Addr×Value)} (r:KT H kvs xs) (k:List Key) {b:Addr} {y:V} {u:Value} (hb:H b=some (.tup (k.map kV))) (ry:RelV y u) :
  KT H (putK kvs k y) (storedH xs k b u):=by
 have e:(kvs.any λkv=>decide (kv.1=k))=(atKey xs k).isSome:=by
  rw [vZ,(r.val k).aja,Option.isSome_map]
 unfold putK storedH
 rw [e]
 by_cases q:(atKey xs k).isSome=true
 ·rw [if_pos q,if_pos q];exact r.repl k ry
 ·rw [if_neg q,if_neg q];exact Paired.snoc r ⟨rfl,hb,ry⟩
theorem KT.keeps {H H':Hp} {kvs:List (List Key×V)} {xs:List (List Key×Addr×Value)} (r:KT H kvs xs) (ht:∀ b ys,H b=some (.tup ys)->H' b=some (.tup ys)):KT H' kvs xs:=
 Paired.aoD r λ_ _ z=>⟨z.1,ht _ _ z.2.1,z.2.2⟩
section
variable {P:Program} {w:World} {H:Hp} {h:Heap} {a:Addr}
theorem anF {u:HO} (ok:HOk P w H h) (e:Rd H a u):jf P w H h a u:=e.ok ok
theorem ah9 {kvs:List (Key×V)} (ok:HOk P w H h) (e:Rd H a (.dK kvs)):kvs.length<=sizeLine/\(a==sysModules)=false/\∃ vs,KV kvs vs/\h.DictOf (eF P w) a vs:=
 show jf P w H h a (.dK kvs) from anF ok e
theorem anK {kvs:List (Key×V)} (ok:HOk P w H h) (e:H a=some (.dK kvs)):kvs.length<=sizeLine/\(a==sysModules)=false/\∃ vs,KV kvs vs/\h.DictOf (eF P w) a vs:=ah9 ok (.inl e)
theorem agi {ks:List Key} (ok:HOk P w H h) (e:H a=some (.tup (ks.map kV))):(tupleKind (eF P w)).is h ks a:=by
 obtain ⟨_,its,r,o,h1,h2,n,h3⟩:=(show jf P w H h a (.tup (ks.map kV)) from ok a _ e)
 exact ⟨o,its.toArray,n,h1,h2,h3,by simpa using WL r⟩
theorem ale {kvs:List (List Key×V)} (ok:HOk P w H h) (e:Rd H a (.dT kvs)):kvs.length<=sizeLine/\(a==sysModules)=false /\
  ∃ xs,KT H kvs xs/\h.DictOfH (tupleKind (eF P w)) a xs:=by
 obtain ⟨z,y,xs,r,o,es,ep,h1,h2,h3,h4,h5⟩:=(show jf P w H h a (.dT kvs) from anF ok e)
 refine ⟨z,y,xs,r,o,es,ep,h1,h2,h3,h4,λx hx=>?_,h5⟩
 have all:∀ {l:List (List Key×V)} {m:List (List Key×Addr×Value)},KT H l m->∀ x∈m,(tupleKind (eF P w)).is h x.1 x.2.1:=by
  intro l m q
  induction q with
  | nil=>intro x hx;exact nomatch hx
  | @cons p q ps qs hq t ih=>
   intro x hx
   rcases List.mem_cons.mp hx with e | hx
   ·subst e
    exact agi ok (by rw [<-hq.1];exact hq.2.1)
   ·exact ih x hx
 exact all r x hx
theorem apr {kvs:List (List Key×V)} (ok:HOk P w H h) (e:H a=some (.dT kvs)):kvs.length<=sizeLine/\(a==sysModules)=false /\
  ∃ xs,KT H kvs xs/\h.DictOfH (tupleKind (eF P w)) a xs:=ale ok (.inl e)
end
def apl (H:Hp) (a:Addr) (y:V) (r:Option V):Prop:=
 (∃ kvs k,Rd H a (.dK kvs)/\y=kV k/\r=iN kvs k)\/∃ kvs k b,Rd H a (.dT kvs)/\y=.ref b/\H b=some (.tup (k.map kV))/\r=iN kvs k
def alb (H:Hp) (a:Addr) (y v:V) (H':Hp):Prop:=
 (∃ kvs k,H a=some (.dK kvs)/\y=kV k/\kvs.length < sizeLine/\H'=upd H a (.dK (putK kvs k v))) \/
 ∃ kvs k b,H a=some (.dT kvs)/\y=.ref b/\H b=some (.tup (k.map kV))/\kvs.length < sizeLine/\H'=upd H a (.dT (putK kvs k v))
theorem alb.k {H:Hp} {a:Addr} {kvs:List (Key×V)} {k:Key} {v:V} (e:H a=some (.dK kvs)) (hl:kvs.length < sizeLine):alb H a (kV k) v (upd H a (.dK (putK kvs k v))):=.inl ⟨kvs,k,e,rfl,hl,rfl⟩
section
variable {X:Cx} {pins:List (Addr×Obj)} {σ:St} {H:Hp} {s:Shared} {a:Addr} {y v:V} {u r:Value} {o:Option V} {A:Around} {E:Value->Shared->Prop}
theorem Inv.big (I:Inv X pins σ H s):sysModules < s.heap.objs.size:=by
 have h:mainGlobals < s.heap.objs.size:=(I.mod.glob.keeps I.bk).lt
 exact Nat.lt_trans (by decide) h
theorem abR {h':Heap} {t':Nat} {ob:HO} (I:Inv X pins σ H s) (mu:Mut (H a)) (hs:Heap.SameBut a s.heap h') (he:∃ q,h'.get? a=some q) (new:jf X.prog X.w (upd H a ob) h' a ob) :
  Inv X pins σ (upd H a ob) { s with heap:=h',toks:=t' }:=
 I.write (x:=a) (e:=a) mu (.inl rfl) (λb q hb z=>(hs.2 b hb).trans z) he new
theorem akp {P:Program} {w:World} {H':Hp} {h':Heap} {kvs:List (Key×V)} {vs:List (Key×Value)} (z:kvs.length<=sizeLine) (hd:(a==sysModules)=false) (rel:KV kvs vs) (dd:h'.DictOf (eF P w) a vs) :
  jf P w H' h' a (.dK kvs):=⟨z,hd,vs,rel,dd⟩
theorem ajw {H':Hp} {Q:Unit->Shared->Prop} (hu:A.units+1 < cLine) (I:Inv X pins σ H s) (g:alb H a y v H') (ry:RelV y u) (rv:RelV v r) (h:∀ s',Inv X pins σ H' s'->Q () s') :
  wpAny (model X.prog X.w) A (setItem (.ref a) u r) Q E s:=by
 rcases g with ⟨kvs,k,e,ey,l,eH⟩ | ⟨kvs,k,b,e,ey,eb,l,eH⟩
 ·subst ey eH
  obtain ⟨z,hd,vs,rel,dd⟩:=anK I.hok e
  have hz:vs.length<=sizeLine:=by rw [<-rel.length];exact z
  have hl:(putK kvs k v).length<=sizeLine:=by have:=Gg kvs k v;omega
  refine wpAny_setItem_pairs (hsz:=hz) (ad6 ry) dd λh' dd' hs=>h _ ?_
  have he:∃ q,h'.get? a=some q:=let ⟨q,_,_,hq,_⟩:=dd';⟨q,hq⟩
  exact abR I (by rw [e];exact True.intro) hs he (akp hl hd (rel.put k rv) dd')
 ·subst ey eH
  cases (show u=Value.ref b from ry)
  obtain ⟨z,hd,xs,rel,dd⟩:=apr I.hok e
  have hz:xs.length<=sizeLine:=by rw [<-Paired.length rel];exact z
  have hl:(putK kvs k v).length<=sizeLine:=by have:=Gg kvs k v;omega
  refine wpAny_setItem_heap (hsz:=hz) (tupleKind_room_in1 hu) (agi I.hok eb) dd λh' dd' hs=>h _ ?_
  obtain ⟨q,es,ep,hq,h2,h3,h4,_,h5⟩:=dd'
  refine abR I (by rw [e];exact True.intro) hs ⟨q,hq⟩ ⟨hl,hd,_,(rel.put k eb rv).keeps λc ys ec=>?_,q,es,ep,hq,h2,h3,h4,h5⟩
  rw [aq (fL ec e (λz=>nomatch z))]
  exact ec
end
def ao7 (i:Expr):Prop:=∀ ov iv,subscripted i false ov iv=operate [ov,iv] (getItem ov iv)
theorem amB {prog:Program} {w:World} {A:Around} {E:Value->Shared->Prop} {s:Shared} {env:Env} {value slice:Expr} {pos:Pos} {T id:String} {Q:Value->Shared->Prop}
  (hl:typeLookup (.type T) "__getitem__"=pure (some (.builtin id))) (hs:ao7 slice)
  (h:wpAny (model prog w) A (eval value env) (λo s₁=>wpAny (model prog w) A (eval slice env) (λi s₂=>s₂.TypeIs o T/\wpAny (model prog w) A (getItem o i) Q E s₂) E s₁) E s) :
  wpAny (model prog w) A (eval (.Subscript value slice pos) env) Q E s:=by
 refine Subscript_ (wpAny_mono h (λo s₁ h₁=>wpAny_mono h₁ (λi s₂ h₂=>?_) λ_ _ x=>x) λ_ _ x=>x)
 obtain ⟨hT,h₂⟩:=h₂
 unfold subscriptTail
 refine wpAny_bind ?_
 rw [getitemInPython_of_ne hT.not_modules]
 refine wpAny_bind (wpAny_specialOf hT hl ?_)
 have fin:wpAny (model prog w) A (subscripted slice false o i) (λr s₃=>wpAny (model prog w) A (letTemporaryGo value o r >>= λ_=>pure r) Q E s₃) E s₂:=by
  rw [hs o i]
  exact wpAny_operating (wpAny_mono h₂ (λr s₃ h₃=>wpAny_bind (wpAny_letTemporaryGo (wpAny_pure h₃))) λ_ _ x=>x)
 first
  | exact wpAny_pure (wpAny_bind fin)
  | exact wpAny_bind (wpAny_pure (wpAny_bind fin))
  | exact wpAny_bind fin
def ahU (td ty tv:TE):TS:=λD σ H=>tv σ H λv H1=>td σ H1 λx H2=>ty σ H2 λy H3=>∃ a H4,x=.ref a/\alb H3 a y v H4/\D.nx σ H4
section
variable {X:Cx} {o i e value:Expr} {pos pos' tpos:Pos} {td ty tv:TE}
theorem amk (hu:X.A.units+1 < cLine) (ho:PE X o td) (hi:PE X i ty) (hv:PE X value tv) (hs:swapsWith value (some (.Subscript o i pos')) pos.line X.env=pure false) :
  PS X (.Assign [.Subscript o i pos'] value pos) (ahU td ty tv):=by
 intro pins s σ H D I h
 refine wpAny_Assign_Subscript (thn (hv pins s σ H _ I h) λr s1 ⟨v,H1,I1,rv,q1⟩=>thn (ho pins s1 σ H1 _ I1 q1) λu s2 ⟨x,H2,I2,rx,q2⟩=>thn (hi pins s2 σ H2 _ I2 q2) λiv s3 ⟨y,H3,I3,ry,a,H4,ex,g,q3⟩=>?_) hs
 subst ex
 obtain rfl:u=Value.ref a:=rx
 exact ajw hu I3 g ry rv λs4 I4=>⟨σ,H4,I4,q3⟩
end
theorem akI {P:Program} {w:World} {H:Hp} (h:Heap) (hb:sysModules < h.objs.size):jf P w H (h.push { cls:=.type "dict",data:=.dict #[] }) h.objs.size (.dK []):=
 ⟨Nat.zero_le _,beq_eq_false_iff_ne.mpr (Ne.symm (Nat.ne_of_lt hb)),[],.nil,Heap.DictOf.new h⟩
def BL:TE:=λ_ H Q=>∀ p,H p=none->Q (.ref p) (upd H p (.dK []))
section
variable {X:Cx} {pos:Pos}
theorem Ng:PE X (.Dict [] [] pos) BL:=λpins s σ H Q I h=>
 wpAny_Dict_empty ⟨.ref s.heap.objs.size,_,I.laid (a:=s.heap.objs.size) (o:=.dK []) (t':=s.toks) (λ_ _ q=>Heap.get?_push_of_some _ q) (Nat.le_refl _) (akI s.heap I.big),rfl,h _ (I.hok.fresh (Nat.le_refl _))⟩
end
structure M2 (X:Cx) (o:Expr) (m:Str) (apos:Pos) (e f:Expr) (cpos:Pos):Prop where
 base:attributeBase o m X.env (eval o X.env)=eval o X.env
 few:((backTo cpos (starEach [e,f] X.env)).all (λx=>!x.1)&&(backToKw cpos (keywordEach [] X.env)).all (λx=>x.1.isSome)
  && decide (([e,f]:List Expr).length+([]:List Keyword).length+(if ([]:List Keyword).isEmpty then 0 else 1) < 30))=true
 line:(apos.endLine==cpos.line)=true
 trees:backTo cpos (starEach [e,f] X.env)=[(false,eval e X.env),(false,eval f X.env)]
def IsD (H:Hp) (a:Addr):Prop:=(∃ kvs,Rd H a (.dK kvs))\/∃ kvs,Rd H a (.dT kvs)
theorem alq {X:Cx} {pins:List (Addr×Obj)} {σ:St} {H:Hp} {s:Shared} {a:Addr} (I:Inv X pins σ H s) (d:IsD H a) :
  s.TypeIs (.ref a) "dict"/\(∀ b,Value.ref a=.ref b->∃ ob,s.heap.get? b=some ob/\ob.dict=none)/\(a==sysModules)=false:=by
 rcases d with ⟨kvs,e⟩ | ⟨kvs,e⟩
 ·obtain ⟨_,hd,vs,_,dd⟩:=ah9 I.hok e
  refine ⟨dd.typeIs,λb q=>?_,hd⟩
  cases q
  obtain ⟨ob,_,_,h1,h2,_⟩:=dd
  exact ⟨ob,h1,h2.2.1⟩
 ·obtain ⟨_,hd,xs,_,dd⟩:=ale I.hok e
  refine ⟨dd.typeIs,λb q=>?_,hd⟩
  cases q
  obtain ⟨ob,_,_,h1,h2,_⟩:=dd
  exact ⟨ob,h1,h2.2.1⟩
section
variable {X:Cx} {pins:List (Addr×Obj)} {σ:St} {H:Hp} {s:Shared} {a:Addr} {y d:V} {u r:Value} {o:Option V} {A:Around} {E:Value->Shared->Prop}
theorem anP {Q:Value->Shared->Prop} (hu:A.units+1 < cLine) (I:Inv X pins σ H s) (g:apl H a y o) (ry:RelV y u) (rd:RelV d r) (h:∀ w' s',Inv X pins σ H s'->RelV (o.getD d) w'->Q w' s') :
  wpAny (model X.prog X.w) A (call (.builtin "dict.get") [.ref a,u,r]) Q E s:=by
 rcases g with ⟨kvs,k,e,ey,l⟩ | ⟨kvs,k,b,e,ey,eb,l⟩
 ·subst ey
  obtain ⟨z,hd,vs,rel,dd⟩:=ah9 I.hok e
  refine call_meetsIn PySem.F.slot_dict_get dd.typeIs PySem.F.entry_dict_get (PySem.F.args_dict_get_3 _ _ _) (meets_dict_get_default (eF X.prog X.w) a (ad6 ry) hd r) ⟨_,dd.mapOf,h _ _ (I.tok _) ?_⟩
  rw [l]
  exact (rel.val k).getD rd
 ·subst ey
  cases (show u=Value.ref b from ry)
  obtain ⟨z,hd,xs,rel,dd⟩:=ale I.hok e
  refine call_meetsIn PySem.F.slot_dict_get dd.typeIs PySem.F.entry_dict_get (PySem.F.args_dict_get_3 _ _ _) (meetsH_dict_get_default (tupleKind (eF X.prog X.w)) a b hd r) ⟨tupleKind_room_in1 hu,k,xs,agi I.hok eb,dd,h _ _ (I.tok _) ?_⟩
  rw [l]
  exact (rel.val k).getD rd
end
def agD (td ty tx:TE):TE:=λσ H Q=>td σ H λx H1=>∃ a,x=.ref a/\IsD H1 a/\ty σ H1 λy H2=>tx σ H2 λz H3=>∃ o,apl H3 a y o/\Q (o.getD z) H3
section
variable {X:Cx} {o e f:Expr} {apos cpos:Pos} {td ty tx:TE}
theorem alf (hu:X.A.units+1 < cLine) (ho:PE X o td) (he:PE X e ty) (hf:PE X f tx) (m:M2 X o "get" apos e f cpos):PE X (.Call (.Attribute o "get" apos) [e,f] [] cpos) (agD td ty tx):=by
 intro pins s σ H Q I h
 refine wpAny_Call_method m.base m.few m.line PySem.F.plainAttrs_dict PySem.F.slot_dict_get PySem.F.type_dict_get (thn (ho pins s σ H _ I h) λu s1 ⟨x,H1,I1,rx,a,ex,d,q1⟩=>?_)
 subst ex
 obtain rfl:u=Value.ref a:=rx
 obtain ⟨t1,t2,_⟩:=alq I1 d
 refine ⟨t1,t2,?_⟩
 rw [m.trees]
 refine Calls.callWith_builtin rfl (Calls.evalArgs_plain (Calls.spliced_cons (thn (he pins s1 σ H1 _ I1 q1) λiv s2 ⟨y,H2,I2,ry,q2⟩=>
  Calls.spliced_cons (thn (hf pins s2 σ H2 _ I2 q2) λfv s3 ⟨z,H3,I3,rz,ov,g,q3⟩=>Calls.spliced_nil ?_))))
 exact anP hu I3 g ry rz λw' s4 I4 rw'=>⟨_,H3,I4,rw',q3⟩
end
end L2
namespace L2
open PySem PySem.Spec PyProof.Rows
theorem Sb:bootBuiltins "reversed"=some (.type "reversed"):=by decide +kernel
section
variable {X:Cx} {pins:List (Addr×Obj)} {σ:St} {H:Hp} {s:Shared} {h':Heap}
theorem Inv.W0 {t':Nat} {ch:List Addr} {T:Addr} {ob:HO} (I:Inv X pins σ H s) (k:∀ b o,b∉ch->s.heap.get? b=some o->h'.get? b=some o) (hf:∀ b∈ch,Ud X pins H b) (hT:s.heap.objs.size<=T)
  (new:jf X.prog X.w (upd H T ob) h' T ob):Inv X pins σ (upd H T ob) { s with heap:=h',toks:=t' }:=by
 have hn:H T=none:=I.hok.fresh hT
 have nit:∀ b u,H b=some u->b∉ch:=λb u e z=>by
  have q:=(hf b z).1
  rw [q] at e;cases e
 refine I.step (g':=s.gens) (d':=s.drawn) (ch:=ch) (λb hb=>⟨(hf b hb).2.2.2.1,(hf b hb).2.1,(hf b hb).2.2.2.2.1,(hf b hb).2.2.2.2.2⟩) (λb o _ _ hc e _=>k b o hc e) (λb o _ _ hc e _=>⟨o.slots,k b o hc e⟩)
  (λb o _ e n=>?_) (λb o hc e=>⟨o,k b o hc e⟩) (λb xs e=>?_) (λb o u e=>?_) (λb ps e=>⟨#[],?_⟩) (λm hm=>?_) (λb u e=>?_) I.bare
 ·rw [aq (Nat.ne_of_lt (Nat.lt_of_lt_of_le (Heap.lt_size e) hT))];exact n
 ·rw [aq (ao e hn)];exact e
 ·rw [aq (ao e hn)];exact e
 ·rw [aq (ao e hn),e];simp
 ·obtain ⟨o,es,ep,ho,r⟩:=hm
  exact ⟨o,es,ep,k _ o (λz=>(hf _ z).2.1 rfl) ho,r⟩
 ·by_cases hb:b=T
  ·subst hb
   rw [ay] at e
   cases e
   exact new
  ·rw [aq hb] at e
   refine (I.hok b u e).stay (λc v hc q=>k c v ?_ q) (λc q=>by rw [aq (ao q hn)];exact q) λc xs q=>by rw [aq (ao q hn)];exact q
   rcases hc with z | z
   ·rw [z];exact nit b u e
   ·exact nit c _ z
theorem Inv.lock {d:Addr} {u:HO} (I:Inv X pins σ H s) (h:H d=some u) (mu:Mut (some u)):∃ od,Inv X pins σ (upd H d (.frz od u)) s:=by
 have x:=I.hok d u h
 have ex:∃ od,s.heap.get? d=some od:=by
  cases u with
  | lst xs=>obtain ⟨_,_,_,_,e⟩:=x;exact ⟨_,e⟩
  | dK kvs=>obtain ⟨_,_,_,_,o,_,_,e,_⟩:=x;exact ⟨o,e⟩
  | dT kvs=>obtain ⟨_,_,_,_,o,_,_,e,_⟩:=x;exact ⟨o,e⟩
  | set S n=>obtain ⟨o,_,_,_,e,_⟩:=x;exact ⟨o,e⟩
  | ins C dx fs=>obtain ⟨_,_,_,e,_⟩:=x;exact ⟨_,e⟩
  | ext φ=>obtain ⟨_,⟨_,e⟩,_⟩:=x;exact ⟨_,e⟩
  | _=>exact False.elim mu
 obtain ⟨od,e⟩:=ex
 have new:jf X.prog X.w (upd H d (.frz od u)) s.heap d (.frz od u):=by
  refine ⟨e,x.stay (λb v _ q=>q) (λb q=>?_) λb xs q=>?_⟩
  ·rw [aq (λz=>by rw [z,h] at q;cases q;exact mu)];exact q
  ·rw [aq (λz=>by rw [z,h] at q;cases q;exact mu)];exact q
 exact ⟨od,I.write (x:=d) (e:=d) (t':=s.toks) (h':=s.heap) (by rw [h];exact mu) (.inl rfl) (λb v _ q=>q) ⟨od,e⟩ new⟩
theorem Inv.apo {d:Addr} {u:HO} (I:Inv X pins σ H s) (h:H d=some u) (mu:Mut (some u)):∀ o' u',X.H₀ d≠some (.frz o' u'):=λo' u' e=>by
 have q:=I.base.Ub d o' u' e
 rw [h] at q
 cases q
 exact mu
theorem Inv.unlock {d:Addr} {od:Obj} {u:HO} (I:Inv X pins σ H s) (h:H d=some (.frz od u)) (hn:∀ o' u',X.H₀ d≠some (.frz o' u')):Inv X pins σ (upd H d u) s:=by
 have neH:∀ b o,H b=some o->(∀ o' u',o≠.frz o' u')->b≠d:=λb o e hne z=>by
  rw [z,h] at e
  cases e
  exact hne _ _ rfl
 have neN:∀ b,H b=none->b≠d:=λb e z=>by rw [z,h] at e;cases e
 refine ⟨I.ok,I.os,I.bare,⟨I.base.keep,I.base.slot,λb o e n hx=>?_,I.base.there,λb xs e=>?_,λb o x e=>?_,λb ps e=>?_⟩,I.loc,I.cell,?_,λx c e=>?_,λp hp=>?_,λb o e=>?_,I.len⟩
 ·rw [aq (neN b (I.base.free b o e n hx))];exact I.base.free b o e n hx
 ·have q:=I.base.tups b xs e
  rw [aq (neH b _ q (λ_ _ z=>nomatch z))];exact q
 ·have q:=I.base.Ub b o x e
  rw [aq (λz=>by rw [z] at e;exact hn _ _ e)];exact q
 ·obtain ⟨m,q⟩:=I.base.Ys b ps e
  exact ⟨m,by rw [aq (neH b _ q (λ_ _ z=>nomatch z))];exact q⟩
 ·rw [aq (neN _ I.free)];exact I.free
 ·rw [aq (neN c (I.AL x c e))];exact I.AL x c e
 ·obtain ⟨e,n,r⟩:=I.pin p hp
  exact ⟨e,by rw [aq (neN _ n)];exact n,r⟩
 ·by_cases hb:b=d
  ·rw [hb,ay] at e
   cases e
   rw [hb]
   obtain ⟨_,x⟩:=I.hok d _ h
   exact x.stay (λc v _ q=>q) (λc q=>by rw [aq (neH c _ q (λ_ _ z=>nomatch z))];exact q) λc xs q=>by rw [aq (neH c _ q (λ_ _ z=>nomatch z))];exact q
  ·rw [aq hb] at e
   exact (I.hok b o e).stay (λc v _ q=>q) (λc q=>by rw [aq (neH c _ q (λ_ _ z=>nomatch z))];exact q) λc xs q=>by rw [aq (neH c _ q (λ_ _ z=>nomatch z))];exact q
end
section
variable {X:Cx}
theorem ahn {tg:Expr} {pins:List (Addr×Obj)} {σ:St} {H:Hp} {s:Shared} {R:It->Hp->Prop} {J:It} {tn:Nat->Heap->Prop} {tk:Nat} (I:Inv X pins σ H s) (o:Obj)
  (T:Turn X.prog X.w X.K tg J [s.heap.objs.size] s.heap.objs.size tn) (st:tn 0 (s.heap.push o)) (q:R J H):PIE X pins σ tg R (.ref s.heap.objs.size) { s with heap:=s.heap.push o,toks:=tk }:=by
 refine ⟨s.heap.objs.size,[s.heap.objs.size],tn,J,H,rfl,I.kept λb ob e=>Heap.get?_push_of_some _ e,T,st,λb hb=>?_,q⟩
 have e:b=s.heap.objs.size:=by simpa using hb
 subst e
 exact I.amI (Nat.le_refl _) (I.hok.fresh (Nat.le_refl _))
end
def Itc (lo c:Int) (n:Nat):It:=⟨λi _=>i < n,λi H x H'=>H'=H/\x=.int (lo+(i:Nat) * c),λi _=>n<=i⟩
theorem aeJ {P:Program} {w:World} {K:W.Frag} {tg:Expr} (it:Addr) (lo c:Int) (n:Nat):Turn P w K tg (Itc lo c n) [it] it (λi h=>IsRangeIter h it (lo+(i:Nat) * c) ((n:Int) - (i:Nat)) c) where
 mem:=by simp
 obj:=λi h st b hb=>by
  have e:b=it:=by simpa using hb
  subst e
  exact ⟨_,st,λv z=>nomatch z⟩
 keep:=λi h h' st k=>k it (by simp) _ st
 item:=by
  intro X hP hw hK hc i pins s σ H E I hf st hg
  subst hP hw hK
  obtain ⟨f0,f1,f2,f3,f4,f5⟩:=hf it (by simp)
  have W:=Walks.range (prog:=X.prog) (w:=X.w) (I.ok.hd hc) it lo c n
  refine W.item i s _ _ hg st λv h' tk hv st' kk=>?_
  obtain ⟨t,rfl⟩:=hv
  have I1:Inv X pins σ H { s with heap:=h',toks:=tk }:=I.turned (λb o hb e=>kk b o (by simpa using hb) e) f0 f1 f3 f4 f5
  exact ⟨_,rfl,aem (s:={ s with heap:=h',toks:=tk }) (n:="range_iterator") st' rfl rfl (by decide) ⟨.int (lo+(i:Nat) * c),H,I1,⟨t,rfl⟩,⟨rfl,rfl⟩,st',λb hb=>(hf b hb).1⟩⟩
 done:=by
  intro X hP hw hK hc i pins s σ H E I hf st hg
  subst hP hw hK
  obtain ⟨f0,f1,f2,f3,f4,f5⟩:=hf it (by simp)
  exact wpAny_pyNext_range_end (I.ok.hd hc) st (by have:n<=i:=hg;omega) λh' eb=>⟨rfl,I.turned (t':=s.toks) (λb o hb e=>eb b o hb e) f0 f1 f3 f4 f5⟩
 self:=λA i s Q E st h=>wpAny_pyIter_rangeiter st h
def RgC (i j c:Int) (n:Nat):Prop:=c≠0/\c.natAbs < 1073741824/\Builtin.Range.small i j c=true/\Builtin.Range.rangeSize i j c=n
theorem RgC.neg {i j:Int} (ha:-(2 ^ 62)<=i) (ha':i < 2 ^ 62) (hb:-(2 ^ 62)<=j) (hb':j < 2 ^ 62):RgC i j (-1) (i - j).toNat:=
 ⟨by decide,by decide,PySem.W.small_down ha ha' hb hb',PySem.W.rangeSize_downNat i j⟩
def ahM (ta:TA):TI:=λσ H R=>ta σ H λvs H1=>∃ (i j c:Int) (n:Nat),vs=[.int i,.int j,.int c]/\RgC i j c n/\R (Itc i c n) H1
section
variable {X:Cx} {tg:Expr}
theorem XE {a b c:Expr} {ta:TA} {p pos:Pos} (hg:Gl X "range") (hm:X.mg "range"=none) (ha:PA X [a,b,c] ta)
  (hs:starEach [a,b,c] X.env=(false,eval a X.env)::starEach [b,c] X.env:=by rfl) (hpl:(backTo pos (starEach [b,c] X.env)).any (·.1)=false:=by rfl) :
  PI X tg (.Call (.Name "range" p) [a,b,c] [] pos) (ahM ta):=by
 intro pins s σ H R I h
 refine Call_ (Hs I hg hm boot_range (PyProof.Rows.callWith_type1 (thn (ha pos pins s σ H _ I h) λus s1 ⟨vs,H1,I1,r1,q1⟩=>?_) hs hpl))
 obtain ⟨i,j,k,n,e,⟨c0,c1,c2,c3⟩,q⟩:=q1
 subst e
 cases r1 with
 | cons r rr=>
  cases rr with
  | cons r' rr=>
   cases rr with
   | cons r'' rr=>
    cases rr
    obtain ⟨t,rfl⟩:=r
    obtain ⟨t',rfl⟩:=r'
    obtain ⟨t'',rfl⟩:=r''
    refine call_range_3 c0 ?_ (.inl (PyProof.noPylong_small c1))
    refine wpAny_pyIter_range (IsRange.new ..) c2 ?_
    have I2:Inv X pins σ H1 { s1 with heap:=s1.heap.push { cls:=.type "range",data:=.fields #[.int i t,.int j t',.int k t''] } }:=I1.kept (t':=s1.toks) λb o e=>Heap.get?_push_of_some _ e
    refine ahn (tk:=s1.toks) I2 _ (aeJ _ i k n) ?_ q
    have e1:i+((0:Nat):Int) * k=i:=by simp
    have e2:(n:Int) - ((0:Nat):Int)=Builtin.Range.rangeSize i j k:=by rw [c3];simp
    show IsRangeIter _ _ (i+((0:Nat):Int) * k) ((n:Int) - ((0:Nat):Int)) k
    rw [e1,e2]
    exact Heap.get?_push_size _ rfl
end
theorem Tn {lo c:Int} {n:Nat} {g:TG} {tb:TS} {D:Ends} {σ:St} {H:Hp} (Pv:Nat->St->Hp->Prop) (h0:Pv 0 σ H)
  (hs:∀ i σ H,i < n->Pv i σ H->g (.int (lo+(i:Nat) * c)) σ H λσ2 H2=>tb { D with nx:=Pv (i+1),ct:=Pv (i+1),bk:=D.nx } σ2 H2) (hd:∀ σ H,Pv n σ H->D.nx σ H) :
  ∃ W:Nat->Nat->St->Hp->Prop,(∃ m,W 0 m σ H)/\∀ i m σ H,W i m σ H ->
   ((Itc lo c n).stop i H/\D.nx σ H)\/((Itc lo c n).go i H/\∃ N:St->Hp->Prop,(∀ σ' H',N σ' H'->∃ m',m' < m/\W (i+1) m' σ' H')/\∀ x H',(Itc lo c n).yld i H x H'->g x σ H' λσ2 H2=>tb { D with nx:=N,ct:=N,bk:=D.nx } σ2 H2):=by
 refine ⟨λi m σ H=>m=n - i/\i<=n/\Pv i σ H,⟨n,by simp,Nat.zero_le _,h0⟩,?_⟩
 rintro i m σ H ⟨rfl,hi,p⟩
 by_cases hlt:i < n
 ·refine .inr ⟨hlt,Pv (i+1),λσ' H' p'=>⟨n - (i+1),by omega,rfl,hlt,p'⟩,λx H' y=>?_⟩
  obtain ⟨e,y⟩:=y
  subst e y
  exact hs i σ _ hlt p
 ·have e:i=n:=by omega
  subst e
  exact .inl ⟨Nat.le_refl _,hd σ H p⟩
def Itv (K:W.Frag) (a:Addr) (n:Nat):It:=
 ⟨λi H=>i < n/\∃ (xs:List V) (x:V),SqL K H a xs/\xs[n - 1 - i]?=some x,λi H x H'=>H'=H/\∀ xs,SqL K H a xs->xs[n - 1 - i]?=some x,λi _=>n<=i⟩
theorem akD {P:Program} {w:World} {K:W.Frag} {tg:Expr} (a it:Addr) (n:Nat):Turn P w K tg (Itv K a n) [it] it (λi h=>i<=n/\h.IsRevIter it a ((n:Int) - 1 - (i:Nat))) where
 mem:=by simp
 obj:=λi h st b hb=>by
  have e:b=it:=by simpa using hb
  subst e
  obtain ⟨_,o,e,c,d⟩:=st
  exact ⟨o,e,λv z=>by rw [d] at z;cases z⟩
 keep:=λi h h' st k=>⟨st.1,st.2.at λo e=>k it (by simp) o e⟩
 item:=by
  intro X hP hw hK hc i pins s σ H E I hf st hg
  subst hP hw hK
  obtain ⟨hin,xs,x,hq,hx⟩:=hg
  obtain ⟨its,rv,p,hz⟩:=I.list hq
  obtain ⟨u,hu,ru⟩:=rv.get hx
  obtain ⟨f0,f1,f2,f3,f4,f5⟩:=hf it (by simp)
  obtain ⟨_,hit⟩:=st
  have e1:(n:Int) - 1 - ((i:Nat):Int)=((n - 1 - i:Nat):Int):=by omega
  rw [e1] at hit
  refine wpAny_pyNext_rev_item hit p.isList (x:=u) (by simpa using hu) λh' st' sb=>?_
  have e2:((n - 1 - i:Nat):Int) - 1=(n:Int) - 1 - ((i+1:Nat):Int):=by omega
  rw [e2] at st'
  have I1:Inv X pins σ H { s with heap:=h' }:=I.turned (t':=s.toks) (λb o hb e=>(sb.2 b hb).trans e) f0 f1 f3 f4 f5
  obtain ⟨o,e,c,d⟩:=id st'
  exact ⟨u,rfl,aem (s:={ s with heap:=h' }) e c d (by decide) ⟨x,H,I1,ru,⟨rfl,λys hy=>by rw [I.VA hy hq];exact hx⟩,⟨hin,st'⟩,λb hb=>(hf b hb).1⟩⟩
 done:=by
  intro X hP hw hK hc i pins s σ H E I hf st hg
  subst hP hw hK
  obtain ⟨f0,f1,f2,f3,f4,f5⟩:=hf it (by simp)
  obtain ⟨hin,hit⟩:=st
  have hge:n<=i:=hg
  have e1:(n:Int) - 1 - ((i:Nat):Int)=-1:=by omega
  rw [e1] at hit
  exact wpAny_pyNext_rev_end (I.ok.hd hc) hit λh' eb=>⟨rfl,I.turned (t':=s.toks) (λb o hb e=>eb b o hb e) f0 f1 f3 f4 f5⟩
 self:=λA i s Q E st h=>wpAny_pyIter_revIter st.2 h
def aoo (K:W.Frag) (ta:TA):TI:=λσ H R=>ta σ H λvs H1=>∃ (a:Addr) (xs:List V),vs=[.ref a]/\SqL K H1 a xs/\R (Itv K a xs.length) H1
section
variable {X:Cx} {tg:Expr}
theorem afE {e:Expr} {ta:TA} {p pos:Pos} (hg:Gl X "reversed") (hm:X.mg "reversed"=none) (ha:PA X [e] ta) (hs:starEach [e] X.env=[(false,eval e X.env)]:=by rfl):PI X tg (.Call (.Name "reversed" p) [e] [] pos) (aoo X.K ta):=by
 intro pins s σ H R I h
 refine Call_ (Hs I hg hm Sb (PyProof.Rows.callWith_type1 (thn (ha pos pins s σ H _ I h) λus s1 ⟨vs,H1,I1,r1,q1⟩=>?_) hs rfl))
 obtain ⟨a,xs,e,hq,q⟩:=q1
 subst e
 cases r1 with
 | cons r rr=>
  cases rr
  cases r
  obtain ⟨its,rv,p',hz⟩:=I1.list hq
  have hl:=rv.length
  have e1:((its.toArray.size:Nat):Int) - 1=(xs.length:Int) - 1 - ((0:Nat):Int):=by simp only [List.size_toArray];omega
  refine call_reversed_list p'.isList (wpAny_pyIter_revIter (l:=a) (i:=((its.toArray.size:Nat):Int) - 1) ⟨_,Heap.get?_push_size _ rfl,rfl,rfl⟩ ?_)
  refine ahn (tk:=s1.toks) I1 _ (akD a _ xs.length) ⟨Nat.zero_le _,?_⟩ q
  rw [<-e1]
  exact ⟨_,Heap.get?_push_size _ rfl,rfl,rfl⟩
end
theorem aks {κ:Type} {kvs:List (κ×V)} {vs:List (κ×Value)} (h:KV kvs vs):∀ {i:Nat} {k:κ} {v:V},kvs[i]?=some (k,v)->∃ u,vs[i]?=some (k,u)/\RelV v u:=by
 unfold KV at h
 induction h with
 | nil=>intro i k v e;simp at e
 | @cons a b l₁ l₂ r t ih=>
  intro i k v e
  cases i with
  | zero=>
   simp only [List.getElem?_cons_zero,Option.some.injEq] at e
   subst e
   refine ⟨b.2,?_,r.2⟩
   simp only [List.getElem?_cons_zero]
   exact congrArg some (Prod.ext r.1.symm rfl)
  | succ j=>
   simp only [List.getElem?_cons_succ] at e ⊢
   exact ih e
theorem ag2 {α β:Type} {G:α->β->Prop} {l₁:List α} {l₂:List β} (h:Paired G l₁ l₂):∀ {i:Nat} {a:α},l₁[i]?=some a->∃ b,l₂[i]?=some b/\G a b:=by
 induction h with
 | nil=>intro i a e;simp at e
 | @cons a b l₁ l₂ r t ih=>
  intro i a' e
  cases i with
  | zero=>
   simp only [List.getElem?_cons_zero,Option.some.injEq] at e
   subst e
   exact ⟨b,rfl,r⟩
  | succ j=>
   simp only [List.getElem?_cons_succ] at e ⊢
   exact ih e
theorem afG {k:Key} {u:Value} (h:Nl k u=true):RelV (kV k) u:=by
 rcases gu h with ⟨i,t,rfl,rfl⟩ | ⟨x,t,rfl,rfl⟩
 ·exact ⟨t,rfl⟩
 ·exact ⟨t,rfl⟩
section
variable {X:Cx} {pins:List (Addr×Obj)} {σ:St} {H:Hp} {s:Shared} {d:Addr} {o:Obj}
theorem Inv.alx {kvs:List (Key×V)} (I:Inv X pins σ H s) (h:H d=some (.frz o (.dK kvs))) :
  (d==sysModules)=false/\s.heap.get? d=some o/\o.ExactDict/\∃ (es:Array DictEntry) (ep:Nat) (vs:List (Key×Value)),o.data=.dict es ep/\es.size=kvs.length/\KV kvs vs/\s.heap.DictAt (eF X.prog X.w) d vs ep:=by
 obtain ⟨hd,z,hs,vs,kv,o',es,ep,ho,hx,hdt,r⟩:=I.hok d _ h
 rw [hd] at ho
 cases ho
 refine ⟨hs,hd,hx,es,ep,vs,hdt,?_,kv,o,es,hd,hx,hdt,r⟩
 have l1:=r.2.1.length
 have l2:kvs.length=vs.length:=Paired.length kv
 rw [Array.length_toList] at l1
 omega
end
def Itd (d:Addr) (o:Obj) (kvs:List (Key×V)):It:=
 ⟨λi H=>H d=some (.frz o (.dK kvs))/\i < kvs.length,λi H x H'=>H'=H/\∃ k,kvs[i]?=some (k,x),λi H=>H d=some (.frz o (.dK kvs))/\kvs.length<=i⟩
def Iti (d:Addr) (o:Obj) (kvs:List (Key×V)):It:=
 ⟨λi H=>H d=some (.frz o (.dK kvs))/\i < kvs.length,λi H x H'=>∃ T k v,kvs[i]?=some (k,v)/\x=.ref T/\H T=none/\H'=upd H T (.tup [kV k,v]),λi H=>H d=some (.frz o (.dK kvs))/\kvs.length<=i⟩
theorem RW {o:Obj} {es es':Array DictEntry} {ep ep':Nat} (h:o.data=.dict es ep) (h':o.data=.dict es' ep'):es'=es/\ep'=ep:=by
 rw [h] at h'
 cases h'
 exact ⟨rfl,rfl⟩
section
variable {P:Program} {w:World} {K:W.Frag} {tg:Expr} {d:Addr} {o:Obj} {es:Array DictEntry} {ep:Nat}
theorem ao0 {kvs:List (Key×V)} (it:Addr) (hod:o.data=.dict es ep):Turn P w K tg (Itd d o kvs) [it] it (λi h=>h.IsValIter it d i kvs.length ep) where
 mem:=by simp
 obj:=λi h st b hb=>by
  have e:b=it:=by simpa using hb
  subst e
  obtain ⟨oi,e,c,dd⟩:=st
  exact ⟨oi,e,λv z=>by rw [dd] at z;cases z⟩
 keep:=λi h h' st k=>st.at λoi e=>k it (by simp) oi e
 item:=by
  intro X hP hw hK hc i pins s σ H E I hf st hg
  subst hP hw hK
  obtain ⟨hd,hi⟩:=hg
  obtain ⟨f0,f1,f2,f3,f4,f5⟩:=hf it (by simp)
  obtain ⟨hs,hgd,hx,es',ep',vs,hdt,hsz,kv,hm⟩:=I.alx hd
  obtain ⟨rfl,rfl⟩:=RW hod hdt
  obtain ⟨⟨k,v⟩,hkv⟩:∃ p,kvs[i]?=some p:=⟨kvs[i],List.getElem?_eq_getElem hi⟩
  obtain ⟨u,hu,ru⟩:=aks kv hkv
  have hl:kvs.length=vs.length:=Paired.length kv
  rw [hl] at st
  refine wpAny_pyNext_values_item st hm hu λh' st' sb=>?_
  have I1:Inv X pins σ H { s with heap:=h' }:=I.turned (t':=s.toks) (λb ob hb e=>(sb.2 b hb).trans e) f0 f1 f3 f4 f5
  obtain ⟨oi,e,c,dd⟩:=id st'
  refine ⟨u,rfl,aem (s:={ s with heap:=h' }) e c dd (by decide) ⟨v,H,I1,ru,⟨rfl,k,hkv⟩,?_,λb hb=>(hf b hb).1⟩⟩
  show h'.IsValIter it d (i+1) kvs.length _
  rw [hl]
  exact st'
 done:=by
  intro X hP hw hK hc i pins s σ H E I hf st hg
  subst hP hw hK
  obtain ⟨hd,hi⟩:=hg
  obtain ⟨f0,f1,f2,f3,f4,f5⟩:=hf it (by simp)
  obtain ⟨hs,hgd,hx,es',ep',vs,hdt,hsz,kv,hm⟩:=I.alx hd
  obtain ⟨rfl,rfl⟩:=RW hod hdt
  have hl:kvs.length=vs.length:=Paired.length kv
  rw [hl] at st
  exact wpAny_pyNext_values_end (I.ok.hd hc) st hm (List.getElem?_eq_none (by omega)) λh' eb=>⟨rfl,I.turned (t':=s.toks) (λb ob hb e=>eb b ob hb e) f0 f1 f3 f4 f5⟩
 self:=λA i s Q E st h=>wpAny_pyIter_valiter st h
theorem agV {kvs:List (Key×V)} {elts:List Expr} {kk:Nat} {tpos:Pos} (it:Addr) (hod:o.data=.dict es ep) :
  Turn P w K (.Tuple elts kk tpos) (Iti d o kvs) [it] it (λi h=>∃ ok ov,IsItemIter h it d i kvs.length ep ok ov) where
 mem:=by simp
 obj:=λi h st b hb=>by
  have e:b=it:=by simpa using hb
  subst e
  obtain ⟨ok,ov,e⟩:=st
  exact ⟨_,e,λv z=>nomatch z⟩
 keep:=λi h h' st k=>let ⟨ok,ov,e⟩:=st;⟨ok,ov,k it (by simp) _ e⟩
 item:=by
  intro X hP hw hK hc i pins s σ H E I hf st hg
  subst hP hw hK
  obtain ⟨hd,hi⟩:=hg
  obtain ⟨hs,hgd,hx,es',ep',vs,hdt,hsz,kv,hm⟩:=I.alx hd
  obtain ⟨rfl,rfl⟩:=RW hod hdt
  obtain ⟨⟨k,v⟩,hkv⟩:∃ p,kvs[i]?=some p:=⟨kvs[i],List.getElem?_eq_getElem hi⟩
  obtain ⟨u,hu,ru⟩:=aks kv hkv
  have hl:kvs.length=vs.length:=Paired.length kv
  obtain ⟨ok,ov,he⟩:=st
  rw [hl] at he
  have hlt:it < s.heap.objs.size:=Heap.lt_size he
  refine wpAny_pyNext_items_item he hm hu λkey h' hkey ho hT hz hk=>?_
  refine ⟨_,rfl,wpAny_letOwnedTupleGo_items (s:={ s with heap:=h' }) ho λh'' he' sb=>?_⟩
  have hT2:h''.get? s.heap.objs.size=some { cls:=.type "tuple",data:=.seq #[key,u] }:=(sb.2 _ (Nat.ne_of_gt hlt)).trans hT
  have new:jf X.prog X.w (upd H s.heap.objs.size (.tup [kV k,v])) h'' s.heap.objs.size (.tup [kV k,v]):=
   ⟨by show 2<=sizeLine;decide,[key,u],.cons (afG (show Nl k key=true from hkey)) (.cons ru .nil),⟨_,hT2,rfl,_,rfl⟩⟩
  have I1:Inv X pins σ (upd H s.heap.objs.size (.tup [kV k,v])) { s with heap:=h'' }:=
   I.W0 (t':=s.toks) (ch:=[it]) (λb ob hb e=>(sb.2 b (by simpa using hb)).trans (hk b ob (by simpa using hb) e)) hf (Nat.le_refl _) new
  refine ⟨.ref s.heap.objs.size,_,I1,rfl,⟨_,k,v,hkv,rfl,I.hok.fresh (Nat.le_refl _),rfl⟩,⟨key,u,?_⟩,λb hb=>?_⟩
  ·rw [hl];exact he'
  ·have e:b=it:=by simpa using hb
   rw [e,aq (Nat.ne_of_lt hlt)]
   exact (hf it (by simp)).1
 done:=by
  intro X hP hw hK hc i pins s σ H E I hf st hg
  subst hP hw hK
  obtain ⟨hd,hi⟩:=hg
  obtain ⟨f0,f1,f2,f3,f4,f5⟩:=hf it (by simp)
  obtain ⟨hs,hgd,hx,es',ep',vs,hdt,hsz,kv,hm⟩:=I.alx hd
  obtain ⟨rfl,rfl⟩:=RW hod hdt
  have hl:kvs.length=vs.length:=Paired.length kv
  obtain ⟨ok,ov,he⟩:=st
  rw [hl] at he
  exact wpAny_pyNext_items_end (I.ok.hd hc) he hm (List.getElem?_eq_none (by omega)) λh' eb=>⟨rfl,I.turned (t':=s.toks) (λb ob hb e=>eb b ob hb e) f0 f1 f3 f4 f5⟩
 self:=λA i s Q E st h=>let ⟨_,_,e⟩:=st;PySem.W.kcp_self e h
end
def Ite (K:W.Frag) (a:Addr):It:=
 ⟨λi H=>∃ (xs:List V) (x:V),SqL K H a xs/\xs[i]?=some x,λi H v H'=>∃ T x,v=.ref T/\H T=none/\H'=upd H T (.tup [.int (i:Nat),x])/\∀ xs,SqL K H a xs->xs[i]?=some x,λi H=>∃ xs:List V,SqL K H a xs/\xs.length<=i⟩
theorem ajp {P:Program} {w:World} {K:W.Frag} {elts:List Expr} {kk:Nat} {tpos:Pos} (a e it:Addr) :
  Turn P w K (.Tuple elts kk tpos) (Ite K a) [e,it] e (λi h=>(∃ old,IsEnum h e it ((i:Nat):Int) old)/\h.IsListIter it a i/\e≠it) where
 mem:=by simp
 obj:=λi h st b hb=>by
  obtain ⟨⟨old,he⟩,⟨o,ho,hc,hd⟩,_⟩:=st
  have e':b=e\/b=it:=by simpa using hb
  rcases e' with z | z
  ·rw [z];exact ⟨_,he,λv q=>nomatch q⟩
  ·rw [z];exact ⟨o,ho,λv q=>by rw [hd] at q;cases q⟩
 keep:=λi h h' st k=>let ⟨⟨old,he⟩,hi,hne⟩:=st;⟨⟨old,k e (by simp) _ he⟩,hi.at λo q=>k it (by simp) o q,hne⟩
 item:=by
  intro X hP hw hK hc i pins s σ H E I hf st hg
  subst hP hw hK
  obtain ⟨⟨old,he⟩,hit,hne⟩:=st
  obtain ⟨xs,x,hq,hx⟩:=hg
  obtain ⟨its,rv,p,hz⟩:=I.list hq
  obtain ⟨u,hu,ru⟩:=rv.get hx
  have hel:e < s.heap.objs.size:=Heap.lt_size he
  have hil:it < s.heap.objs.size:=by obtain ⟨_,q,_⟩:=hit;exact Heap.lt_size q
  refine wpAny_pyNext_enum_item he hit p.isList (x:=u) (by simpa using hu) hne λh' ho hit' hT hsz hk=>?_
  refine ⟨_,rfl,wpAny_letOwnedTupleGo_enum (s:={ s with heap:=h',toks:=s.toks+1 }) ho λh'' he' sb=>?_⟩
  have hT2:h''.get? s.heap.objs.size=some { cls:=.type "tuple",data:=.seq #[.int i s.toks,u] }:=(sb.2 _ (Nat.ne_of_gt hel)).trans hT
  have new:jf X.prog X.w (upd H s.heap.objs.size (.tup [.int (i:Nat),x])) h'' s.heap.objs.size (.tup [.int (i:Nat),x]):=
   ⟨by show 2<=sizeLine;decide,[.int i s.toks,u],.cons ⟨_,rfl⟩ (.cons ru .nil),⟨_,hT2,rfl,_,rfl⟩⟩
  have I1:Inv X pins σ (upd H s.heap.objs.size (.tup [.int (i:Nat),x])) { s with heap:=h'',toks:=s.toks+1 }:=
   I.W0 (ch:=[e,it]) (λb ob hb q=>(sb.2 b (λz=>hb (by simp [z]))).trans (hk b ob (λz=>hb (by simp [z])) (λz=>hb (by simp [z])) q)) hf (Nat.le_refl _) new
  refine ⟨.ref s.heap.objs.size,_,I1,rfl,⟨_,x,rfl,I.hok.fresh (Nat.le_refl _),rfl,λys hy=>by rw [I.VA hy hq];exact hx⟩,⟨⟨u,?_⟩,hit'.at λo q=>(sb.2 it (Ne.symm hne)).trans q,hne⟩,λb hb=>?_⟩
  ·have e1:((i+1:Nat):Int)=(i:Int)+1:=by omega
   rw [e1];exact he'
  ·have hb':b < s.heap.objs.size:=by
    have e':b=e\/b=it:=by simpa using hb
    rcases e' with z | z
    ·rw [z];exact hel
    ·rw [z];exact hil
   rw [aq (Nat.ne_of_lt hb')]
   exact (hf b hb).1
 done:=by
  intro X hP hw hK hc i pins s σ H E I hf st hg
  subst hP hw hK
  obtain ⟨⟨old,he⟩,hit,hne⟩:=st
  obtain ⟨xs,hq,hx⟩:=hg
  obtain ⟨its,rv,p,hz⟩:=I.list hq
  obtain ⟨f0,f1,f2,f3,f4,f5⟩:=hf it (by simp)
  have hl:=rv.length
  exact wpAny_pyNext_enum_end (I.ok.hd hc) he hit p.isList (by simp;omega) λh' eb=>⟨rfl,I.turned (t':=s.toks) (λb o hb q=>eb b o hb q) f0 f1 f3 f4 f5⟩
 self:=λA i s Q E st h=>let ⟨⟨_,he⟩,_⟩:=st;wpAny_pyIter_enum he h
def afw (K:W.Frag) (ta:TA):TI:=λσ H R=>ta σ H λvs H1=>∃ a xs,vs=[.ref a]/\SqL K H1 a xs/\R (Ite K a) H1
theorem abj {X:Cx} {e:Expr} {ta:TA} {p pos tpos:Pos} {elts:List Expr} {kk:Nat} (hg:Gl X "enumerate") (hm:X.mg "enumerate"=none) (ha:PA X [e] ta) (hs:starEach [e] X.env=[(false,eval e X.env)]:=by rfl) :
  PI X (.Tuple elts kk tpos) (.Call (.Name "enumerate" p) [e] [] pos) (afw X.K ta):=by
 intro pins s σ H R I h
 refine Call_ (Hs I hg hm boot_enumerate (PyProof.Rows.callWith_type1 (thn (ha pos pins s σ H _ I h) λus s1 ⟨vs,H1,I1,r1,q1⟩=>?_) hs rfl))
 obtain ⟨a,xs,ex,hq,q⟩:=q1
 subst ex
 cases r1 with
 | cons r rr=>
  cases rr
  cases r
  obtain ⟨its,rv,p',hz⟩:=I1.list hq
  refine call_enumerate_list p'.isList λh' he hit hsz hk=>wpAny_pyIter_enum he ?_
  have I2:Inv X pins σ H1 { s1 with heap:=h' }:=I1.kept (t':=s1.toks) hk
  refine ⟨s1.heap.objs.size+1,[s1.heap.objs.size+1,s1.heap.objs.size],_,_,H1,rfl,I2,ajp a (s1.heap.objs.size+1) s1.heap.objs.size,⟨⟨.none,he⟩,hit,Nat.succ_ne_self _⟩,λb hb=>?_,q⟩
  have e':b=s1.heap.objs.size+1\/b=s1.heap.objs.size:=by simpa using hb
  have hle:s1.heap.objs.size<=b:=by
   rcases e' with z | z
   ·rw [z];exact Nat.le_add_right _ _
   ·rw [z];exact Nat.le_refl _
  exact I1.amI hle (I1.hok.fresh hle)
end L2
section
namespace TL
open PySem PySem.Builtin PySem.Builtin.Str PySem.StrLaws
abbrev tl (x:Str):List Nat:=x.cps.toList
def pre (S l:List Nat):Bool:=l.take S.length==S
def spl (S:List Nat):Nat->List Nat->List Nat->List (List Nat)
 | _,acc,[]=>[acc]
 | 0,acc,c::r=>if pre S (c::r)=true then acc::spl S (S.length - 1) [] r else spl S 0 (acc++[c]) r
 | k+1,acc,_::r=>spl S k acc r
def par (S:List Nat):List Nat->List Nat->Option (List Nat×List Nat)
 | _,[]=>none
 | acc,c::r=>if pre S (c::r)=true then some (acc,(c::r).drop S.length) else par S (acc++[c]) r
end TL
end
namespace Att
open PySem PySem.W PySem.Calls PyProof.Rows
theorem Rb {P:Params} {h:Heap}:∀ (ns:List Int) (vs:List Value),WellAll P h vs (ns.map WData.int)->IntsAre vs ns:=by
 intro ns
 induction ns with
 | nil=>
  intro vs w
  rw [List.map_nil] at w
  cases w
  exact .nil
 | cons n ns ih=>
  intro vs w
  rw [List.map_cons] at w
  cases w with
  | cons a b=>
   cases a
   exact .cons _ _ (ih _ b)
end Att
namespace L2
open PySem PySem.Spec PyProof.Rows
theorem WH:∀ {vs:List Value} {ns:List Int},IntsAre vs ns->Vals (ns.map V.int) vs
 | _,_,.nil=>.nil
 | _,_,.cons n t h=>.cons ⟨t,rfl⟩ (WH h)
def amu (H:Hp):Prop:=∀ b,H b=none\/∃ o xs,H b=some (.frz o (.lst xs))
end L2
namespace L2
open PySem PySem.Spec PyProof.Rows
abbrev KOf {K:W.Frag} {h:Heap} (_:K.In h):PySem.W.Frag:=K
end L2
namespace L2
open PySem PySem.Spec PyProof.Rows
def inClass (s:Stmt) (j:Nat):Stmt:=match s with
 | .ClassDef _ _ _ body _ _ _ _ _ _ _=>body.getD j (.Pass ⟨0,0,0,0⟩)
 | _=>.Pass ⟨0,0,0,0⟩
def aD (s:Stmt):Arguments:=match s with
 | .FunctionDef _ a _ _ _ _ _ _ _ _=>a
 | _=>{ posonlyargs:=[],args:=[],vararg:=none,kwonlyargs:=[],kw_defaults:=[],kwarg:=none,defaults:=[] }
def aC (s:Stmt):List Stmt:=match s with
 | .FunctionDef _ _ b _ _ _ _ _ _ _=>b
 | _=>[]
def ah (s:Stmt):Scope:=match s with
 | .FunctionDef _ _ _ _ _ _ sc _ _ _=>sc
 | _=>{ kind:=.function,names:=[],isGenerator:=false,isCoroutine:=false }
abbrev CX0:CXT:=λ_ _ _ _ _ _=>False
abbrev E0:XK:=λ_ _ _=>False
theorem aS {X:Cx}:Passes CX0 X E0:=λ_ _ _ _ _ _ _ h=>h.elim
structure Fun (K:W.Frag) (x qual:Str) (st:Stmt) (f:Addr) (fd:FuncData):Prop where
 ex:∃ (oc:Value) (od:Option Addr) (kV doc pm:Value) (an:Option Addr) (cdv ct:Value) (osl:Array (Option Value)),
  fd=PySem.W.fnOf x qual (aD st) (aC st) (ah st) .none kV doc pm an cdv ct/\K.lookup f=some ⟨oc,od,.func fd,osl⟩/\PySem.W.codeIn K cdv qual=true
 kp:PySem.W.keepIn K (.ref f)=true
section
variable {P:Program} {w:World} {K:W.Frag} {mg:Str->Option Value} {base:Heap}
theorem Fun.ok {x qual:Str} {st:Stmt} {f:Addr} {fd:FuncData} {N ps:List Str} {k:Nat} {sp:Sp} (F:Fun K x qual st f fd) (S:aW N ps (ah st)) (len:∀ vs H Q E,sp vs H Q E->vs.length=ps.length)
  (hbody:∀ (cdv:Value) (A:Around) (outer:List Env) (s:Shared) (H:Hp) (vs:List V) (Q:VK) (E:XK),qt k (A.deeper (envOfC qual (ah st) s.heap.objs.size f cdv))->sp vs H Q E ->
   ∃ t,PSs (aiT CX0 P w K mg base N qual (ah st) f cdv A outer s H E).nox (aC st) t/\t { nx:=λ_ H'=>Q .non H',rt:=Q } (start N vs) H):aQ P w K mg base CX0 (k+1) f fd ps sp:=by
 obtain ⟨oc,od,kV,doc,pm,an,cdv,ct,osl,rfl,lk,hcd⟩:=F.ex
 refine aps lk hcd S len λA outer s H vs Q E hr hsp=>?_
 obtain ⟨t,h,q⟩:=hbody cdv A outer s H vs Q E hr hsp
 exact ⟨t,h.nox,q⟩
theorem Fun.binds {x qual:Str} {st:Stmt} {f:Addr} {fd:FuncData} {ps:List Str} (F:Fun K x qual st f fd)
  (h:∀ (kV doc pm:Value) (an:Option Addr) (cdv ct:Value) (us:List Value),us.length=ps.length->bindArgs (PySem.W.fnOf x qual (aD st) (aC st) (ah st) .none kV doc pm an cdv ct) ⟨us,[]⟩=pure (ps.zip us)):Binds K fd ps []:=by
 obtain ⟨oc,od,kV,doc,pm,an,cdv,ct,osl,rfl,lk,hcd⟩:=F.ex
 exact .all (h kV doc pm an cdv ct)
theorem bq {x qual:Str} {st:Stmt} {f:Addr} {oc:Value} {od an:Option Addr} {osl:Array (Option Value)} {kV doc pm cdv ct:Value} (l:K.lookup f=some ⟨oc,od,.func (PySem.W.fnOf x qual (aD st) (aC st) (ah st) .none kV doc pm an cdv ct),osl⟩)
  (c:PySem.W.codeIn K cdv qual=true) (k:PySem.W.keepIn K (.ref f)=true):Fun K x qual st f (PySem.W.fnOf x qual (aD st) (aC st) (ah st) .none kV doc pm an cdv ct):=⟨⟨oc,od,kV,doc,pm,an,cdv,ct,osl,rfl,l,c⟩,k⟩
end
theorem bS {A:Around} {k:Nat} (hr:qt k A):A.units+1 < cLine:=Nat.lt_of_le_of_lt (Nat.add_le_add_left (by decide:1<=64) _) hr.units
section
variable {X:Cx}
theorem pv (i:Nat) {x:Str} {pos:Pos} (hN:X.N[i]?=some x:=by rfl) (hv:Vis X.env.scope x:=by first | exact Or.inl rfl | exact Or.inr (Or.inl rfl) | exact Or.inr (Or.inr rfl)) (hd:(x==("__debug__":Str))=false:=by decide)
  (hcd:(x==("__classdict__":Str))=false:=by decide):PE X (.Name x pos) (aa i):=an2 hN hv hd hcd
end
def aP (H H':Hp):Prop:=∀ b o,H b=some o->H' b=some o
theorem aP.refl (H:Hp):aP H H:=λ_ _ h=>h
theorem aP.trans {H H1 H2:Hp} (a:aP H H1) (b:aP H1 H2):aP H H2:=λc o h=>b c o (a c o h)
theorem aP.free {H H':Hp} (e:aP H H') {l:Addr} (h:H' l=Option.none):H l=Option.none:=by
 cases q:H l with
 | none=>rfl
 | some o=>
  rw [e l o q] at h
  cases h
section
variable {κ:Type} [DecidableEq κ]
theorem akY {kvs:List (κ×V)} {k:κ} (h:iN kvs k=none):¬k∈kvs.map (·.1):=by
 intro m
 obtain ⟨p,hp,e⟩:=List.mem_map.mp m
 have q:(kvs.any λkv=>decide (kv.1=k))=true:=List.any_eq_true.mpr ⟨p,hp,decide_eq_true e⟩
 rw [vZ,h] at q
 exact absurd q (by simp)
theorem aif:∀ {l:List κ} {k:κ},l.Nodup->¬k∈l->(l++[k]).Nodup
 | [],k,_,_=>by simp
 | a::r,k,h,hk=>by
  obtain ⟨h1,h2⟩:=List.nodup_cons.mp h
  show (a::(r++[k])).Nodup
  refine List.nodup_cons.mpr ⟨λm=>?_,aif h2 λm=>hk (List.mem_cons.mpr (Or.inr m))⟩
  rcases List.mem_append.mp m with q | q
  ·exact h1 q
  ·exact hk (List.mem_cons.mpr (Or.inl (List.mem_singleton.mp q).symm))
theorem amU {kvs:List (κ×V)} {k:κ} (v:V) (hn:(kvs.map (·.1)).Nodup) (h:iN kvs k=none):((putK kvs k v).map (·.1)).Nodup:=by
 rw [HV v h,List.map_append]
 exact aif hn (akY h)
end
theorem at_of {xs:List V} {z:Int} {j:Nat} {v:V} (e:z=(j:Int)) (h:xs[j]?=some v):atI xs z=some v:=by
 rw [e]
 exact amK h
theorem ao8 {α:Type} {l:List α} (hN:l.Nodup) {i j:Nat} {x:α} (a:l[i]?=some x) (b:l[j]?=some x):i=j:=by
 obtain ⟨h1,e1⟩:=List.getElem?_eq_some_iff.mp a
 obtain ⟨h2,e2⟩:=List.getElem?_eq_some_iff.mp b
 exact (List.getElem_inj hN).mp (e1.trans e2.symm)
end L2
namespace L2
open PySem PySem.Spec PyProof.Rows
theorem aka:∀ {vs:List Value} {ns:List Int},Vals (ns.map V.int) vs->IntsAre vs ns
 | [],[],_=>.nil
 | _::_,_::_,.cons ⟨t,e⟩ r=>by
  subst e
  exact .cons _ t (aka r)
theorem readsAll_ints {R:PySem.W.WRecords} {cl:Str->Option Addr} {h:Heap}:∀ {vs:List Value} {ns:List Int},Vals (ns.map V.int) vs->PySem.W.ReadsAllW R cl h vs (ns.map PySem.W.WData.int) []
 | [],[],_=>.nil
 | _::_,_::_,.cons ⟨t,e⟩ r=>by
  subst e
  have q:=readsAll_ints (R:=R) (cl:=cl) (h:=h) r
  exact PySem.W.ReadsAllW.cons (as:=[]) (bs:=[]) (.int _ t) q
theorem ajd {P:Program} {w:World} {K:W.Frag} {mg mb:Str->Option Value} {CX:CXT} {k:Nat} {fa a:Addr} {fd:FuncData} {x:Str} {sp:Sp} {s₁:Shared} {vs:List Value} {ns ans:List Int}
  (KX:K.In s₁.heap) (hns:s₁.heap.Ns mainGlobals mg) (hb:s₁.heap.Ns builtinsNs mb) (hbb:∀ x:Str,x≠"__name__"->mb x=bootBuiltins x) (hlim:s₁.heap.NoLimit) (hg:s₁.gens=#[])
  (ha:s₁.heap.get? a=some { cls:=.type "list",data:=.seq vs.toArray }) (hi:IntsAre vs ns) (hl:ns.length<=sizeLine) (hr:qt k callerA)
  (F:∀ base:Heap,K.In base->base.Ns mainGlobals mg->aQ P w K mg base CX k fa fd [x] sp) (hbind:∀ (s:Shared) (u:Value),BindsTo s fd ⟨[u],[]⟩ [(x,u)])
  (hsp:∀ H:Hp,amu H->SqL K H a (ns.map V.int)->sp [.ref a] H (λv H'=>∃ p,v=.ref p/\H' p=some (.lst (ans.map V.int))) λ_ _ _=>False)
  (hCX:∀ H e s',CX [] H s₁ (λ_ _ _=>False) e s'->False) :
  codeAny (model P w) callerA (.call (.ref fa) ⟨[.ref a],[]⟩) (λr s'=>(∃ (p:Addr) (its:List Value) (n:Nat),r=.ok (.ret (.ref p))/\s'.heap.get? p=some { cls:=.type "list",data:=.seq its.toArray n }/\Vals (ans.map V.int) its)/\OldK s₁.heap s'.heap/\s'.os=s₁.os/\AllBare s'.gens) s₁:=by
 have rv:=WH hi
 have lenV:=hi.length
 have core:∀ H:Hp,amu H->SqL K H a (ns.map V.int)->HOk P w H s₁.heap->(∀ b,H b≠none->b=a)->(H a≠none->K.lookup a=none) ->
   codeAny (model P w) callerA (.call (.ref fa) ⟨[.ref a],[]⟩) (λr s'=>(∃ (p:Addr) (its:List Value) (n:Nat),r=.ok (.ret (.ref p))/\s'.heap.get? p=some { cls:=.type "list",data:=.seq its.toArray n }/\Vals (ans.map V.int) its)/\OldK s₁.heap s'.heap/\s'.os=s₁.os/\AllBare s'.gens) s₁:=by
  intro H hO hS hok hA hK
  have base_of:∀ {b:Addr} {o:Obj},s₁.heap.get? b=some o->H b=none->(Zh s₁.heap H).get? b=some o:=λe n=>akG e n
  have noA:∀ {b:Addr} {o:Obj} {es:Array DictEntry} {ep:Nat},s₁.heap.get? b=some o->o.data=.dict es ep->H b=none:=λ{b o es ep} e d=>by
   cases q:H b with
   | none=>rfl
   | some u=>
    have e':b=a:=hA b (by rw [q];simp)
    subst e'
    rw [ha] at e;cases e
    have d':Data.seq vs.toArray _=Data.dict es ep:=d
    cases d'
  have nsK:∀ {b:Addr} {m:Str->Option Value},s₁.heap.Ns b m->(Zh s₁.heap H).Ns b m:=λ{b m} ⟨o,es,ep,e,d,r⟩=>⟨o,es,ep,base_of e (noA e d),d,r⟩
  have hKb:K.In (Zh s₁.heap H):=λb o e=>base_of (KX b o e) (by
   cases q:H b with
   | none=>rfl
   | some u=>
    have e':b=a:=hA b (by rw [q];simp)
    subst e'
    rw [hK (by rw [q];simp)] at e;cases e)
  have hM:Mod K mg (Zh s₁.heap H):=⟨hKb,nsK hns,⟨mb,nsK hb,hbb⟩,let ⟨mc,h1,h2⟩:=hlim;⟨mc,nsK h1,h2⟩⟩
  have e0:agB P w K mg (Zh s₁.heap H) callerA [] s₁ H:=⟨rfl,hM,λb o e=>amZ e,Nat.le_of_eq (ai4 _ _),trivial,λb hb=>absurd (show b∈([]:List Addr) from hb) (by simp),hok,.of_eq hg⟩
  refine codeAny_mono ((F _ hKb (nsK hns)).run callerA [] s₁ H ⟨[.ref a],[]⟩ [.ref a] [.ref a] _ _ hr e0 (hbind s₁ (.ref a)) (.cons rfl .nil) (hsp H hO hS)) λr s' h=>?_
  cases r with
  | error e=>exact (hCX H e s' h).elim
  | ok fl=>
   cases fl with
   | next=>exact False.elim h
   | brk=>exact False.elim h
   | cont=>exact False.elim h
   | ret u=>
    obtain ⟨v,H',os,bare,un,hok',r',p,rfl,hp⟩:=h
    obtain rfl:u=Value.ref p:=r'
    obtain ⟨_,its,n,rits,eits⟩:=hok' p _ hp
    refine ⟨⟨p,its,n,rfl,eits,rits⟩,OldK.of_keep λb o e=>?_,os,bare⟩
    cases q:H b with
    | none=>exact un.keep b o e q (by intro z;exact absurd (show b∈([]:List Addr) from z) (by simp)) (by simp)
    | some u=>
     rcases hO b with z | ⟨ob,xs,z⟩
     ·rw [q] at z;cases z
     ·have z2:=un.Ub b ob _ z
      obtain ⟨e1,_⟩:=hok b _ z
      obtain ⟨e2,_⟩:=hok' b _ z2
      rw [e] at e1;cases e1
      exact e2
 cases hk:K.lookup a with
 | some o=>
  have e:=KX a o hk
  rw [ha] at e
  cases e
  refine core (λ_=>none) (λ_=>.inl rfl) (.inr ⟨_,vs.toArray,_,hk,rfl,rfl,rfl,by rw [List.size_toArray,lenV];exact hl,by simpa using rv⟩) (λb u z=>by have z':(none:Option HO)=some u:=z;cases z') (λb z=>absurd rfl z) λz=>absurd rfl z
 | none=>
  refine core (λb=>if b=a then some (.frz { cls:=.type "list",data:=.seq vs.toArray } (.lst (ns.map V.int))) else none) (λb=>?_) (.inl (.inr ⟨{ cls:=.type "list",data:=.seq vs.toArray },if_pos rfl⟩)) (λb u z=>?_) (λb z=>?_) λ_=>hk
  ·by_cases hb:b=a
   ·exact .inr ⟨_,_,if_pos hb⟩
   ·exact .inl (if_neg hb)
  ·by_cases hb:b=a
   ·have z':=(if_pos hb).symm.trans z
    cases z'
    subst hb
    exact ⟨ha,by rw [List.length_map];exact hl,vs,_,rv,ha⟩
   ·have z':=(if_neg hb).symm.trans z
    cases z'
  ·by_cases hb:b=a
   ·exact hb
   ·exact absurd (if_neg hb) z
end L2
namespace L2
open PySem PySem.Spec PyProof.Rows PySem.W
theorem afv {prog:Program} {nm:Str} {least most:Nat} {lo hi:Int} {ret:Codec} {asked:List Int->Bool} {f:List Int->ret.denote} {P:Params} {h:Heap} {args:List WData} {vals:List Value}
  (hpre:(OpenSpec.mk prog nm [.list least most (.int lo hi)] ret asked f).pre args=true) (hwl:WellAll P h vals args) :
  ∃ a vs ns,vals=[Value.ref a]/\args=[WData.list (ns.map WData.int)]/\h.get? a=some { cls:=.type "list",data:=.seq vs.toArray }/\IntsAre vs ns/\least<=ns.length/\ns.length<=most/\(∀ x∈ns,lo<=x/\x<=hi)/\asked ns=true /\
   Codec.decAll [.list least most (.int lo hi)] args=some (ns,()):=by
 have hsh:=os_shapes _ hpre
 obtain ⟨d,r,rfl,h1,h2⟩:=hasAllW_cons hsh
 obtain rfl:=hasAllW_nil h2
 obtain ⟨xs,rfl,h3⟩:=hasW_list h1
 obtain ⟨ns,rfl⟩:=items_int h3
 have e:WData.list (ns.map WData.int)=ofPy (PyData.list (ns.map PyData.int)):=by
  rw [<-ofPys_ints]
  rfl
 have hs:=os_pre_isSome hpre
 have hs':(Codec.decAll [.list least most (.int lo hi)] [ofPy (PyData.list (ns.map PyData.int))]).isSome=true:=by
  rw [<-e]
  exact hs
 obtain ⟨e1,h4,h5,h6⟩:=os_dec_ints hs'
 rw [<-e] at e1
 have h7:=os_pre_asked hpre e1
 cases hwl with
 | cons w1 w2=>
  cases w2
  cases w1 with
  | list ho hall=>exact ⟨_,_,ns,rfl,rfl,ho,Att.Rb ns _ hall,h4,h5,h6,h7,e1⟩
theorem alg {prog:Program} {nm:Str} {least most a₀ b₀:Nat} {lo hi c₀ d₀:Int} {asked:List Int->Bool} {f:List Int->List Int} {k:Nat} {q:Program} {loose:List Str} {XP:(Str->Option Value)->Heap->Prop} {YP:World->Heap->Prop} {d:DefRec} {K:Params->PySem.W.Frag} {CX:World->CXT} {sp:World->Sp} {x:Str}
  (hn2:most<=sizeLine) (hdf:d.params.defaults=[]) (hr:qt k callerA)
  (hY:∀ (w:World) (h:Heap),YP w h->(K w.params).In h)
  (F:∀ (w:World) (mg:Str->Option Value) (fa:Addr) (h:Heap),(K w.params).In h->h.Ns mainGlobals mg->mg d.name=some (.ref fa) ->
   ∃ fd:FuncData,(∀ (s:Shared) (u:Value),BindsTo s fd ⟨[u],[]⟩ [(x,u)]) /\
    ∀ base:Heap,(K w.params).In base->base.Ns mainGlobals mg->aQ prog w (K w.params) mg base (CX w) k fa fd [x] (sp w))
  (hsp:∀ (w:World) (H:Hp) (a:Addr) (ns:List Int),least<=ns.length->ns.length<=most->(∀ x∈ns,lo<=x/\x<=hi)->asked ns=true->amu H->SqL (K w.params) H a (ns.map V.int) ->
   sp w [.ref a] H (λv H'=>∃ p,v=.ref p/\H' p=some (.lst ((f ns).map V.int))) λ_ _ _=>False)
  (hCX:∀ (w:World) (H:Hp) (s:Shared) (e:Value) (s':Shared),CX w [] H s (λ_ _ _=>False) e s'->False) :
  PySem.W.WalkOS q loose XP YP (OpenSpec.mk prog nm [.list least most (.int lo hi)] (.list a₀ b₀ (.int c₀ d₀)) asked f) d [] (λf vs=>PySem.call f vs):=by
 intro w s₀ s₁ mg mb G Y fa o pm cd doc dV kV ho hd hcd hD hmg hg args vals as hpre hlay hrd hwl hlo
 obtain rfl:dV=.none:=Dflts.none hD hdf
 obtain rfl:kV=.none:=Dflts.noKw hD
 obtain ⟨a,vs,ns,rfl,rfl,hobj,hints,h4,h5,h6,h7,e1⟩:=afv hpre hwl
 have KX:=hY w _ Y
 obtain ⟨fd,hb,hF⟩:=F w mg fa _ KX G.T.g hmg
 refine enter_call (codeAny_mono (ajd (ans:=f ns) KX G.T.g G.T.b G.T.builtins G.T.nolimit hg hobj hints (Nat.le_trans h5 hn2) hr hF hb (λH hO hS=>hsp w H a ns h4 h5 h6 h7 hO hS) λH e s'=>hCX w H s₁ e s') λr s' hq=>?_)
 obtain ⟨⟨p,its,n,rfl,hp,hv⟩,h2,h3,h4'⟩:=hq
 refine ⟨.inl ⟨.ref p,.list ((f ns).map WData.int),[p],rfl,osNone,.list hp rfl rfl (by simpa using readsAll_ints hv),osPost (os_post (a:=(ns,())) e1 ?_),λhu=>absurd hu Bool.false_ne_true⟩,h2,h3,h4'⟩
 exact same_self _
theorem aiW {prog:Program} {nm:Str} {least most a₀ b₀:Nat} {lo hi c₀ d₀:Int} {asked:List Int->Bool} {f:List Int->List Int} {k:Nat} {q:Program} {loose:List Str} {XP:(Str->Option Value)->Heap->Prop} {YP:World->Heap->Prop} {d:DefRec} {K:Params->PySem.W.Frag} {CX:CXT} {sp:PySem.W.Frag->Sp} {x:Str}
  (hn2:most<=sizeLine) (hdf:d.params.defaults=[]) (hr:qt k callerA)
  (hY:∀ (w:World) (h:Heap),YP w h->(K w.params).In h)
  (F:∀ (w:World) (mg:Str->Option Value) (fa:Addr) (h:Heap),(K w.params).In h->h.Ns mainGlobals mg->mg d.name=some (.ref fa) ->
   ∃ fd:FuncData,(∀ (s:Shared) (u:Value),BindsTo s fd ⟨[u],[]⟩ [(x,u)]) /\
    ∀ base:Heap,(K w.params).In base->base.Ns mainGlobals mg->aQ prog w (K w.params) mg base CX k fa fd [x] (sp (K w.params)))
  (hsp:∀ (K:W.Frag) (H:Hp) (a:Addr) (ns:List Int),least<=ns.length->ns.length<=most->(∀ x∈ns,lo<=x/\x<=hi)->asked ns=true->amu H->SqL K H a (ns.map V.int) ->
   sp K [.ref a] H (λv H'=>∃ p,v=.ref p/\H' p=some (.lst ((f ns).map V.int))) λ_ _ _=>False)
  (hCX:∀ (H:Hp) (s:Shared) (e:Value) (s':Shared),CX [] H s (λ_ _ _=>False) e s'->False) :
  PySem.W.WalkOS q loose XP YP (OpenSpec.mk prog nm [.list least most (.int lo hi)] (.list a₀ b₀ (.int c₀ d₀)) asked f) d [] (λf vs=>PySem.call f vs):=
 alg (K:=K) (CX:=λ_=>CX) (sp:=λw=>sp (K w.params)) hn2 hdf hr hY F (λw H a ns h1 h2 h3 h4 h5 h6=>hsp (K w.params) H a ns h1 h2 h3 h4 h5 h6) λ_ H s e s'=>hCX H s e s'
end L2
namespace L2
open PySem PySem.Spec PyProof.Rows
section
variable {X:Cx}
theorem aR {x:Str} {v:V} {pos:Pos} (hg:Gl X x) (h:∃ u,X.mg x=some u/\RelV v u) (hd:(x==("__debug__":Str))=false:=by decide):PE X (.Name x pos) (tC v):=by
 obtain ⟨u,hm,r⟩:=h
 exact amC hg hm r hd
abbrev FP (K:W.Frag):List V->Hp->VK->Prop:=λxs H Q=>∃ p ys,xs=[.ref p]/\(SqL K H p ys\/SqT K H p ys)/\Q (.int ys.length) H
abbrev Ag (K:W.Frag) (ta:TE):TT:=λσ H Q=>ta σ H λx H'=>∃ k,akv K x H' k/\Q k H'
structure TabAt (K:W.Frag) (mg:Str->Option Value) (x:Str) (a:Addr) (tab:List (Int×Int)):Prop where
 at_:mg x=some (.ref a)
 ob:∃ (es:Array DictEntry) (ep:Nat),K.lookup a=some { cls:=.type "dict",dict:=none,data:=.dict es ep,slots:=#[] }/\(a==sysModules)=false /\
  ∃ vs:List (Key×Value),KV (tab.map λp=>((Sum.inl p.1:Key),V.int p.2)) vs/\∀ (P:Program) (w:World) (h:Heap),h.get? a=some { cls:=.type "dict",dict:=none,data:=.dict es ep,slots:=#[] }->h.DictOf (eF P w) a vs
def an6 (tab:List (Int×Int)) (tb:TE):TE:=λσ H Q=>tb σ H λy H1=>∃ i j,y=.int i/\tab.lookup i=some j/\Q (.int j) H1
theorem ah6 (i:Int):∀ tab:List (Int×Int),iN (tab.map λp=>((Sum.inl p.1:Key),V.int p.2)) (Sum.inl i)=(tab.lookup i).map V.int
 | []=>rfl
 | p::r=>by
  have ih:=ah6 i r
  by_cases e:p.1=i
  ·rw [List.map_cons,List.lookup_cons]
   have e2:(i==p.1)=true:=by rw [e];exact beq_self_eq_true i
   rw [e2]
   show Option.map _ (List.find? _ (_::_))=_
   rw [List.find?_cons_of_pos (by show decide ((Sum.inl p.1:Key)=Sum.inl i)=true;rw [e];simp)]
   rfl
  ·rw [List.map_cons,List.lookup_cons]
   have e2:(i==p.1)=false:=by rw [beq_eq_false_iff_ne];exact λz=>e z.symm
   rw [e2]
   show Option.map _ (List.find? _ (_::_))=_
   rw [List.find?_cons_of_neg (by show ¬decide ((Sum.inl p.1:Key)=Sum.inl i)=true;intro z;exact e (Sum.inl.inj (of_decide_eq_true z)))]
   exact ih
theorem aos {x:Str} {a:Addr} {tab:List (Int×Int)} {i:Expr} {ti:TE} {pos p:Pos} (hg:Gl X x) (T:TabAt X.K X.mg x a tab) (hi:PE X i ti) (hs:ao7 i:=by exact λ_ _=>rfl) (hd:(x==("__debug__":Str))=false:=by decide) :
  PE X (.Subscript (.Name x p) i pos) (an6 tab ti):=by
 intro pins s σ H Q I h
 obtain ⟨es,ep,hk,hsm,vs,rel,hdict⟩:=T.ob
 refine amB PySem.F.slot_dict_getitem.lookup hs (LD I hg T.at_ (thn (hi pins s σ H _ I h) λiv s2 ⟨y,H2,I2,ry,n,j,ey,l,q2⟩=>?_) hd)
 subst ey
 have ho:=I2.kIn a _ hk
 have dd:=hdict X.prog X.w s2.heap ho
 refine ⟨dd.typeIs,?_⟩
 obtain ⟨w',hw,rw'⟩:=Ho.some_of (v:=V.int j) (o:=valueAt vs (Sum.inl n:Key)) (by
  have e:=rel.val (Sum.inl n:Key)
  rw [ah6,l] at e
  exact e)
 exact wpAny_getItem_of (ad6 (k:=(Sum.inl n:Key)) ry) dd.mapOf hw ⟨V.int j,H2,I2.tok _,rw',q2⟩
end
end L2
namespace L2
open PySem PySem.Spec PyProof.Rows
section
variable {prog:Program} {w:World} {A:Around} {R:Result->Shared->Prop} {I S:Addr} {fp wr:List Addr} {n:Nat} {P:Nat->Value->Prop} {St:Nat->Heap->Prop} {kw:List (Str×Value)}
abbrev two (vb:Value) (c:Nat):Obj:={ cls:=.type "list",dict:=none,data:=.seq #[vb,vb] c,slots:=#[] }
theorem aiF (W:Walks prog w A.in1 I fp wr n P St) {bt:Nat->Nat->Bool} (hc:CmpOf prog w A.in1 .Lt P bt) (hS0:S∉fp) (k:Nat) :
  ∀ {j:Nat} {s:Shared} {vb:Value} {c:Nat},k+(j+1)=n->St (j+1) s.heap->P (argBest bt j) vb->s.heap.get? S=some (two vb c) ->
   (∀ v h' tk,P (argBest bt (n - 1)) v->(∀ b o,b∉wr->b≠S->s.heap.get? b=some o->h'.get? b=some o)->R (.ok (.ret v)) { s with heap:=h',toks:=tk }) ->
   codeAny (model prog w) A (.builtin "min.loop" ⟨[.ref I,.none,.ref S],kw⟩) R s:=by
 have hS1:S∉wr:=λz=>hS0 (W.sub _ z)
 have nm:(toString "min"++toString ".loop":String)="min.loop":=by decide
 induction k with
 | zero=>
  intro j s vb c e st pb gS out
  refine codeAny_builtin F.entry_min_loop ?_
  rw [Around.under_plainId F.plain_min_loop _]
  refine wpAny_bind (wpAny_seqItems gS rfl ?_)
  refine wpAny_bind (wpAny_tryCatch (W.done s _ _ (by rw [show n=j+1 by omega];exact st) λh' tk keep=>?_))
  have gS':=keep S _ hS1 gS
  refine wpAny_bind (wpAny_updateSeq gS' rfl (wpAny_bind (wpAny_letGo (wpAny_pure ?_))))
  exact out vb _ tk (by rw [show n - 1=j by omega];exact pb) λb o nw ns g=>(Heap.get?_update_other _ _ (Ne.symm ns)).trans (keep b o nw g)
 | succ k ih=>
  intro j s vb c e st pb gS out
  refine codeAny_builtin F.entry_min_loop ?_
  rw [Around.under_plainId F.plain_min_loop _]
  refine wpAny_bind (wpAny_seqItems gS rfl ?_)
  refine wpAny_bind (wpAny_tryCatch (W.item (j+1) s _ _ (by omega) st λv h' tk pv st' keep=>?_))
  have gS':=keep S _ hS1 gS
  refine wpAny_bind (wpAny_pure ?_)
  refine wpAny_bind (wpAny_tryCatch (wpAny_holding (wpAny_bind (hc (j+1) (argBest bt j) v vb _ _ _ pv pb ?_))))
  refine wpAny_bind (wpAny_holding (wpAny_truthy_bool ?_))
  refine wpAny_bind (wpAny_letGo (wpAny_pure ?_))
  by_cases hb:bt (j+1) (argBest bt j)=true
  ·rw [if_pos hb]
   refine wpAny_bind (wpAny_updateSeq gS' rfl (wpAny_bind (wpAny_letGo ?_)))
   rw [nm]
   have ab:argBest bt (j+1)=j+1:=by simp only [argBest,hb,if_true]
   refine wpAny_pure ⟨plainId_quiet F.plain_min_loop _,ih (by omega) (W.frame _ _ _ st' λb inf o g=>?_) (by rw [ab];exact pv) (Heap.get?_update_self _ gS' rfl) λv' h'' tk'' pv' keep''=>?_⟩
   ·exact (Heap.get?_update_other _ _ (λz:S=b=>hS0 (by rw [z];exact inf))).trans g
   ·exact out v' h'' tk'' pv' λb o nw ns g=>keep'' b o nw ns ((Heap.get?_update_other _ _ (Ne.symm ns)).trans (keep b o nw g))
  ·rw [if_neg hb]
   refine wpAny_bind (wpAny_letGo ?_)
   rw [nm]
   have ab:argBest bt (j+1)=argBest bt j:=by simp only [argBest,if_neg hb]
   refine wpAny_pure ⟨plainId_quiet F.plain_min_loop _,ih (by omega) st' (by rw [ab];exact pb) gS' λv' h'' tk'' pv' keep''=>?_⟩
   exact out v' h'' tk'' pv' λb o nw ns g=>keep'' b o nw ns (keep b o nw g)
theorem abB (W:Walks prog w A.in1 I fp wr n P St) {bt:Nat->Nat->Bool} (hc:CmpOf prog w A.in1 .Lt P bt) (hS0:S∉fp) {s:Shared} {c:Nat} {x:Str} {d:Value} (st:St 0 s.heap)
  (gS:s.heap.get? S=some { cls:=.type "list",dict:=none,data:=.seq #[] c,slots:=#[] })
  (none_:n=0->∀ h' tk,(∀ b o,b∉wr->b≠S->s.heap.get? b=some o->h'.get? b=some o)->R (.ok (.ret d)) { s with heap:=h',toks:=tk })
  (some_:0 < n->∀ v h' tk,P (argBest bt (n - 1)) v->(∀ b o,b∉wr->b≠S->s.heap.get? b=some o->h'.get? b=some o)->R (.ok (.ret v)) { s with heap:=h',toks:=tk }) :
  codeAny (model prog w) A (.builtin "min.loop" ⟨[.ref I,.none,.ref S],[(x,d)]⟩) R s:=by
 have hS1:S∉wr:=λz=>hS0 (W.sub _ z)
 have nm:(toString "min"++toString ".loop":String)="min.loop":=by decide
 refine codeAny_builtin F.entry_min_loop ?_
 rw [Around.under_plainId F.plain_min_loop _]
 refine wpAny_bind (wpAny_seqItems gS rfl ?_)
 by_cases hn:n=0
 ·refine wpAny_bind (wpAny_tryCatch (W.done s _ _ (by rw [hn];exact st) λh' tk keep=>?_))
  refine wpAny_bind (wpAny_rule (wpAny_pure ?_))
  exact none_ hn h' tk λb o nw _ g=>keep b o nw g
 ·have hp:0 < n:=by omega
  refine wpAny_bind (wpAny_tryCatch (W.item 0 s _ _ hp st λv h' tk pv st' keep=>?_))
  have gS':=keep S _ hS1 gS
  refine wpAny_bind (wpAny_pure ?_)
  refine wpAny_bind (wpAny_updateSeq gS' rfl ?_)
  rw [nm]
  refine wpAny_pure ⟨plainId_quiet F.plain_min_loop _,aiF W hc hS0 (n - 1) (j:=0) (by omega) (W.frame _ _ _ st' λb inf o g=>?_) pv (Heap.get?_update_self _ gS' rfl) λv' h'' tk'' pv' keep''=>?_⟩
  ·exact (Heap.get?_update_other _ _ (λz:S=b=>hS0 (by rw [z];exact inf))).trans g
  ·exact some_ hp v' h'' tk'' pv' λb o nw ns g=>keep'' b o nw ns ((Heap.get?_update_other _ _ (Ne.symm ns)).trans (keep b o nw g))
end
section
variable {prog:Program} {w:World} {A:Around} {E:Value->Shared->Prop} {s:Shared} {l:Addr}
theorem ajf (a d:Value):argsOk "min" ⟨[a],[("default",d)]⟩:=by unfold argsOk;kernel_rfl
theorem OL {xs:Array (Int×Tok)} {d:Value} {Q:Value->Shared->Prop} (hh:A.handled=none) (hl:s.heap.IsList l (intItems xs))
  (none_:xs.size=0->∀ h' tk,(∀ b o,s.heap.get? b=some o->h'.get? b=some o)->Q d { s with heap:=h',toks:=tk })
  (some_:0 < xs.size->∀ v h' tk,(intItems xs)[argBest (λi j=>decide (numAt xs i < numAt xs j)) (xs.size - 1)]?=some v->(∀ b o,s.heap.get? b=some o->h'.get? b=some o)->Q v { s with heap:=h',toks:=tk }) :
  wpAny (model prog w) A (call (.builtin "min") [.ref l] [("default",d)]) Q E s:=by
 have nm:(toString "min"++toString ".loop":String)="min.loop":=by decide
 have sz:(intItems xs).size=xs.size:=by simp [intItems]
 have core:wpAny (model prog w) A.in1 (Builtin.«min» ⟨[.ref l],[("default",d)]⟩) (λfin s'=>match fin with
   | .done f=>(match (Except.ok f:Result) with | .ok (.ret v)=>Q v s' | .ok _=>False | .error e=>E e s')
   | .again c'=>c'.quiet=true/\codeAny (model prog w) A c' (λr s'=>match r with | .ok (.ret v)=>Q v s' | .ok _=>False | .error e=>E e s') s') E s:=by
  show wpAny _ A.in1 (Builtin.Builtins.bindParams "min" ["key","default"] 0 ⟨[],[("default",d)]⟩ >>= _) _ _ s
  refine wpAny_bind (wpAny_of_eq (show Builtin.Builtins.bindParams "min" ["key","default"] 0 ⟨[],[("default",d)]⟩=pure [none,some d] from rfl) ?_)
  refine wpAny_bind (wpAny_pure (wpAny_bind (iter_intList hl λs₂ e st hfp hlI=>?_)))
  subst e
  refine wpAny_bind (wpAny_newObj_type ?_)
  rw [nm]
  have W:=Walks.list (prog:=prog) (w:=w) (A:=A.in1) hh s.heap.objs.size l hlI (intItems xs)
  refine wpAny_pure ⟨plainId_quiet F.plain_min_loop _,abB W (CmpOf.ints_lt (numAt xs) λ_ _=>intItems_at) (λhm=>Nat.lt_irrefl _ (hfp _ hm)) (W.frame _ _ _ st λb _ o e=>Heap.get?_push_of_some _ e) (Heap.get?_push_size _ rfl) (λh0 h' tk keep=>?_) λhp v h' tk hv keep=>?_⟩
  ·exact none_ (by rw [sz] at h0;exact h0) h' tk (old_kept λb o nw e=>keep b o nw (Nat.ne_of_lt (Heap.lt_size e)) (Heap.get?_push_of_some _ e))
  ·rw [sz] at hp hv
   exact some_ hp v h' tk hv (old_kept λb o nw e=>keep b o nw (Nat.ne_of_lt (Heap.lt_size e)) (Heap.get?_push_of_some _ e))
 refine wpAny_call (codeAny_call_builtin F.plain_min F.entry_min ?_)
 simp only [checkBuiltinCall,F.kind_min]
 cases hsig:Manifest.signature? "min" with
 | none=>exact wpAny_pure core
 | some sig=>
  have ha':Bind.checkArgs "min" sig ⟨[.ref l],[("default",d)]⟩=pure ():=by
   have:=ajf (.ref l) d
   simpa only [argsOk,hsig] using this
  simp only [ha']
  exact wpAny_pure core
end
def minD (d:Int):List Int->Int
 | []=>d
 | x::r=>r.foldl min x
def akZ (K:W.Frag) (ta td:TE):TE:=λσ H Q=>aB ta aJ σ H λvs H1=>td σ H1 λy H2=>∃ (a:Addr) (ns:List Int),vs=[V.ref a]/\SqL K H2 a (ns.map V.int) /\
 (ns=[]->Q y H2)/\∀ m,m∈ns->(∀ z,z∈ns->m<=z)->Q (.int m) H2
theorem amv {X:Cx} {e d:Expr} {te td:TE} {p pos kpos:Pos} (hc:X.calm=true) (hg:Gl X "min") (hm:X.mg "min"=none) (he:PE X e te) (hd:PE X d td)
  (hst:starEach [e] X.env=[(false,eval e X.env)]:=by rfl) :
  PE X (.Call (.Name "min" p) [e] [⟨some "default",d,kpos⟩] pos) (akZ X.K te td):=by
 intro pins s σ H Q I h
 refine wpAny_Call_Name_kw (Hs I hg hm boot_min ?_)
 have hPA:PA X [e] (aB te aJ):=aj he aA (by rw [hst];rfl)
 refine callWith_kw (thn (hPA pos pins s σ H _ I h) λus s1 ⟨vs,H1,I1,r,q⟩=>?_) (by rw [hst];rfl) (by rw [hst];rfl)
 ·refine kws_cons (thn (hd pins s1 σ H1 _ I1 q) λdv s2 ⟨y,H2,I2,ry,a,ns,ex,hs,q0,q1⟩=>kws_nil ?_)
  subst ex
  obtain ⟨its,rv,hl,_⟩:=I2.list hs
  rw [Vals.apv r]
  have hi:=rv.ints
  obtain ⟨xs,e'⟩:=hi.allInts.items
  have hn:numsOf (intItems xs).toList=ns:=by rw [<-e'];exact hi.numsOf
  rw [nums_intItems] at hn
  subst hn
  have hl':=hl.isList
  rw [e'] at hl'
  refine OL (I.ok.hd hc) hl' (λh0 h' tk keep=>?_) λhp v h' tk hv keep=>?_
  ·exact ⟨y,H2,I2.kept keep,ry,q0 (by simp [Array.toList_eq_nil_iff.mpr (Array.size_eq_zero_iff.mp h0)])⟩
  ·obtain ⟨t,rfl⟩:=intItems_at hv
   obtain ⟨h1,h2⟩:=argBest_lt (numAt xs) (xs.size - 1)
   refine ⟨.int _,H2,I2.kept keep,⟨_,rfl⟩,q1 _ ?_ λz hz=>?_⟩
   ·rw [numAt_eq];exact PySem.getD_mem (by rw [List.length_map,Array.length_toList];omega)
   ·obtain ⟨j,hj,rfl⟩:=mem_getD hz
    rw [List.length_map,Array.length_toList] at hj
    rw [<-numAt_eq];exact h2 j (by omega)
end L2
namespace L2
open PySem PySem.Spec PyProof.Rows
def Po:List DictEntry->List (Int×Int)->Bool
 | [],[]=>true
 | ⟨h,.int k _,.int v _⟩::es,(i,j)::tab=>h==hashInt k&&k==i&&v==j&&Po es tab
 | _,_=>false
theorem Po.at_:∀ {es:List DictEntry} {tab:List (Int×Int)},Po es tab=true ->
  (∀ e∈es,∃ k t,e.key=Value.int k t/\e.hash=hashInt k)/\∃ vs:List (Key×Value),KV (tab.map λp=>((Sum.inl p.1:Key),V.int p.2)) vs/\(∀ (P:Program) (w:World),Pairs (eF P w) es vs)/\vs.map (·.1)=tab.map λp=>(Sum.inl p.1:Key):=by
 intro es
 induction es with
 | nil=>
  intro tab q
  cases tab with
  | nil=>exact ⟨λe he=>absurd he (by simp),[],.nil,λ_ _=>.nil,rfl⟩
  | cons=>exact Bool.noConfusion (show false=true from q)
 | cons e es ih=>
  intro tab q
  obtain ⟨h,k,v⟩:=e
  cases tab with
  | nil=>cases k<;>first | exact Bool.noConfusion (show false=true from q) | (cases v<;>exact Bool.noConfusion (show false=true from q))
  | cons ij tab=>
  cases k<;>try exact Bool.noConfusion (show false=true from q)
  cases v<;>try exact Bool.noConfusion (show false=true from q)
  rename_i k t v u
  obtain ⟨i,j⟩:=ij
  have q:(h==hashInt k&&k==i&&v==j&&Po es tab)=true:=q
  simp only [Bool.and_eq_true,beq_iff_eq] at q
  obtain ⟨⟨⟨e1,e2⟩,e3⟩,r⟩:=q
  obtain ⟨a1,vs,a2,a3,a4⟩:=ih r
  subst e1 e2 e3
  refine ⟨λe he=>?_,(Sum.inl k,Value.int v u)::vs,.cons ⟨rfl,u,rfl⟩ a2,λP w=>.cons ?_ rfl (a3 P w),by rw [List.map_cons,List.map_cons,a4]⟩
  ·rcases List.mem_cons.mp he with rfl | he
   ·exact ⟨k,t,rfl,rfl⟩
   ·exact a1 e he
  ·show Value.isInt k (Value.int k t)=true
   simp [Value.isInt]
theorem aoz {K:W.Frag} {mg:Str->Option Value} {h:Heap} {x:Str} {a:Addr} {es:Array DictEntry} {ep:Nat} {tab:List (Int×Int)} (X:K.In h) (G:h.Ns mainGlobals mg)
  (e1:PySem.W.nsIn K mainGlobals x=some (some (.ref a))) (e2:K.lookup a=some { cls:=.type "dict",dict:=none,data:=.dict es ep,slots:=#[] }) (sm:(a==sysModules)=false) (ok:Po es.toList tab=true)
  (nd:(tab.map (·.1)).Nodup):TabAt K mg x a tab:=by
 obtain ⟨a1,vs,a2,a3,a4⟩:=Po.at_ ok
 refine ⟨PySem.W.mg_of X G e1,es,ep,e2,sm,vs,a2,λP w h' g=>⟨_,es,ep,g,⟨rfl,rfl,rfl⟩,rfl,λe he=>?_,a3 P w,?_⟩⟩
 ·obtain ⟨k,t,q1,q2⟩:=a1 e (Array.mem_toList_iff.mpr he)
  exact ⟨Sum.inl k,by rw [q1];show Value.isInt k (Value.int k t)=true;simp [Value.isInt],by rw [q2];rfl⟩
 ·rw [a4]
  have:(tab.map λp=>(Sum.inl p.1:Key))=(tab.map (·.1)).map Sum.inl:=by simp
  rw [this]
  exact List.Pairwise.map _ (λa b ne z=>ne (Sum.inl.inj z)) nd
end L2
namespace L2
open PySem PySem.Spec PyProof.Rows
section
variable {prog:Program} {w:World} {K:Type} [DecidableEq K] {knd:KeyKind prog w K} {A:Around} {E:Value->Shared->Prop} {s:Shared}
theorem OE {d:Addr} {kvs:List (K×Value)} {k:K} {key dflt:Value} {Q:Value->Shared->Prop} (hkey:knd.is k key=true) (hm:s.heap.DictOf knd d kvs)
  (hthere:∀ v,valueAt kvs k=some v->Q v { s with toks:=s.toks+1 })
  (hnew:valueAt kvs k=none->∀ h',h'.DictOf knd d (stored kvs k dflt)->Heap.SameBut d s.heap h'->Q dflt { s with heap:=h',toks:=s.toks+1 })
  (hsz:kvs.length<=sizeLine):wpAny (model prog w) A (dictSetDefault d key dflt) Q E s:=by
 obtain ⟨o,es,ep,ho,hc,hd,hk,hp,hn⟩:=hm
 have hes:es.size<=sizeLine:=by have e1:=hp.length;have e2:es.toList.length=es.size:=(by simp);omega
 unfold dictSetDefault
 try with_reducible refine wpAny_holding ?_
 refine wpAny_bind (knd.pyHash hkey ?_)
 refine wpAny_bind (wpAny_dictFind_of (s:={ s with toks:=s.toks+1 }) hkey ho hd hk ?_)
 have hidx:(es.findIdx? λe=>knd.is k e.key)=kvs.findIdx? λkv=>decide (kv.1=k):=by
  rw [<-hp.findIdx k];obtain ⟨l⟩:=es;simp
 cases hi:es.findIdx? λe=>knd.is k e.key with
 | some i=>
  have hl:(es.toList.findIdx? λe=>knd.is k e.key)=some i:=by rw [<-hi];obtain ⟨l⟩:=es;simp
  obtain ⟨e,he,hek,hev⟩:=hp.at hl
  refine wpAny_bind (wpAny_dictEntries (s:={ s with toks:=s.toks+1 }) ho hd ?_)
  have he':es[i]?=some e:=by rw [<-he];obtain ⟨l⟩:=es;simp
  rw [he']
  exact wpAny_bind (wpAny_rule (wpAny_pure (hthere e.val hev)))
 | none=>
  have hnot:k∉kvs.map (·.1):=not_mem_of_findIdx_none (hidx▸hi)
  have hany:¬(kvs.any λkv=>decide (kv.1=k))=true:=by
   rw [List.any_eq_true];rintro ⟨kv,hkv,he⟩
   exact hnot (List.mem_map.mpr ⟨kv,hkv,of_decide_eq_true he⟩)
  have hva:valueAt kvs k=none:=by
   rw [<-hp.find k]
   have:(es.toList.find? λe=>knd.is k e.key)=none:=by
    rw [List.find?_eq_none]
    intro e he
    have:=Array.findIdx?_eq_none_iff.mp hi e (Array.mem_toList_iff.mp he)
    simpa using this
   rw [this];rfl
  refine wpAny_bind (wpAny_rule (wpAny_bind (wpAny_updateDictKeys (hz:=hes) (s:={ s with toks:=s.toks+1 }) ho hd (wpAny_pure (hnew hva _ ⟨_,_,ep+1,Heap.get?_update_self _ ho (Obj.isFreed_of_dict (Obj.data_mapDictKeys hd _)),
   hc.mapDictKeys _,Obj.data_mapDictKeys hd _,hk.push hkey _,?_,?_⟩ (Heap.SameBut.update ..))))))
  ·rw [stored,if_neg hany]
   have:=hp.append hkey (knd.hash k) dflt
   obtain ⟨l⟩:=es
   simpa using this
  ·rw [stored,if_neg hany,List.map_append,List.nodup_append]
   refine ⟨hn,by simp,?_⟩
   intro a ha b hb
   simp only [List.map_cons,List.map_nil,List.mem_singleton] at hb
   subst hb
   exact λe=>hnot (e▸ha)
end
section
variable {prog:Program} {w:World} {K:Type} [DecidableEq K] (knd:KeyKind prog w K) {k:K} {key:Value} (d:Addr)
theorem B4 (hkey:knd.is k key=true) (hd:(d==sysModules)=false) (dflt:Value) :
  MeetsIn prog w (Builtin.«dict.setdefault» ⟨[.ref d,key,dflt],[]⟩) (λ_ R s=>∃ kvs,s.heap.DictOf knd d kvs/\kvs.length<=sizeLine /\
   (∀ v,valueAt kvs k=some v->R (.ok (.ret v)) { s with toks:=s.toks+1 }) /\
   (valueAt kvs k=none->∀ h',h'.DictOf knd d (stored kvs k dflt)->Heap.SameBut d s.heap h'->R (.ok (.ret dflt)) { s with heap:=h',toks:=s.toks+1 })):=
 .of_wp λA R s ⟨kvs,hm,hz,h1,h2⟩=>by
  unfold Builtin.«dict.setdefault»
  refine wpAny_bind ?_
  unfold Builtin.Dict.keyAndDefault
  refine wpAny_bind (wpAny_notOrdered_dict hm.typeIs ?_)
  show wpAny _ _ (pure (d,key,some dflt)) _ _ s
  refine wpAny_pure ?_
  show wpAny _ _ (if (d==sysModules)=true then _ else (dictSetDefault d key dflt >>= _)) _ _ s
  rw [if_neg (by rw [hd];exact Bool.false_ne_true)]
  exact wpAny_bind (OE (hsz:=hz) hkey hm (λv hv=>wpAny_pure ⟨v,rfl,h1 v hv⟩) λhn h' hm' hs'=>wpAny_pure ⟨dflt,rfl,h2 hn h' hm' hs'⟩)
end
def abT (td ty tx:TE):TE:=λσ H Q=>td σ H λx H1=>∃ a,x=.ref a/\IsD H1 a/\ty σ H1 λy H2=>tx σ H2 λz H3=>∃ kvs k,H3 a=some (.dK kvs)/\y=kV k/\kvs.length < sizeLine /\
 (∀ v,iN kvs k=some v->Q v H3)/\(iN kvs k=none->Q z (upd H3 a (.dK (putK kvs k z))))
section
variable {X:Cx} {o e f:Expr} {apos cpos:Pos} {td ty tx:TE}
theorem afR (ho:PE X o td) (he:PE X e ty) (hf:PE X f tx) (m:M2 X o "setdefault" apos e f cpos):PE X (.Call (.Attribute o "setdefault" apos) [e,f] [] cpos) (abT td ty tx):=by
 intro pins s σ H Q I h
 refine wpAny_Call_method m.base m.few m.line PySem.F.plainAttrs_dict PySem.F.slot_dict_setdefault PySem.F.type_dict_setdefault (thn (ho pins s σ H _ I h) λu s1 ⟨x,H1,I1,rx,a,ex,d,q1⟩=>?_)
 subst ex
 obtain rfl:u=Value.ref a:=rx
 obtain ⟨t1,t2,_⟩:=alq I1 d
 refine ⟨t1,t2,?_⟩
 rw [m.trees]
 refine Calls.callWith_builtin rfl (Calls.evalArgs_plain (Calls.spliced_cons (thn (he pins s1 σ H1 _ I1 q1) λiv s2 ⟨y,H2,I2,ry,q2⟩=>
  Calls.spliced_cons (thn (hf pins s2 σ H2 _ I2 q2) λfv s3 ⟨z,H3,I3,rz,kvs,k,e3,ey,hlt,q3,q4⟩=>Calls.spliced_nil ?_))))
 subst ey
 obtain ⟨hz,hd,vs,rel,dd⟩:=anK I3.hok e3
 refine call_meetsIn PySem.F.slot_dict_setdefault dd.typeIs PySem.F.entry_dict_setdefault (PySem.F.args_dict_setdefault_3 _ _ _) (B4 (eF X.prog X.w) a (ad6 ry) hd fv) ⟨vs,dd,by rw [<-rel.length];exact hz,λv hv=>?_,λhn h' dd' hs=>?_⟩
 ·have q:=rel.val k
  rw [hv] at q
  cases e4:iN kvs k with
  | none=>rw [e4] at q;exact q.elim
  | some v'=>rw [e4] at q;exact ⟨v',H3,I3.tok _,q,q3 v' e4⟩
 ·have q:=rel.val k
  rw [hn] at q
  have e4:iN kvs k=none:=by
   cases e4:iN kvs k with
   | none=>rfl
   | some v'=>rw [e4] at q;exact q.elim
  have hl:(putK kvs k z).length<=sizeLine:=by have:=Gg kvs k z;omega
  have he:∃ q,h'.get? a=some q:=let ⟨q,_,_,hq,_⟩:=dd';⟨q,hq⟩
  exact ⟨z,_,abR I3 (by rw [e3];exact True.intro) hs he (akp hl hd (rel.put k rz) dd'),rz,q4 e4⟩
abbrev ah8:V->List V->Hp->VK->Prop:=λx xs H Q=>∃ i,x=.int i/\xs=[]/\Q (.int (Builtin.Int.intBits i)) H
theorem aiq:MtR X "int.bit_length" ah8:=by
 intro pins s σ H x xs v us Q I rx rxs h
 obtain ⟨i,rfl,rfl,q⟩:=h
 obtain ⟨t,rfl⟩:=(show ∃ t,v=Value.int i t from rx)
 cases rxs
 exact call_int_bit_length ⟨.int _,H,I.tok _,⟨_,rfl⟩,q⟩
theorem Vu:∀ {xs:List V} {us:List Value},xs.length=us.length->(∀ (j:Nat) u x,us[j]?=some u->xs[j]?=some x->RelV x u)->Vals xs us
 | [],[],_,_=>.nil
 | [],_::_,h,_=>by simp at h
 | _::_,[],h,_=>by simp at h
 | x::xs,u::us,h,q=>.cons (q 0 u x rfl rfl) (Vu (by simpa using h) λj u' x' h1 h2=>q (j+1) u' x' (by simpa using h1) (by simpa using h2))
def tLR (ta:TA):TE:=λσ H Q=>ta σ H λvs H1=>∃ j:Nat,vs=[.int j]/\j<=sizeLine/\∀ p,H1 p=none->Q (.ref p) (upd H1 p (.lst ((List.range j).map λi=>V.int (i:Nat))))
theorem abh {a:Expr} {ta:TA} {p pos p2 pos2:Pos} (hc:X.calm=true) (hg:Gl X "range") (hm:X.mg "range"=none) (hg2:Gl X "list") (hm2:X.mg "list"=none) (ha:PA X [a] ta) (hs:starEach [a] X.env=[(false,eval a X.env)]:=by rfl)
  (hs2:starEach [.Call (.Name "range" p) [a] [] pos] X.env=[(false,eval (.Call (.Name "range" p) [a] [] pos) X.env)]:=by rfl):PE X (.Call (.Name "list" p2) [.Call (.Name "range" p) [a] [] pos] [] pos2) (tLR ta):=by
 intro pins s σ H Q I h
 refine Call_ (Hs I hg2 hm2 PyProof.Rows.boot_list (PyProof.Rows.callWith_type1 ?_ hs2 rfl))
 rw [hs2]
 refine Calls.spliced_cons ?_
 refine Call_ (Hs I hg hm boot_range (PyProof.Rows.callWith_type1 (thn (ha pos pins s σ H _ I h) λus s1 ⟨vs,H1,I1,r1,q1⟩=>?_) hs rfl))
 obtain ⟨j,e,hz,q⟩:=q1
 subst e
 cases r1 with
 | cons r rr=>
  cases rr
  obtain ⟨t,rfl⟩:=r
  rw [sizeLine_eq] at hz
  refine call_range_1 (Calls.spliced_nil ?_)
  refine call_list_range (n:=j) (I.ok.hd hc) (IsRange.new ..) (small_one (by omega) (by omega) (by omega) (by omega)) ?_ (by omega) λh' tk acc' c' hk hS hacc=>?_
  ·rw [rangeSize_one];split<;>omega
  have I2:Inv X pins σ H1 { s1 with heap:=s1.heap.push { cls:=.type "range",data:=.fields #[.int 0 s1.toks,.int j t,.int 1 (s1.toks+1)] } }:=I1.kept (t':=s1.toks) λb o e=>Heap.get?_push_of_some _ e
  refine ⟨.ref _,_,I2.laid hk (Nat.le_refl _) (show jf X.prog X.w _ h' _ (.lst ((List.range j).map λi=>V.int (i:Nat))) from ⟨by rw [List.length_map,List.length_range,sizeLine_eq];exact hz,acc'.toList,c',?_,by simpa using hS⟩),rfl,q _ (I2.hok.fresh (Nat.le_refl _))⟩
  refine Vu ?_ λk u x hu hx=>?_
  ·rw [List.length_map,List.length_range,Array.length_toList,hacc.1]
  ·obtain ⟨t',e⟩:=hacc.2 k u (by rw [<-Array.getElem?_toList];exact hu)
   rw [List.getElem?_map] at hx
   obtain ⟨i,hi,ex⟩:=Option.map_eq_some_iff.mp hx
   obtain ⟨hk1,hk2⟩:=List.getElem?_eq_some_iff.mp hi
   rw [List.getElem_range] at hk2
   subst hk2 e ex
   exact ⟨t',by simp⟩
abbrev agT:List V->Hp->VK->Prop:=λxs H Q=>∃ a kvs,xs=[.ref a]/\Rd H a (.dK kvs)/\∀ l,H l=none->Q (.ref l) (upd H l (.lst (kvs.map λkv=>kV kv.1)))
abbrev aoS (K:W.Frag):List V->Hp->VK->Prop:=λxs H Q=>∃ p ys,xs=[.ref p]/\(SqL K H p ys\/SqT K H p ys)/\∀ l,H l=none->Q (.ref l) (upd H l (.lst ys))
theorem T7 (hc:X.calm=true):afJ X (.type "list") agT:=by
 intro pins s σ H xs us Q I r h
 obtain ⟨a,kvs,rfl,e,q⟩:=h
 obtain ⟨u,rfl,rx⟩:=vals1 r
 cases rx
 obtain ⟨hz,hd,vs,rel,dd⟩:=ah9 I.hok e
 obtain ⟨ep,hat⟩:=dd.dictAt
 have hl:kvs.length=vs.length:=rel.length
 refine PySem.W.kdl_call (PySem.W.kdl_dict (knd:=eF X.prog X.w) (kvs:=vs) (ep:=ep) hd) (I.ok.hd hc) hat (by rw [<-hl];exact hz) λh' tk acc' c' hk hS hacc=>?_
 refine ⟨.ref _,_,I.laid hk (Nat.le_refl _) (show jf X.prog X.w _ h' _ (.lst (kvs.map λkv=>kV kv.1)) from ⟨by rw [List.length_map];exact hz,acc'.toList,c',?_,by simpa using hS⟩),rfl,q _ (I.hok.fresh (Nat.le_refl _))⟩
 refine Vu ?_ λk u x hu hx=>?_
 ·have h1:=hacc.1
  simp only [List.length_map,Array.length_toList]
  omega
 ·obtain ⟨kk,x',h1,h2⟩:=hacc.2 k u (by rw [<-Array.getElem?_toList];exact hu)
  rw [List.getElem?_map] at hx
  obtain ⟨kv,hi,ex⟩:=Option.map_eq_some_iff.mp hx
  obtain ⟨b,hb,e1,_⟩:=ag2 rel hi
  rw [h1] at hb
  cases hb
  subst ex
  rw [e1]
  exact afG (show Nl kk u=true from h2)
theorem Ql:PIp X .BitOr (ipI λi j=>Builtin.bitOr i j):=by
 intro pins s σ H x y v u Q I r1 r2 h
 obtain ⟨i,j,e1,e2,q⟩:=h
 subst e1;subst e2
 obtain ⟨t,rfl⟩:=r1
 obtain ⟨t',rfl⟩:=r2
 exact ior_int ⟨.int _,H,I.tok _,⟨_,rfl⟩,q⟩
theorem anZ:PIp X .BitAnd (ipI λi j=>Builtin.bitAnd i j):=by
 intro pins s σ H x y v u Q I r1 r2 h
 obtain ⟨i,j,e1,e2,q⟩:=h
 subst e1;subst e2
 obtain ⟨t,rfl⟩:=r1
 obtain ⟨t',rfl⟩:=r2
 exact iand_int ⟨.int _,H,I.tok _,⟨_,rfl⟩,q⟩
theorem in_of {op:Operator} {r:TIp} (h:PIp X op r):apn X op r:=λpins s σ H x y u v Q I rx ry q=>h pins s σ H x y u v Q I rx ry q
def ao9 (K:W.Frag):R2:=λx y H Q=>∃ p xs i v,x=.ref p/\y=.int i/\SqL K H p xs/\0<=i/\xs[i.toNat]?=some v/\Q v H
theorem alM:ao4 X (ao9 X.K):=by
 intro pins s σ H o i ov iv Q I ro ri h
 obtain ⟨p,xs,k,v,rfl,rfl,hq,h0,hv,q⟩:=h
 cases ro
 obtain ⟨t,rfl⟩:=ri
 obtain ⟨its,r,pl,hz⟩:=I.list hq
 obtain ⟨w,ew,rw'⟩:=r.get hv
 have hn:=U0
 have hlt:k.toNat < xs.length:=(List.getElem?_eq_some_iff.mp hv).1
 exact wpAny_getItem_list pl.isList h0 (by omega) (by simpa using ew) ⟨v,H,I,rw',q⟩
def ank (X:Cx) (td:TE):TI:=λσ H R=>td σ H λx H1=>∃ d kvs,x=.ref d/\H1 d=some (.dK kvs)/\∀ od,(∀ o' u',X.H₀ d≠some (.frz o' u'))->R (Iti d od kvs) (upd H1 d (.frz od (.dK kvs)))
theorem ai3 {elts:List Expr} {kk:Nat} {tpos:Pos} (he:PE X e td) (hbase:attributeBase e "items" X.env (eval e X.env)=eval e X.env:=by rfl) (hline:(apos.endLine==cpos.line)=true:=by rfl) :
  PI X (.Tuple elts kk tpos) (.Call (.Attribute e "items" apos) [] [] cpos) (ank X td):=by
 intro pins s σ H R I h
 refine wpAny_Call_method (T:="dict") (id:="dict.items") hbase rfl hline F.plainAttrs_dict F.slot_dict_items F.type_dict_items (thn (he pins s σ H _ I h) λu s1 ⟨x,H1,I0,rx,d,kvs,ex,hd0,q⟩=>?_)
 subst ex
 obtain rfl:u=Value.ref d:=rx
 have nf:=I0.apo hd0 True.intro
 obtain ⟨od,I1⟩:=I0.lock hd0 True.intro
 have q:=q od nf
 obtain ⟨hs,hgd,hx,es,ep,vs,hdt,hsz,kv,hm⟩:=I1.alx ay
 have hl:kvs.length=vs.length:=Paired.length kv
 refine ⟨hm.dictOf.typeIs,hm.dictOf.mapOf.noDict,?_⟩
 have I2:Inv X pins σ (upd H1 d (.frz od (.dK kvs))) { s1 with heap:=s1.heap.push { cls:=.type "dict_items",data:=.fields #[.ref d] } }:=I1.kept (t':=s1.toks) λb ob q=>Heap.get?_push_of_some _ q
 have fin:wpAny (model X.prog X.w) X.A (pyIter (.ref s1.heap.objs.size)) (PIE X pins σ (.Tuple elts kk tpos) R) X.xe { s1 with heap:=s1.heap.push { cls:=.type "dict_items",data:=.fields #[.ref d] } }:=by
  refine wpAny_pyIter_items (d:=d) (knd:=eF X.prog X.w) ⟨_,Heap.get?_push_size _ rfl,rfl,rfl⟩ (hm.push _) (ahn (tk:=s1.toks) I2 _ (agV _ hdt) ⟨.none,.none,?_⟩ q)
  rw [hl]
  exact Heap.get?_push_size _ rfl
 show wpAny _ _ (callWith cpos (.builtin "dict.items") [.ref d] [] []) _ X.xe s1
 exact method_meetsIn F.slot_dict_items F.entry_dict_items rfl (PySem.evalArgs_none ⟨rfl,hm.dictOf.typeIs,F.args_dict_items_1 _,_,meets_dict_items (eF X.prog X.w) d hs,⟨vs,hm.dictOf⟩,fin⟩)
abbrev aj2 (NF:Addr->Prop) (D:Ends):Ends:=⟨λσ' H'=>∃ d od u,H' d=some (.frz od u)/\NF d/\D.nx σ' (upd H' d u),λv H'=>∃ d od u,H' d=some (.frz od u)/\NF d/\D.rt v (upd H' d u),
 λσ' H'=>∃ d od u,H' d=some (.frz od u)/\NF d/\D.bk σ' (upd H' d u),λσ' H'=>∃ d od u,H' d=some (.frz od u)/\NF d/\D.ct σ' (upd H' d u)⟩
def apb (NF:Addr->Prop) (td:TE):TI:=λσ H R=>td σ H λx H1=>∃ d kvs,x=.ref d/\H1 d=some (.dK kvs)/\∀ od,NF d->R (Iti d od kvs) (upd H1 d (.frz od (.dK kvs)))
def anD (td:TE) (g:TG) (tb:TS):TS:=λD σ H=>∀ NF:Addr->Prop,uA (apb NF td) g tb (aj2 NF D) σ H
theorem amG {elts:List Expr} {kk:Nat} {tpos pos:Pos} {body:List Stmt} {g:TG} {tb:TS} (hp:PassesOwn (model X.prog X.w) X.A X.env X.xe) (hc:X.calm=true) (he:PE X e td) (hg:PG X (.Tuple elts kk tpos) g) (hb:PSs X body tb)
  (hbase:attributeBase e "items" X.env (eval e X.env)=eval e X.env:=by rfl) (hline:(apos.endLine==cpos.line)=true:=by rfl)
  (hs:∀ x,foldedSetIterable (.Call (.Attribute e "items" apos) [] [] cpos) X.env x=pure x:=by intro _;rfl):PS X (.For (.Tuple elts kk tpos) (.Call (.Attribute e "items" apos) [] [] cpos) body [] pos) (anD td g tb):=by
 intro pins s σ H D I h
 refine thn (gU hp hc (ai3 he hbase hline) hg hb hs pins s σ H (aj2 (λd=>∀ o' u',X.H₀ d≠some (.frz o' u')) D) I (h _)) λf s1 q=>?_
 cases f with
 | next=>obtain ⟨σ',H',I2,d,od,u,e,nf,q⟩:=q;exact ⟨σ',_,I2.unlock e nf,q⟩
 | brk=>obtain ⟨σ',H',I2,d,od,u,e,nf,q⟩:=q;exact ⟨σ',_,I2.unlock e nf,q⟩
 | cont=>obtain ⟨σ',H',I2,d,od,u,e,nf,q⟩:=q;exact ⟨σ',_,I2.unlock e nf,q⟩
 | ret v=>obtain ⟨x,σ',H',I2,r,d,od,u,e,nf,q⟩:=q;exact ⟨x,σ',_,I2.unlock e nf,r,q⟩
end
end L2
namespace SC
set_option genInjectivity false
set_option genSizeOfSpec false
open PySem L2
def top (i:Nat):Stmt:=PySem.Challenge.pw_statecharts_s01_answers.main.body.getD i (.Pass ⟨0,0,0,0⟩)
abbrev iP:Stmt:=top 19
abbrev oj:Stmt:=top 20
abbrev lI:Stmt:=top 21
abbrev fX:Stmt:=inClass (top 22) 0
abbrev cE:Stmt:=inClass (top 22) 1
abbrev jB:Stmt:=inClass (top 23) 0
abbrev fZ:Stmt:=inClass (top 24) 0
abbrev ff:Stmt:=inClass (top 24) 1
abbrev fj:Stmt:=inClass (top 24) 2
abbrev dY:Stmt:=inClass (top 24) 3
abbrev ir:Stmt:=inClass (top 24) 4
abbrev fc:Stmt:=inClass (top 24) 5
abbrev iF:Stmt:=inClass (top 24) 6
abbrev jN:Stmt:=inClass (top 24) 7
abbrev cQ:Stmt:=inClass (top 24) 8
abbrev dG:Stmt:=inClass (top 24) 9
abbrev fz:Stmt:=inClass (top 24) 10
abbrev cT:Stmt:=inClass (top 24) 11
abbrev cR:Stmt:=inClass (top 24) 12
abbrev cN:Stmt:=inClass (top 24) 13
abbrev cY:Stmt:=inClass (top 24) 14
abbrev cX:Stmt:=inClass (top 24) 15
abbrev cC:Stmt:=inClass (top 24) 16
abbrev BH:Stmt:=top 26
abbrev ju:Stmt:=top 27
abbrev pC:Stmt:=top 28
abbrev d7:Stmt:=top 30
abbrev eW:Stmt:=top 31
abbrev iJ:Stmt:=top 32
abbrev pV:Stmt:=top 33
abbrev fh:Stmt:=top 34
abbrev gX:Stmt:=inClass (top 35) 0
abbrev dX:Stmt:=inClass (top 35) 1
abbrev fq:Stmt:=inClass (top 35) 2
abbrev eB:Stmt:=inClass (top 35) 3
abbrev cZ:Stmt:=inClass (top 35) 4
abbrev iu:Stmt:=top 45
abbrev ud:Stmt:=top 46
abbrev gY:Stmt:=inClass (top 47) 0
abbrev jH:Stmt:=inClass (top 48) 0
abbrev iM:Stmt:=inClass (top 48) 1
abbrev jI:Stmt:=inClass (top 48) 2
abbrev iE:Stmt:=inClass (top 48) 3
abbrev fY:Stmt:=inClass (top 48) 4
abbrev jx:Stmt:=inClass (top 48) 5
abbrev fW:Stmt:=inClass (top 48) 6
abbrev iw:Stmt:=inClass (top 48) 7
abbrev iH:Stmt:=inClass (top 48) 8
abbrev dW:Stmt:=inClass (top 48) 9
abbrev jq:Stmt:=inClass (top 48) 10
abbrev fV:Stmt:=inClass (top 48) 11
abbrev jD:Stmt:=inClass (top 48) 12
abbrev eE:Stmt:=inClass (top 48) 13
abbrev ig:Stmt:=inClass (top 48) 14
abbrev fC:Stmt:=inClass (top 48) 15
abbrev jo:Stmt:=inClass (top 48) 16
abbrev lD:Stmt:=inClass (top 48) 17
abbrev oN:Stmt:=inClass (top 48) 18
abbrev CK:Stmt:=top 63
abbrev uh:Stmt:=top 64
abbrev LZ:Stmt:=top 65
abbrev qd:Stmt:=top 66
abbrev lz:Stmt:=top 67
structure Adr where
 bA:Addr
 eV:Addr
 aE:Addr
 bz:Addr
 fN:Addr
 aV:Addr
 eN:Addr
 nP:FuncData
 lT:Addr
 Mn:FuncData
 je:Addr
 Bd:FuncData
 dZ:Addr
 pZ:FuncData
 bf:Addr
 bP:FuncData
 iW:Addr
 By:FuncData
 fk:Addr
 t7:FuncData
 di:Addr
 lV:FuncData
 dS:Addr
 rF:FuncData
 c9:Addr
 n8:FuncData
 gk:Addr
 yl:FuncData
 dR:Addr
 qZ:FuncData
 gf:Addr
 zd:FuncData
 iR:Addr
 BX:FuncData
 bH:Addr
 eu:FuncData
 cF:Addr
 jQ:FuncData
 cM:Addr
 iS:FuncData
 bZ:Addr
 iA:FuncData
 cA:Addr
 j8:FuncData
 cy:Addr
 kh:FuncData
 cI:Addr
 lu:FuncData
 cH:Addr
 lg:FuncData
 cg:Addr
 jy:FuncData
 gC:Addr
 kr:FuncData
 iX:Addr
 Cg:FuncData
 jc:Addr
 vJ:FuncData
 c7:Addr
 qf:FuncData
 dO:Addr
 rO:FuncData
 fE:Addr
 rW:FuncData
 l8:Addr
 LU:FuncData
 dQ:Addr
 rK:FuncData
 gm:Addr
 yS:FuncData
 dg:Addr
 ou:FuncData
 dh:Addr
 mz:FuncData
 dj:Addr
 nZ:FuncData
 cJ:Addr
 k9:FuncData
 gc:Addr
 ya:FuncData
 rj:Addr
 RU:FuncData
 gy:Addr
 yg:FuncData
 iU:Addr
 Cz:FuncData
 gq:Addr
 yJ:FuncData
 iZ:Addr
 BJ:FuncData
 gi:Addr
 xV:FuncData
 eY:Addr
 ue:FuncData
 iV:Addr
 Cn:FuncData
 d9:Addr
 pH:FuncData
 fG:Addr
 sf:FuncData
 gh:Addr
 xY:FuncData
 c8:Addr
 nT:FuncData
 iQ:Addr
 CZ:FuncData
 fu:Addr
 ua:FuncData
 gI:Addr
 wm:FuncData
 dD:Addr
 oQ:FuncData
 gx:Addr
 yZ:FuncData
 dU:Addr
 rq:FuncData
 gM:Addr
 wN:FuncData
 jV:Addr
 Ib:FuncData
 jT:Addr
 Be:FuncData
 Ak:Addr
 YU:FuncData
 rG:Addr
 RO:FuncData
 JD:Addr
 ahJ:FuncData
 mh:Addr
 Mz:FuncData
 jh:Addr
 uC:FuncData
 Bc:Addr
def Ci:List (Int×Int):=[(0,0),(1,2),(2,2),(3,3),(4,4),(5,4),(6,5),(7,0),(8,1),(9,1),(10,1),(11,1)]
structure Txt (K:W.Frag) (mg:Str->Option Value) (t:Adr):Prop where
 i9:Cls K t.bA
 Tp:mg "State"=some (.ref t.bA)
 p9:Mk K t.bA t.dZ
 tw:bN K t.bA "parent"
 zI:bN K t.bA "kind"
 nD:bN K t.bA "told_part"
 kK:bN K t.bA "coming_acts"
 j6:bN K t.bA "leaving_acts"
 akn:Cls K t.eV
 akM:mg "Way"=some (.ref t.eV)
 Hj:Mk K t.eV t.iW
 IT:bN K t.eV "source"
 LI:bN K t.eV "event"
 IZ:bN K t.eV "target"
 S8:bN K t.eV "ask"
 M3:bN K t.eV "which"
 PR:bN K t.eV "much"
 O6:bN K t.eV "acts"
 bX:Cls K t.aE
 ae3:mg "Chart"=some (.ref t.aE)
 p8:Mk K t.aE t.fk
 DQ:bN K t.aE "states"
 Jm:bN K t.aE "ways"
 M5:bN K t.aE "run"
 Cd:Cls K t.bz
 air:mg "Plan"=some (.ref t.bz)
 yG:Mk K t.bz t.gm
 Fo:bN K t.bz "states"
 Ny:bN K t.bz "ways"
 Fi:bN K t.bz "around"
 IV:bN K t.bz "inner"
 tR:bN K t.bz "inner_parts"
 F1:bN K t.bz "firsts"
 MN:bN K t.bz "ends"
 JM:bN K t.bz "plain"
 yD:bN K t.bz "histories"
 tQ:bN K t.bz "first_leads"
 Eb:bN K t.bz "offers"
 ah1:Cls K t.fN
 abc:mg "Move"=some (.ref t.fN)
 Br:Mk K t.fN t.gy
 LX:bN K t.fN "path"
 JJ:bN K t.fN "stays"
 Fg:bN K t.fN "leaves"
 eT:Cls K t.aV
 alr:mg "Run"=some (.ref t.aV)
 B5:Mk K t.aV t.iU
 QM:bN K t.aV "plan"
 Ed:bN K t.aV "numbers"
 LC:bN K t.aV "leads"
 IY:bN K t.aV "active"
 Pk:bN K t.aV "over"
 JF:bN K t.aV "raised"
 Mi:bN K t.aV "heard"
 LR:bN K t.aV "trail"
 rT:Fun K "is_number" "is_number" iP t.eN t.nP
 nL:Binds K t.nP ["which"] []
 uv:mg "is_number"=some (.ref t.eN)
 yM:W.keepIn K (.ref t.eN)=true
 D9:Fun K "is_act" "is_act" oj t.lT t.Mn
 Ml:Binds K t.Mn ["kind","which"] []
 Xr:mg "is_act"=some (.ref t.lT)
 afI:W.keepIn K (.ref t.lT)=true
 AR:Fun K "add_act" "add_act" lI t.je t.Bd
 AS:Binds K t.Bd ["acts","kind","which","much"] []
 Kq:mg "add_act"=some (.ref t.je)
 OI:W.keepIn K (.ref t.je)=true
 jK:Fun K "__init__" "State.__init__" fX t.dZ t.pZ
 oK:Binds K t.pZ ["self","parent","kind"] []
 gD:Fun K "is_history" "State.is_history" cE t.bf t.bP
 bR:Binds K t.bP ["self"] []
 cD:Meth K t.bA "is_history" t.bf
 mR:Fun K "__init__" "Way.__init__" jB t.iW t.By
 CW:Binds K t.By ["self","source","event","target"] []
 ie:Fun K "__init__" "Chart.__init__" fZ t.fk t.t7
 uc:Binds K t.t7 ["self"] []
 mq:Fun K "begin" "Chart.begin" ff t.di t.lV
 mj:Binds K t.lV ["self"] []
 Al:Meth K t.aE "begin" t.di
 lS:Fun K "state" "Chart.state" fj t.dS t.rF
 rm:Binds K t.rF ["self","parent","kind"] []
 Jg:Meth K t.aE "state" t.dS
 kF:Fun K "begins" "Chart.begins" dY t.c9 t.n8
 pA:Binds K t.n8 ["self","state","part"] []
 Fj:Meth K t.aE "begins" t.c9
 rZ:Fun K "way" "Chart.way" ir t.gk t.yl
 xW:Binds K t.yl ["self","source","event","target"] []
 PX:Meth K t.aE "way" t.gk
 lX:Fun K "guard" "Chart.guard" fc t.dR t.qZ
 rE:Binds K t.qZ ["self","way","ask","which","much"] []
 Js:Meth K t.aE "guard" t.dR
 r6:Fun K "act" "Chart.act" iF t.gf t.zd
 xT:Binds K t.zd ["self","way","kind","which","much"] []
 QN:Meth K t.aE "act" t.gf
 wG:Fun K "on" "Chart.on" jN t.iR t.BX
 CA:Binds K t.BX ["self","state","leaving","kind","which","much"] []
 Tt:Meth K t.aE "on" t.iR
 gZ:Fun K "has_state" "Chart.has_state" cQ t.bH t.eu
 c6:Binds K t.eu ["self","state"] []
 fK:Meth K t.aE "has_state" t.bH
 jR:Fun K "has_way" "Chart.has_way" dG t.cF t.jQ
 jU:Binds K t.jQ ["self","way"] []
 sZ:Meth K t.aE "has_way" t.cF
 l5:Fun K "parts" "Chart.parts" fz t.cM t.iS
 gj:Binds K t.iS ["self","state"] []
 jZ:Meth K t.aE "parts" t.cM
 iG:Fun K "beginning" "Chart.beginning" cT t.bZ t.iA
 iL:Binds K t.iA ["self","state"] []
 oB:Meth K t.aE "beginning" t.bZ
 iO:Fun K "is_within" "Chart.is_within" cR t.cA t.j8
 j9:Binds K t.j8 ["self","state","outer"] []
 yb:Meth K t.aE "is_within" t.cA
 iy:Fun K "may_start" "Chart.may_start" cN t.cy t.kh
 kj:Binds K t.kh ["self"] []
 yr:Meth K t.aE "may_start" t.cy
 ja:Fun K "may_hold" "Chart.may_hold" cY t.cI t.lu
 lE:Binds K t.lu ["self","parent","kind"] []
 Ba:Meth K t.aE "may_hold" t.cI
 jb:Fun K "may_lead" "Chart.may_lead" cX t.cH t.lg
 kZ:Binds K t.lg ["self","source","event","target"] []
 Bl:Meth K t.aE "may_lead" t.cH
 gF:Fun K "may_recall" "Chart.may_recall" cC t.cg t.jy
 jt:Binds K t.jy ["self","parent","target"] []
 vc:Meth K t.aE "may_recall" t.cg
 TX:Fun K "mark" "mark" BH t.gC t.kr
 gR:Binds K t.kr ["state"] []
 fJ:mg "mark"=some (.ref t.gC)
 jl:W.keepIn K (.ref t.gC)=true
 uX:Fun K "marks_of" "marks_of" ju t.iX t.Cg
 qv:Binds K t.Cg ["states"] []
 zk:mg "marks_of"=some (.ref t.iX)
 Bt:W.keepIn K (.ref t.iX)=true
 EE:Fun K "marked" "marked" pC t.jc t.vJ
 v8:Binds K t.vJ ["found"] []
 Bk:mg "marked"=some (.ref t.jc)
 DZ:W.keepIn K (.ref t.jc)=true
 kI:Fun K "around_marks" "around_marks" d7 t.c7 t.qf
 pJ:Binds K t.qf ["states"] []
 DI:mg "around_marks"=some (.ref t.c7)
 HE:W.keepIn K (.ref t.c7)=true
 lR:Fun K "inner_marks" "inner_marks" eW t.dO t.rO
 rL:Binds K t.rO ["states"] []
 Fx:mg "inner_marks"=some (.ref t.dO)
 JE:W.keepIn K (.ref t.dO)=true
 sD:Fun K "ways_from" "ways_from" iJ t.fE t.rW
 rQ:Binds K t.rW ["chart"] []
 BI:mg "ways_from"=some (.ref t.fE)
 E6:W.keepIn K (.ref t.fE)=true
 HD:Fun K "offers" "offers" pV t.l8 t.LU
 NV:Binds K t.LU ["chart","plain"] []
 Xj:mg "offers"=some (.ref t.l8)
 aeZ:W.keepIn K (.ref t.l8)=true
 l9:Fun K "first_leads" "first_leads" fh t.dQ t.rK
 rJ:Binds K t.rK ["chart"] []
 Ga:mg "first_leads"=some (.ref t.dQ)
 Jb:W.keepIn K (.ref t.dQ)=true
 kX:Fun K "__init__" "Plan.__init__" gX t.gm t.yS
 yj:Binds K t.yS ["self","chart"] []
 kJ:Fun K "nearest" "Plan.nearest" dX t.dg t.ou
 oV:Binds K t.ou ["self","source","leads"] []
 FG:Meth K t.bz "nearest" t.dg
 mw:Fun K "filled" "Plan.filled" fq t.dh t.mz
 mE:Binds K t.mz ["self","come_to"] []
 zC:Meth K t.bz "filled" t.dh
 kR:Fun K "brought" "Plan.brought" eB t.dj t.nZ
 oA:Binds K t.nZ ["self","state","come_to"] []
 Et:Meth K t.bz "brought" t.dj
 jd:Fun K "has_ended" "Plan.has_ended" cZ t.cJ t.k9
 lC:Binds K t.k9 ["self","state","active"] []
 AO:Meth K t.bz "has_ended" t.cJ
 rY:Fun K "with_sign" "with_sign" iu t.gc t.ya
 yd:Binds K t.ya ["number"] []
 Mu:mg "with_sign"=some (.ref t.gc)
 PN:W.keepIn K (.ref t.gc)=true
 MU:Fun K "is_so" "is_so" ud t.rj t.RU
 RL:Binds K t.RU ["ask","number","much"] []
 agc:mg "is_so"=some (.ref t.rj)
 aii:W.keepIn K (.ref t.rj)=true
 rV:Fun K "__init__" "Move.__init__" gY t.gy t.yg
 r8:Binds K t.yg ["self","path","stays","leaves"] []
 kQ:Fun K "__init__" "Run.__init__" jH t.iU t.Cz
 Cr:Binds K t.Cz ["self","chart"] []
 rX:Fun K "start" "Run.start" iM t.gq t.yJ
 yV:Binds K t.yJ ["self"] []
 PF:Meth K t.aV "start" t.gq
 vH:Fun K "send" "Run.send" jI t.iZ t.BJ
 Dc:Binds K t.BJ ["self","event"] []
 Vg:Meth K t.aV "send" t.iZ
 sd:Fun K "is_in" "Run.is_in" iE t.gi t.xV
 yF:Binds K t.xV ["self","state"] []
 QG:Meth K t.aV "is_in" t.gi
 pL:Fun K "number" "Run.number" fY t.eY t.ue
 tX:Binds K t.ue ["self","which"] []
 MS:Meth K t.aV "number" t.eY
 wJ:Fun K "take" "Run.take" jx t.iV t.Cn
 CJ:Binds K t.Cn ["self","most"] []
 Vj:Meth K t.aV "take" t.iV
 pW:Fun K "settle" "Run.settle" fW t.d9 t.pH
 pB:Binds K t.pH ["self"] []
 Bo:Meth K t.aV "settle" t.d9
 r9:Fun K "moves" "Run.moves" iw t.fG t.sf
 nN:Binds K t.sf ["self","event"] []
 xS:Meth K t.aV "moves" t.fG
 se:Fun K "taken" "Run.taken" iH t.gh t.xY
 zg:Binds K t.xY ["self","event"] []
 QD:Meth K t.aV "taken" t.gh
 kT:Fun K "first_so" "Run.first_so" dW t.c8 t.nT
 oW:Binds K t.nT ["self","numbers"] []
 Gh:Meth K t.aV "first_so" t.c8
 xx:Fun K "move" "Run.move" jq t.iQ t.CZ
 Bx:Binds K t.CZ ["self","way"] []
 SH:Meth K t.aV "move" t.iQ
 nW:Fun K "agreed" "Run.agreed" fV t.fu t.ua
 uB:Binds K t.ua ["self","kept","more"] []
 Nn:Meth K t.aV "agreed" t.fu
 xu:Fun K "step" "Run.step" jD t.gI t.wm
 uJ:Binds K t.wm ["self","moves"] []
 Lo:Meth K t.aV "step" t.gI
 kB:Fun K "remember" "Run.remember" eE t.dD t.oQ
 nV:Binds K t.oQ ["self","left"] []
 E4:Meth K t.aV "remember" t.dD
 sj:Fun K "leave" "Run.leave" ig t.gx t.yZ
 yC:Binds K t.yZ ["self","left"] []
 QH:Meth K t.aV "leave" t.gx
 mC:Fun K "come_to" "Run.come_to" fC t.dU t.rq
 rC:Binds K t.rq ["self","moves"] []
 Ja:Meth K t.aV "come_to" t.dU
 uK:Fun K "come" "Run.come" jo t.gM t.wN
 u7:Binds K t.wN ["self","states"] []
 Lk:Meth K t.aV "come" t.gM
 A2:Fun K "end" "Run.end" lD t.jV t.Ib
 HX:Binds K t.Ib ["self","parent"] []
 XC:Meth K t.aV "end" t.jV
 FW:Fun K "do" "Run.do" oN t.jT t.Be
 AU:Binds K t.Be ["self","acts"] []
 MQ:Meth K t.aV "do" t.jT
 T8:Fun K "tell" "tell" CK t.Ak t.YU
 abE:Binds K t.YU ["chart","call","given"] []
 ah4:mg "tell"=some (.ref t.Ak)
 aj6:W.keepIn K (.ref t.Ak)=true
 MR:Fun K "start" "start" uh t.rG t.RO
 RQ:Binds K t.RO ["chart"] []
 ad9:mg "start"=some (.ref t.rG)
 ahH:W.keepIn K (.ref t.rG)=true
 ad5:Fun K "ask" "ask" LZ t.JD t.ahJ
 ahS:Binds K t.ahJ ["run","call","given"] []
 alC:mg "ask"=some (.ref t.JD)
 anJ:W.keepIn K (.ref t.JD)=true
 D0:Fun K "answer" "answer" qd t.mh t.Mz
 Nc:Binds K t.Mz ["chart","call","given"] []
 WS:mg "answer"=some (.ref t.mh)
 ad1:W.keepIn K (.ref t.mh)=true
 AW:Fun K "answers" "answers" lz t.jh t.uC
 Oi:Binds K t.uC ["calls"] []
 ahq:mg "answers"=some (.ref t.jh)
 aiQ:W.keepIn K (.ref t.jh)=true
 fB:∃ u,mg "NONE"=some u/\RelV (.int (-1)) u
 iz:∃ u,mg "ORDINARY"=some u/\RelV (.int (0)) u
 dF:∃ u,mg "SIDE_BY_SIDE"=some u/\RelV (.int (1)) u
 AI:∃ u,mg "END"=some u/\RelV (.int (2)) u
 mS:∃ u,mg "SHALLOW"=some u/\RelV (.int (3)) u
 yq:∃ u,mg "DEEP"=some u/\RelV (.int (4)) u
 qN:∃ u,mg "RAISED"=some u/\RelV (.int (0)) u
 Kf:∃ u,mg "SET"=some u/\RelV (.int (1)) u
 A7:∃ u,mg "ADDED"=some u/\RelV (.int (2)) u
 fF:∃ u,mg "WRONG"=some u/\RelV (.int (-1)) u
 ug:∃ u,mg "FULL"=some u/\RelV (.int (-2)) u
 ji:∃ u,mg "MOST_STATES"=some u/\RelV (.int (64)) u
 lA:∃ u,mg "MOST_WAYS"=some u/\RelV (.int (256)) u
 lG:∃ u,mg "MOST_ACTS"=some u/\RelV (.int (16)) u
 gH:∃ u,mg "LAST_RAISED"=some u/\RelV (.int (255)) u
 jY:∃ u,mg "LAST_EVENT"=some u/\RelV (.int (319)) u
 nK:∃ u,mg "LAST_ASK"=some u/\RelV (.int (3)) u
 gK:∃ u,mg "LAST_NUMBER"=some u/\RelV (.int (15)) u
 Ir:∃ u,mg "OVER"=some u/\RelV (.int (-5)) u
 qT:∃ u,mg "BY_NONE"=some u/\RelV (.int (0)) u
 Bm:∃ u,mg "DONE"=some u/\RelV (.int (256)) u
 Il:∃ u,mg "LEFT"=some u/\RelV (.int (256)) u
 j4:∃ u,mg "MOST_STEPS"=some u/\RelV (.int (1000)) u
 fO:∃ u,mg "MOST_WAITING"=some u/\RelV (.int (65536)) u
 C3:∃ u,mg "SIGN"=some u/\RelV (.int (2147483648)) u
 Ia:∃ u,mg "WRAP"=some u/\RelV (.int (4294967296)) u
 A3:∃ u,mg "BEGIN"=some u/\RelV (.int (0)) u
 A6:∃ u,mg "STATE"=some u/\RelV (.int (1)) u
 uH:∃ u,mg "BEGINS"=some u/\RelV (.int (2)) u
 N6:∃ u,mg "WAY"=some u/\RelV (.int (3)) u
 AK:∃ u,mg "GUARD"=some u/\RelV (.int (4)) u
 OR:∃ u,mg "ACT"=some u/\RelV (.int (5)) u
 vR:∃ u,mg "START"=some u/\RelV (.int (7)) u
 Ij:∃ u,mg "SEND"=some u/\RelV (.int (8)) u
 WI:∃ u,mg "IN"=some u/\RelV (.int (9)) u
 uG:∃ u,mg "NUMBER"=some u/\RelV (.int (10)) u
 qm:∃ u,mg "RUNNING"=some u/\RelV (.int (-3)) u
 Ic:∃ u,mg "IDLE"=some u/\RelV (.int (-4)) u
 Xl:TabAt K mg "HANDED" t.Bc Ci
 iK:mg "enumerate"=none
 iT:mg "len"=none
 yN:mg "list"=none
 O1:mg "min"=none
 rS:mg "range"=none
 nQ:mg "reversed"=none
structure Sps where
 gz:Sp
 KR:Sp
 rD:Sp
 i6:Sp
 aL:Sp
 wK:Sp
 m8:Sp
 gw:Sp
 kE:Sp
 jr:Sp
 qP:Sp
 kW:Sp
 qH:Sp
 vF:Sp
 bx:Sp
 dP:Sp
 cB:Sp
 cU:Sp
 fQ:Sp
 fP:Sp
 gB:Sp
 gJ:Sp
 eU:Sp
 mark:Sp
 oX:Sp
 marked:Sp
 jE:Sp
 kO:Sp
 j3:Sp
 Gf:Sp
 jm:Sp
 qK:Sp
 jA:Sp
 gg:Sp
 jF:Sp
 gE:Sp
 qp:Sp
 Vr:Sp
 nJ:Sp
 wc:Sp
 qD:Sp
 vv:Sp
 qM:Sp
 mT:Sp
 vL:Sp
 iY:Sp
 jk:Sp
 qE:Sp
 jO:Sp
 wg:Sp
 ng:Sp
 l6:Sp
 jJ:Sp
 qx:Sp
 kq:Sp
 lW:Sp
 BS:Sp
 qS:Sp
 tell:Sp
 start:Sp
 ask:Sp
 answer:Sp
 answers:Sp
variable {P:Program} {w:World} {K:W.Frag} {mg:Str->Option Value} {base:Heap} {t:Adr}
local macro_rules
 | `(tactic| trivial)=>`(tactic| exact ⟨rfl,rfl,rfl,by decide +kernel,rfl,by decide +kernel,by decide +kernel⟩)
def GY (K:W.Frag) (t:Adr) (S:Sps):TS:=
 (bG (oS (rI0 λi j=>.bl (decide (i<=j))) (rI0 λi j=>.bl (decide (i<=j))) (tC (.int 0)) (aa 0) (tC (.int (15)))))
theorem MH:aW ["which"] ["which"] (ah iP):=by trivial
theorem Zx {S:Sps} (T:Txt K mg t) (len:∀ vs H Q E,S.gz vs H Q E->vs.length=1)
  (rd:∀ vs H Q E,S.gz vs H Q E->GY K t S { nx:=λ_ H'=>Q .non H',rt:=Q } (start ["which"] vs) H) :
  aQ P w K mg base CX0 1 t.eN t.nP ["which"] S.gz:=by
 refine T.rT.ok MH len (λcdv A outer s H vs Q E hr h=>⟨_,?_,rd vs H Q E h⟩)
 have nd:=MH.nd
 have hu:=bS hr
 exact (au (aM (FA pP pP aF (pv 0) (aR rfl T.gK))))
def UL (K:W.Frag) (t:Adr) (S:Sps):TS:=
 (aK (cP (bw (tOp rEq (aa 0) (tC (.int (0))))) (bG (oS (rI0 λi j=>.bl (decide (i<=j))) (rI0 λi j=>.bl (decide (i<=j))) (tC (.int 1)) (aa 1) (tC (.int (255))))) bL)
  (bG (akJ (oS (rI0 λi j=>.bl (decide (i<=j))) (rI0 λi j=>.bl (decide (i<=j))) (tC (.int (1))) (aa 0) (tC (.int (2)))) (cW S.gz [] E0 (aB (aa 1) aJ)))))
theorem W3:aW ["kind","which"] ["kind","which"] (ah oj):=by trivial
theorem ajD {S:Sps} (T:Txt K mg t) (ic:aQ P w K mg base CX0 1 t.eN t.nP ["which"] S.gz) (len:∀ vs H Q E,S.KR vs H Q E->vs.length=2)
  (rd:∀ vs H Q E,S.KR vs H Q E->UL K t S { nx:=λ_ H'=>Q .non H',rt:=Q } (start ["kind","which"] vs) H) :
  aQ P w K mg base CX0 2 t.lT t.Mn ["kind","which"] S.KR:=by
 refine T.D9.ok W3 len (λcdv A outer s H vs Q E hr h=>⟨_,?_,rd vs H Q E h⟩)
 have nd:=W3.nd
 have hu:=bS hr
 exact (ai (bK (aU cG (pv 0) (aR rfl T.qN) (aZ _)) (au (aM (FA pP pP aF (pv 1) (aR rfl T.gH)))) aY)
  (au (aM (aoX (FA pP pP (aR rfl T.Kf) (pv 0) (aR rfl T.A7)) (ahi (bC (ic.mono (k:=1) (by decide)) hr rfl T.uv T.yM T.nL .nil aS (aj (pv 1) aA)))))))
def Ou (K:W.Frag) (t:Adr) (S:Sps):TS:=
 (aK (cP (pK (tB (cW S.KR [] E0 (aB (aa 1) (aB (aa 2) aJ))))) (bG (tC (.int (-1)))) bL)
  (aK (cP (bw (tOp rEq (tCB (FP K) (aB (aa 0) aJ)) (tC (.int (16))))) (bG (tC (.int (-2)))) bL)
  (aK (fT (tBM K "list" eX (aa 0) (aB (aop (aB (aa 1) (aB (aa 2) (aB (aa 3) aJ)))) aJ)))
  (bG (tC (.int 0))))))
theorem T4:aW ["acts","kind","which","much"] ["acts","kind","which","much"] (ah lI):=by trivial
theorem agt {S:Sps} (T:Txt K mg t) (Sh:aQ P w K mg base CX0 2 t.lT t.Mn ["kind","which"] S.KR) (len:∀ vs H Q E,S.rD vs H Q E->vs.length=4)
  (rd:∀ vs H Q E,S.rD vs H Q E->Ou K t S { nx:=λ_ H'=>Q .non H',rt:=Q } (start ["acts","kind","which","much"] vs) H) :
  aQ P w K mg base CX0 3 t.je t.Bd ["acts","kind","which","much"] S.rD:=by
 refine T.AR.ok T4 len (λcdv A outer s H vs Q E hr h=>⟨_,?_,rd vs H Q E h⟩)
 have nd:=T4.nd
 have hu:=bS hr
 exact (ai (bK (fH (fS (bC (Sh.mono (k:=2) (by decide)) hr rfl T.Xr T.afI T.Ml .nil aS (aj (pv 1) (aj (pv 2) aA))))) (au (aM (aR rfl T.fF))) aY)
  (ai (bK (aU cG (fU ck rfl T.iT PySem.boot_len (aj (pv 0) aA)) (aR rfl T.lG) (aZ _)) (au (aM (aR rfl T.ug))) aY)
  (ai (cO (qh PySem.F.plainAttrs_list PySem.F.slot_list_append PySem.F.type_list_append dH (pv 0) (aj (aoB (aj (pv 1) (aj (pv 2) (aj (pv 3) aA)))) aA)))
  (au (aM aF)))))
def Dd (K:W.Frag) (t:Adr) (S:Sps):TS:=
 (aK (fm K (aa 0) (aa 1) "parent")
  (aK (fm K (aa 0) (aa 2) "kind")
  (aK (fm K (aa 0) (tC (.int (-1))) "told_part")
  (aK (fm K (aa 0) (kC aJ) "coming_acts")
  (fm K (aa 0) (kC aJ) "leaving_acts")))))
theorem JC:aW ["self","parent","kind"] ["self","parent","kind"] (ah fX):=by trivial
theorem V2 {S:Sps} (T:Txt K mg t) (len:∀ vs H Q E,S.i6 vs H Q E->vs.length=3)
  (rd:∀ vs H Q E,S.i6 vs H Q E->Dd K t S { nx:=λ_ H'=>Q .non H',rt:=Q } (start ["self","parent","kind"] vs) H) :
  aQ P w K mg base CX0 1 t.dZ t.pZ ["self","parent","kind"] S.i6:=by
 refine T.jK.ok JC len (λcdv A outer s H vs Q E hr h=>⟨_,?_,rd vs H Q E h⟩)
 have nd:=JC.nd
 have hu:=bS hr
 exact (ai (bV (pv 0) (pv 1) rfl)
  (ai (bV (pv 0) (pv 2) rfl)
  (ai (bV (pv 0) (aR rfl T.fB) rfl)
  (ai (bV (pv 0) (dM aA) rfl)
  (au (bV (pv 0) (dM aA) rfl))))))
def ni (K:W.Frag) (t:Adr) (S:Sps):TS:=
 (bG (amM (tOp rEq (aN K (aa 0) "kind") (tC (.int (3)))) (tOp rEq (aN K (aa 0) "kind") (tC (.int (4))))))
theorem tS:aW ["self"] ["self"] (ah cE):=by trivial
theorem IP {S:Sps} (T:Txt K mg t) (len:∀ vs H Q E,S.aL vs H Q E->vs.length=1)
  (rd:∀ vs H Q E,S.aL vs H Q E->ni K t S { nx:=λ_ H'=>Q .non H',rt:=Q } (start ["self"] vs) H) :
  aQ P w K mg base CX0 1 t.bf t.bP ["self"] S.aL:=by
 refine T.gD.ok tS len (λcdv A outer s H vs Q E hr h=>⟨_,?_,rd vs H Q E h⟩)
 have nd:=tS.nd
 have hu:=bS hr
 exact (au (aM (anM (rM cG (az (pv 0) rfl) (aR rfl T.mS) (aZ _)) (ahi (rM cG (az (pv 0) rfl) (aR rfl T.yq) (aZ _))))))
def J7 (K:W.Frag) (t:Adr) (S:Sps):TS:=
 (aK (fm K (aa 0) (aa 1) "source")
  (aK (fm K (aa 0) (aa 2) "event")
  (aK (fm K (aa 0) (aa 3) "target")
  (aK (fm K (aa 0) (tC (.int 0)) "ask")
  (aK (fm K (aa 0) (tC (.int 0)) "which")
  (aK (fm K (aa 0) (tC (.int 0)) "much")
  (fm K (aa 0) (kC aJ) "acts")))))))
theorem Qv:aW ["self","source","event","target"] ["self","source","event","target"] (ah jB):=by trivial
theorem afF {S:Sps} (T:Txt K mg t) (len:∀ vs H Q E,S.wK vs H Q E->vs.length=4)
  (rd:∀ vs H Q E,S.wK vs H Q E->J7 K t S { nx:=λ_ H'=>Q .non H',rt:=Q } (start ["self","source","event","target"] vs) H) :
  aQ P w K mg base CX0 1 t.iW t.By ["self","source","event","target"] S.wK:=by
 refine T.mR.ok Qv len (λcdv A outer s H vs Q E hr h=>⟨_,?_,rd vs H Q E h⟩)
 have nd:=Qv.nd
 have hu:=bS hr
 exact (ai (bV (pv 0) (pv 1) rfl)
  (ai (bV (pv 0) (pv 2) rfl)
  (ai (bV (pv 0) (pv 3) rfl)
  (ai (bV (pv 0) aF rfl)
  (ai (bV (pv 0) aF rfl)
  (ai (bV (pv 0) aF rfl)
  (au (bV (pv 0) (dM aA) rfl))))))))
def Bq (K:W.Frag) (t:Adr) (S:Sps):TS:=
 (fT (bD t.aE "begin" S.gw [] E0 (aa 0) aJ))
theorem JB:aW ["self"] ["self"] (ah fZ):=by trivial
theorem WB {S:Sps} (T:Txt K mg t) (jX:aQ P w K mg base CX0 3 t.di t.lV ["self"] S.gw) (len:∀ vs H Q E,S.m8 vs H Q E->vs.length=1)
  (rd:∀ vs H Q E,S.m8 vs H Q E->Bq K t S { nx:=λ_ H'=>Q .non H',rt:=Q } (start ["self"] vs) H) :
  aQ P w K mg base CX0 4 t.fk t.t7 ["self"] S.m8:=by
 refine T.ie.ok JB len (λcdv A outer s H vs Q E hr h=>⟨_,?_,rd vs H Q E h⟩)
 have nd:=JB.nd
 have hu:=bS hr
 exact (au (cO (iI (pv 0) T.bX T.Al (jX.mono (k:=3) (by decide)) hr T.mj .nil aS)))
def z7 (K:W.Frag) (t:Adr) (S:Sps):TS:=
 (aK (fm K (aa 0) (kC (aB (Hf t.bA S.i6 [] E0 (aB (tC (.int (-1))) (aB (tC (.int (0))) aJ))) aJ)) "states")
  (aK (fm K (aa 0) (kC aJ) "ways")
  (aK (fm K (aa 0) (tC .non) "run")
  (bG (tC (.int 0))))))
theorem EX:aW ["self"] ["self"] (ah ff):=by trivial
theorem Ui {S:Sps} (T:Txt K mg t) (kY:aQ P w K mg base CX0 1 t.dZ t.pZ ["self","parent","kind"] S.i6) (len:∀ vs H Q E,S.gw vs H Q E->vs.length=1)
  (rd:∀ vs H Q E,S.gw vs H Q E->z7 K t S { nx:=λ_ H'=>Q .non H',rt:=Q } (start ["self"] vs) H) :
  aQ P w K mg base CX0 3 t.di t.lV ["self"] S.gw:=by
 refine T.mq.ok EX len (λcdv A outer s H vs Q E hr h=>⟨_,?_,rd vs H Q E h⟩)
 have nd:=EX.nd
 have hu:=bS hr
 exact (ai (bV (pv 0) (dM (aj (CD T.p9 (kY.mono (k:=1) (by decide)) hr rfl T.Tp T.oK .nil aS (aj (aR rfl T.fB) (aj (aR rfl T.iz) aA))) aA)) rfl)
  (ai (bV (pv 0) (dM aA) rfl)
  (ai (bV (pv 0) aoj rfl)
  (au (aM aF)))))
def Aw (K:W.Frag) (t:Adr) (S:Sps):TS:=
 (aK (cP (pK (tB (bD t.aE "may_hold" S.gB [] E0 (aa 0) (aB (aa 1) (aB (aa 2) aJ))))) (bG (tC (.int (-1)))) bL)
  (aK (cP (bw (tOp rEq (tCB (FP K) (aB (aN K (aa 0) "states") aJ)) (tC (.int (64))))) (bG (tC (.int (-2)))) bL)
  (aK (fT (tBM K "list" eX (aN K (aa 0) "states") (aB (Hf t.bA S.i6 [] E0 (aB (aa 1) (aB (aa 2) aJ))) aJ)))
  (bG (tOp (rI0 λi j=>.int (i - j)) (tCB (FP K) (aB (aN K (aa 0) "states") aJ)) (tC (.int 1)))))))
theorem Eg:aW ["self","parent","kind"] ["self","parent","kind"] (ah fj):=by trivial
theorem T9 {S:Sps} (T:Txt K mg t) (qu:aQ P w K mg base CX0 2 t.cI t.lu ["self","parent","kind"] S.gB) (kY:aQ P w K mg base CX0 1 t.dZ t.pZ ["self","parent","kind"] S.i6) (len:∀ vs H Q E,S.kE vs H Q E->vs.length=3)
  (rd:∀ vs H Q E,S.kE vs H Q E->Aw K t S { nx:=λ_ H'=>Q .non H',rt:=Q } (start ["self","parent","kind"] vs) H) :
  aQ P w K mg base CX0 3 t.dS t.rF ["self","parent","kind"] S.kE:=by
 refine T.lS.ok Eg len (λcdv A outer s H vs Q E hr h=>⟨_,?_,rd vs H Q E h⟩)
 have nd:=Eg.nd
 have hu:=bS hr
 exact (ai (bK (fH (fS (bh (pv 0) T.bX T.Ba (qu.mono (k:=2) (by decide)) hr T.lE .nil aS (aj (pv 1) (aj (pv 2) aA))))) (au (aM (aR rfl T.fF))) aY)
  (ai (bK (aU cG (fU ck rfl T.iT PySem.boot_len (aj (az (pv 0) rfl) aA)) (aR rfl T.ji) (aZ _)) (au (aM (aR rfl T.ug))) aY)
  (ai (cO (qh PySem.F.plainAttrs_list PySem.F.slot_list_append PySem.F.type_list_append dH (az (pv 0) rfl) (aj (CD T.p9 (kY.mono (k:=1) (by decide)) hr rfl T.Tp T.oK .nil aS (aj (pv 1) (aj (pv 2) aA))) aA)))
  (au (aM (cS Gu (fU ck rfl T.iT PySem.boot_len (aj (az (pv 0) rfl) aA)) aF))))))
def wB (K:W.Frag) (t:Adr) (S:Sps):TS:=
 (aK (cP (tOr (pK (tB (bD t.aE "has_state" S.bx [] E0 (aa 0) (aB (aa 1) aJ)))) (bw (tOp rNe (aN K (tOp (bY K) (aN K (aa 0) "states") (aa 1)) "kind") (tC (.int (0)))))) (bG (tC (.int (-1)))) bL)
  (aK (cP (bw (tOp (rIn K true) (aa 2) (bD t.aE "parts" S.cB [] E0 (aa 0) (aB (aa 1) aJ)))) (bG (tC (.int (-1)))) bL)
  (aK (fm K (tOp (bY K) (aN K (aa 0) "states") (aa 1)) (aa 2) "told_part")
  (bG (tC (.int 0))))))
theorem DV:aW ["self","state","part"] ["self","state","part"] (ah dY):=by trivial
theorem Rn {S:Sps} (T:Txt K mg t) (bI:aQ P w K mg base CX0 1 t.bH t.eu ["self","state"] S.bx) (cK:aQ P w K mg base CX0 2 t.cM t.iS ["self","state"] S.cB) (len:∀ vs H Q E,S.jr vs H Q E->vs.length=3)
  (rd:∀ vs H Q E,S.jr vs H Q E->wB K t S { nx:=λ_ H'=>Q .non H',rt:=Q } (start ["self","state","part"] vs) H) :
  aQ P w K mg base CX0 3 t.c9 t.n8 ["self","state","part"] S.jr:=by
 refine T.kF.ok DV len (λcdv A outer s H vs Q E hr h=>⟨_,?_,rd vs H Q E h⟩)
 have nd:=DV.nd
 have hu:=bS hr
 exact (ai (bK (PW.pt (Bb (fH (fS (bh (pv 0) T.bX T.fK (bI.mono (k:=2) (by decide)) hr T.c6 .nil aS (aj (pv 1) aA)))) (xC (aU nM (az (br aG (az (pv 0) rfl) (pv 1) (λ_ _=>rfl)) rfl) (aR rfl T.iz) (aZ _))))) (au (aM (aR rfl T.fF))) aY)
  (ai (bK (aU YY (pv 2) (bh (pv 0) T.bX T.jZ (cK.mono (k:=2) (by decide)) hr T.gj .nil aS (aj (pv 1) aA)) rfl) (au (aM (aR rfl T.fF))) aY)
  (ai (bV (br aG (az (pv 0) rfl) (pv 1) (λ_ _=>rfl)) (pv 2) rfl)
  (au (aM aF)))))
def FQ (K:W.Frag) (t:Adr) (S:Sps):TS:=
 (aK (cP (pK (tB (bD t.aE "may_lead" S.gJ [] E0 (aa 0) (aB (aa 1) (aB (aa 2) (aB (aa 3) aJ)))))) (bG (tC (.int (-1)))) bL)
  (aK (cP (bw (tOp rEq (tCB (FP K) (aB (aN K (aa 0) "ways") aJ)) (tC (.int (256))))) (bG (tC (.int (-2)))) bL)
  (aK (fT (tBM K "list" eX (aN K (aa 0) "ways") (aB (Hf t.eV S.wK [] E0 (aB (aa 1) (aB (aa 2) (aB (aa 3) aJ)))) aJ)))
  (bG (tOp (rI0 λi j=>.int (i - j)) (tCB (FP K) (aB (aN K (aa 0) "ways") aJ)) (tC (.int 1)))))))
theorem MK:aW ["self","source","event","target"] ["self","source","event","target"] (ah ir):=by trivial
theorem X5 {S:Sps} (T:Txt K mg t) (qR:aQ P w K mg base CX0 3 t.cH t.lg ["self","source","event","target"] S.gJ) (KL:aQ P w K mg base CX0 1 t.iW t.By ["self","source","event","target"] S.wK) (len:∀ vs H Q E,S.qP vs H Q E->vs.length=4)
  (rd:∀ vs H Q E,S.qP vs H Q E->FQ K t S { nx:=λ_ H'=>Q .non H',rt:=Q } (start ["self","source","event","target"] vs) H) :
  aQ P w K mg base CX0 4 t.gk t.yl ["self","source","event","target"] S.qP:=by
 refine T.rZ.ok MK len (λcdv A outer s H vs Q E hr h=>⟨_,?_,rd vs H Q E h⟩)
 have nd:=MK.nd
 have hu:=bS hr
 exact (ai (bK (fH (fS (bh (pv 0) T.bX T.Bl (qR.mono (k:=3) (by decide)) hr T.kZ .nil aS (aj (pv 1) (aj (pv 2) (aj (pv 3) aA)))))) (au (aM (aR rfl T.fF))) aY)
  (ai (bK (aU cG (fU ck rfl T.iT PySem.boot_len (aj (az (pv 0) rfl) aA)) (aR rfl T.lA) (aZ _)) (au (aM (aR rfl T.ug))) aY)
  (ai (cO (qh PySem.F.plainAttrs_list PySem.F.slot_list_append PySem.F.type_list_append dH (az (pv 0) rfl) (aj (CD T.Hj (KL.mono (k:=2) (by decide)) hr rfl T.akM T.CW .nil aS (aj (pv 1) (aj (pv 2) (aj (pv 3) aA)))) aA)))
  (au (aM (cS Gu (fU ck rfl T.iT PySem.boot_len (aj (az (pv 0) rfl) aA)) aF))))))
def Ar (K:W.Frag) (t:Adr) (S:Sps):TS:=
 (aK (cP (tOr (pK (tB (bD t.aE "has_way" S.dP [] E0 (aa 0) (aB (aa 1) aJ)))) (tOr (pK (bw (oS (rI0 λi j=>.bl (decide (i<=j))) (rI0 λi j=>.bl (decide (i<=j))) (tC (.int 0)) (aa 2) (tC (.int (3)))))) (pK (tB (cW S.gz [] E0 (aB (aa 3) aJ)))))) (bG (tC (.int (-1)))) bL)
  (aK (c5 (tOp (bY K) (aN K (aa 0) "ways") (aa 1)) (aX 5))
  (aK (fm K (aa 5) (aa 2) "ask")
  (aK (fm K (aa 5) (aa 3) "which")
  (aK (fm K (aa 5) (aa 4) "much")
  (bG (tC (.int 0))))))))
theorem HF:aW ["self","way","ask","which","much","guarded"] ["self","way","ask","which","much"] (ah fc):=by trivial
theorem Tg {S:Sps} (T:Txt K mg t) (gW:aQ P w K mg base CX0 1 t.cF t.jQ ["self","way"] S.dP) (ic:aQ P w K mg base CX0 1 t.eN t.nP ["which"] S.gz) (len:∀ vs H Q E,S.kW vs H Q E->vs.length=5)
  (rd:∀ vs H Q E,S.kW vs H Q E->Ar K t S { nx:=λ_ H'=>Q .non H',rt:=Q } (start ["self","way","ask","which","much","guarded"] vs) H) :
  aQ P w K mg base CX0 2 t.dR t.qZ ["self","way","ask","which","much"] S.kW:=by
 refine T.lX.ok HF len (λcdv A outer s H vs Q E hr h=>⟨_,?_,rd vs H Q E h⟩)
 have nd:=HF.nd
 have hu:=bS hr
 exact (ai (bK (PW.pt (Bb (fH (fS (bh (pv 0) T.bX T.sZ (gW.mono (k:=1) (by decide)) hr T.jU .nil aS (aj (pv 1) aA)))) (Bb (fH (A9 pP pP aF (pv 2) (aR rfl T.nK))) (xC (fH (fS (bC (ic.mono (k:=1) (by decide)) hr rfl T.uv T.yM T.nL .nil aS (aj (pv 3) aA)))))))) (au (aM (aR rfl T.fF))) aY)
  (ai (bE (i:=5) nd rfl (Or.inl rfl) (br aG (az (pv 0) rfl) (pv 1) (λ_ _=>rfl)))
  (ai (bV (pv 5) (pv 2) rfl)
  (ai (bV (pv 5) (pv 3) rfl)
  (ai (bV (pv 5) (pv 4) rfl)
  (au (aM aF)))))))
def GG (K:W.Frag) (t:Adr) (S:Sps):TS:=
 (aK (cP (pK (tB (bD t.aE "has_way" S.dP [] E0 (aa 0) (aB (aa 1) aJ)))) (bG (tC (.int (-1)))) bL)
  (bG (cW S.rD [] E0 (aB (aN K (tOp (bY K) (aN K (aa 0) "ways") (aa 1)) "acts") (aB (aa 2) (aB (aa 3) (aB (aa 4) aJ)))))))
theorem M6:aW ["self","way","kind","which","much"] ["self","way","kind","which","much"] (ah iF):=by trivial
theorem ZO {S:Sps} (T:Txt K mg t) (gW:aQ P w K mg base CX0 1 t.cF t.jQ ["self","way"] S.dP) (uE:aQ P w K mg base CX0 3 t.je t.Bd ["acts","kind","which","much"] S.rD) (len:∀ vs H Q E,S.qH vs H Q E->vs.length=5)
  (rd:∀ vs H Q E,S.qH vs H Q E->GG K t S { nx:=λ_ H'=>Q .non H',rt:=Q } (start ["self","way","kind","which","much"] vs) H) :
  aQ P w K mg base CX0 4 t.gf t.zd ["self","way","kind","which","much"] S.qH:=by
 refine T.r6.ok M6 len (λcdv A outer s H vs Q E hr h=>⟨_,?_,rd vs H Q E h⟩)
 have nd:=M6.nd
 have hu:=bS hr
 exact (ai (bK (fH (fS (bh (pv 0) T.bX T.sZ (gW.mono (k:=3) (by decide)) hr T.jU .nil aS (aj (pv 1) aA)))) (au (aM (aR rfl T.fF))) aY)
  (au (aM (bC (uE.mono (k:=3) (by decide)) hr rfl T.Kq T.OI T.AS .nil aS (aj (az (br aG (az (pv 0) rfl) (pv 1) (λ_ _=>rfl)) rfl) (aj (pv 2) (aj (pv 3) (aj (pv 4) aA))))))))
def Kg (K:W.Frag) (t:Adr) (S:Sps):TS:=
 (aK (cP (tOr (bw (tOp rEq (aa 1) (tC (.int 0)))) (tOr (pK (tB (bD t.aE "has_state" S.bx [] E0 (aa 0) (aB (aa 1) aJ)))) (tB (bD t.bA "is_history" S.aL [] E0 (tOp (bY K) (aN K (aa 0) "states") (aa 1)) aJ)))) (bG (tC (.int (-1)))) bL)
  (aK (c5 (tOp (bY K) (aN K (aa 0) "states") (aa 1)) (aX 6))
  (aK (c5 (tIf (bw (tOp rEq (aa 2) (tC (.int 0)))) (aN K (aa 6) "coming_acts") (aN K (aa 6) "leaving_acts")) (aX 7))
  (bG (cW S.rD [] E0 (aB (aa 7) (aB (aa 3) (aB (aa 4) (aB (aa 5) aJ)))))))))
theorem PD:aW ["self","state","leaving","kind","which","much","one","acts"] ["self","state","leaving","kind","which","much"] (ah jN):=by trivial
theorem aed {S:Sps} (T:Txt K mg t) (bI:aQ P w K mg base CX0 1 t.bH t.eu ["self","state"] S.bx) (aO:aQ P w K mg base CX0 1 t.bf t.bP ["self"] S.aL) (uE:aQ P w K mg base CX0 3 t.je t.Bd ["acts","kind","which","much"] S.rD) (len:∀ vs H Q E,S.vF vs H Q E->vs.length=6)
  (rd:∀ vs H Q E,S.vF vs H Q E->Kg K t S { nx:=λ_ H'=>Q .non H',rt:=Q } (start ["self","state","leaving","kind","which","much","one","acts"] vs) H) :
  aQ P w K mg base CX0 4 t.iR t.BX ["self","state","leaving","kind","which","much"] S.vF:=by
 refine T.wG.ok PD len (λcdv A outer s H vs Q E hr h=>⟨_,?_,rd vs H Q E h⟩)
 have nd:=PD.nd
 have hu:=bS hr
 exact (ai (bK (PW.pt (Bb (aU cG (pv 1) aF (aZ _)) (Bb (fH (fS (bh (pv 0) T.bX T.fK (bI.mono (k:=3) (by decide)) hr T.c6 .nil aS (aj (pv 1) aA)))) (xC (fS (iI (br aG (az (pv 0) rfl) (pv 1) (λ_ _=>rfl)) T.i9 T.cD (aO.mono (k:=3) (by decide)) hr T.bR .nil aS)))))) (au (aM (aR rfl T.fF))) aY)
  (ai (bE (i:=6) nd rfl (Or.inl rfl) (br aG (az (pv 0) rfl) (pv 1) (λ_ _=>rfl)))
  (ai (bE (i:=7) nd rfl (Or.inl rfl) (Fb (aU cG (pv 2) aF (aZ _)) (az (pv 6) rfl) (az (pv 6) rfl)))
  (au (aM (bC (uE.mono (k:=3) (by decide)) hr rfl T.Kq T.OI T.AS .nil aS (aj (pv 7) (aj (pv 3) (aj (pv 4) (aj (pv 5) aA))))))))))
def pT (K:W.Frag) (t:Adr) (S:Sps):TS:=
 (bG (oS (rI0 λi j=>.bl (decide (i<=j))) (rI0 λi j=>.bl (decide (i < j))) (tC (.int 0)) (aa 1) (tCB (FP K) (aB (aN K (aa 0) "states") aJ))))
theorem uR:aW ["self","state"] ["self","state"] (ah cQ):=by trivial
theorem Lc {S:Sps} (T:Txt K mg t) (len:∀ vs H Q E,S.bx vs H Q E->vs.length=2)
  (rd:∀ vs H Q E,S.bx vs H Q E->pT K t S { nx:=λ_ H'=>Q .non H',rt:=Q } (start ["self","state"] vs) H) :
  aQ P w K mg base CX0 1 t.bH t.eu ["self","state"] S.bx:=by
 refine T.gZ.ok uR len (λcdv A outer s H vs Q E hr h=>⟨_,?_,rd vs H Q E h⟩)
 have nd:=uR.nd
 have hu:=bS hr
 exact (au (aM (FA pP aeV aF (pv 1) (fU ck rfl T.iT PySem.boot_len (aj (az (pv 0) rfl) aA)))))
def tD (K:W.Frag) (t:Adr) (S:Sps):TS:=
 (bG (oS (rI0 λi j=>.bl (decide (i<=j))) (rI0 λi j=>.bl (decide (i < j))) (tC (.int 0)) (aa 1) (tCB (FP K) (aB (aN K (aa 0) "ways") aJ))))
theorem A4:aW ["self","way"] ["self","way"] (ah dG):=by trivial
theorem Og {S:Sps} (T:Txt K mg t) (len:∀ vs H Q E,S.dP vs H Q E->vs.length=2)
  (rd:∀ vs H Q E,S.dP vs H Q E->tD K t S { nx:=λ_ H'=>Q .non H',rt:=Q } (start ["self","way"] vs) H) :
  aQ P w K mg base CX0 1 t.cF t.jQ ["self","way"] S.dP:=by
 refine T.jR.ok A4 len (λcdv A outer s H vs Q E hr h=>⟨_,?_,rd vs H Q E h⟩)
 have nd:=A4.nd
 have hu:=bS hr
 exact (au (aM (FA pP aeV aF (pv 1) (fU ck rfl T.iT PySem.boot_len (aj (az (pv 0) rfl) aA)))))
def zH (K:W.Frag) (t:Adr) (S:Sps):TS:=
 (aK (c5 (kC aJ) (aX 2))
  (aK (uA (afw K (aB (aN K (aa 0) "states") aJ)) (ael K 2 (wI (aX 3) (wI (aX 4) abo))) (cP (VU (bw (tOp rEq (aN K (aa 4) "parent") (aa 1))) (pK (tB (bD t.bA "is_history" S.aL [] E0 (aa 4) aJ)))) (fT (tBM K "list" eX (aa 2) (aB (aa 3) aJ))) bL))
  (bG (aa 2))))
theorem D7:aW ["self","state","found","number","one"] ["self","state"] (ah fz):=by trivial
theorem UP {S:Sps} (T:Txt K mg t) (aO:aQ P w K mg base CX0 1 t.bf t.bP ["self"] S.aL) (len:∀ vs H Q E,S.cB vs H Q E->vs.length=2)
  (rd:∀ vs H Q E,S.cB vs H Q E->zH K t S { nx:=λ_ H'=>Q .non H',rt:=Q } (start ["self","state","found","number","one"] vs) H) :
  aQ P w K mg base CX0 2 t.cM t.iS ["self","state"] S.cB:=by
 refine T.l5.ok D7 len (λcdv A outer s H vs Q E hr h=>⟨_,?_,rd vs H Q E h⟩)
 have nd:=D7.nd
 have hu:=bS hr
 exact (ai (bE (i:=2) nd rfl (Or.inl rfl) (dM aA))
  (ai (gU PassesOwn.never rfl (abj rfl T.iK (aj (az (pv 0) rfl) aA)) (UD rfl (kH (bT (i:=3) nd rfl (Or.inl rfl)) (kH (bT (i:=4) nd rfl (Or.inl rfl)) Nu))) (au (bK (PW.pt (Eu (aU cG (az (pv 4) rfl) (pv 1) (aZ _)) (zj (fH (fS (iI (pv 4) T.i9 T.cD (aO.mono (k:=1) (by decide)) hr T.bR .nil aS)))))) (au (cO (qh PySem.F.plainAttrs_list PySem.F.slot_list_append PySem.F.type_list_append dH (pv 2) (aj (pv 3) aA)))) aY)))
  (au (aM (pv 2)))))
def oU (K:W.Frag) (t:Adr) (S:Sps):TS:=
 (aK (cP (bw (tOp rNe (aN K (tOp (bY K) (aN K (aa 0) "states") (aa 1)) "told_part") (tC (.int (-1))))) (bG (aN K (tOp (bY K) (aN K (aa 0) "states") (aa 1)) "told_part")) bL)
  (bG (akZ K (bD t.aE "parts" S.cB [] E0 (aa 0) (aB (aa 1) aJ)) (tC (.int (-1))))))
theorem uU:aW ["self","state"] ["self","state"] (ah cT):=by trivial
theorem KS {S:Sps} (T:Txt K mg t) (cK:aQ P w K mg base CX0 2 t.cM t.iS ["self","state"] S.cB) (len:∀ vs H Q E,S.cU vs H Q E->vs.length=2)
  (rd:∀ vs H Q E,S.cU vs H Q E->oU K t S { nx:=λ_ H'=>Q .non H',rt:=Q } (start ["self","state"] vs) H) :
  aQ P w K mg base CX0 3 t.bZ t.iA ["self","state"] S.cU:=by
 refine T.iG.ok uU len (λcdv A outer s H vs Q E hr h=>⟨_,?_,rd vs H Q E h⟩)
 have nd:=uU.nd
 have hu:=bS hr
 exact (ai (bK (aU nM (az (br aG (az (pv 0) rfl) (pv 1) (λ_ _=>rfl)) rfl) (aR rfl T.fB) (aZ _)) (au (aM (az (br aG (az (pv 0) rfl) (pv 1) (λ_ _=>rfl)) rfl))) aY)
  (au (aM (amv rfl rfl T.O1 (bh (pv 0) T.bX T.jZ (cK.mono (k:=2) (by decide)) hr T.gj .nil aS (aj (pv 1) aA)) (aR rfl T.fB)))))
def pX (K:W.Frag) (t:Adr) (S:Sps):TS:=
 (aK (c5 (aN K (tOp (bY K) (aN K (aa 0) "states") (aa 1)) "parent") (aX 3))
  (aK (GZ (VU (bw (tOp rNe (aa 3) (tC (.int (-1))))) (bw (tOp rNe (aa 3) (aa 2)))) (c5 (aN K (tOp (bY K) (aN K (aa 0) "states") (aa 3)) "parent") (aX 3)))
  (bG (tOp rEq (aa 3) (aa 2)))))
theorem vU:aW ["self","state","outer","around"] ["self","state","outer"] (ah cR):=by trivial
theorem KQ {S:Sps} (T:Txt K mg t) (len:∀ vs H Q E,S.fQ vs H Q E->vs.length=3)
  (rd:∀ vs H Q E,S.fQ vs H Q E->pX K t S { nx:=λ_ H'=>Q .non H',rt:=Q } (start ["self","state","outer","around"] vs) H) :
  aQ P w K mg base CX0 1 t.cA t.j8 ["self","state","outer"] S.fQ:=by
 refine T.iO.ok vU len (λcdv A outer s H vs Q E hr h=>⟨_,?_,rd vs H Q E h⟩)
 have nd:=vU.nd
 have hu:=bS hr
 exact (ai (bE (i:=3) nd rfl (Or.inl rfl) (az (br aG (az (pv 0) rfl) (pv 1) (λ_ _=>rfl)) rfl))
  (ai (wQ PassesOwn.never (PW.pt (Eu (aU nM (pv 3) (aR rfl T.fB) (aZ _)) (zj (aU nM (pv 3) (pv 2) (aZ _))))) (au (bE (i:=3) nd rfl (Or.inl rfl) (az (br aG (az (pv 0) rfl) (pv 3) (λ_ _=>rfl)) rfl))))
  (au (aM (rM cG (pv 3) (pv 2) (aZ _))))))
def oZ (K:W.Frag) (t:Adr) (S:Sps):TS:=
 (aK (cP (pK (Ag K (bD t.aE "parts" S.cB [] E0 (aa 0) (aB (tC (.int 0)) aJ)))) (bG (tC (.bl false))) bL)
  (aK (uA (jn K (aN K (aa 0) "states")) (aX 1) (cP (VU (tB (bD t.bA "is_history" S.aL [] E0 (aa 1) aJ)) (pK (Ag K (bD t.aE "parts" S.cB [] E0 (aa 0) (aB (aN K (aa 1) "parent") aJ))))) (bG (tC (.bl false))) bL))
  (bG (tC (.bl true)))))
theorem xD:aW ["self","one"] ["self"] (ah cN):=by trivial
theorem K9 {S:Sps} (T:Txt K mg t) (cK:aQ P w K mg base CX0 2 t.cM t.iS ["self","state"] S.cB) (aO:aQ P w K mg base CX0 1 t.bf t.bP ["self"] S.aL) (len:∀ vs H Q E,S.fP vs H Q E->vs.length=1)
  (rd:∀ vs H Q E,S.fP vs H Q E->oZ K t S { nx:=λ_ H'=>Q .non H',rt:=Q } (start ["self","one"] vs) H) :
  aQ P w K mg base CX0 3 t.cy t.kh ["self"] S.fP:=by
 refine T.iy.ok xD len (λcdv A outer s H vs Q E hr h=>⟨_,?_,rd vs H Q E h⟩)
 have nd:=xD.nd
 have hu:=bS hr
 exact (ai (bK (fH (GA (bh (pv 0) T.bX T.jZ (cK.mono (k:=2) (by decide)) hr T.gj .nil aS (aj aF aA)) (by intro _;rfl))) (au (aM AQ)) aY)
  (ai (gU PassesOwn.never rfl (dI (az (pv 0) rfl)) (bT (i:=1) nd rfl (Or.inl rfl)) (au (bK (PW.pt (Eu (fS (iI (pv 1) T.i9 T.cD (aO.mono (k:=2) (by decide)) hr T.bR .nil aS)) (zj (fH (GA (bh (pv 0) T.bX T.jZ (cK.mono (k:=2) (by decide)) hr T.gj .nil aS (aj (az (pv 1) rfl) aA)) (by intro _;rfl)))))) (au (aM AQ)) aY)))
  (au (aM AQ))))
def qz (K:W.Frag) (t:Adr) (S:Sps):TS:=
 (aK (cP (tOr (pK (tB (bD t.aE "has_state" S.bx [] E0 (aa 0) (aB (aa 1) aJ)))) (pK (bw (oS (rI0 λi j=>.bl (decide (i<=j))) (rI0 λi j=>.bl (decide (i<=j))) (tC (.int (0))) (aa 2) (tC (.int (4))))))) (bG (tC (.bl false))) bL)
  (aK (c5 (tOp (bY K) (aN K (aa 0) "states") (aa 1)) (aX 3))
  (aK (cP (tOr (bw (tOp rEq (aN K (aa 3) "kind") (tC (.int (2))))) (tB (bD t.bA "is_history" S.aL [] E0 (aa 3) aJ))) (bG (tC (.bl false))) bL)
  (aK (cP (VU (bw (tOp rEq (aa 1) (tC (.int 0)))) (bw (tOp (rI0 λi j=>.bl (decide (j<=i))) (aa 2) (tC (.int (3)))))) (bG (tC (.bl false))) bL)
  (bG (amM (tOp rNe (aN K (aa 3) "kind") (tC (.int (1)))) (tOp rNe (aa 2) (tC (.int (2))))))))))
theorem ye:aW ["self","parent","kind","holder"] ["self","parent","kind"] (ah cY):=by trivial
theorem NC {S:Sps} (T:Txt K mg t) (bI:aQ P w K mg base CX0 1 t.bH t.eu ["self","state"] S.bx) (aO:aQ P w K mg base CX0 1 t.bf t.bP ["self"] S.aL) (len:∀ vs H Q E,S.gB vs H Q E->vs.length=3)
  (rd:∀ vs H Q E,S.gB vs H Q E->qz K t S { nx:=λ_ H'=>Q .non H',rt:=Q } (start ["self","parent","kind","holder"] vs) H) :
  aQ P w K mg base CX0 2 t.cI t.lu ["self","parent","kind"] S.gB:=by
 refine T.ja.ok ye len (λcdv A outer s H vs Q E hr h=>⟨_,?_,rd vs H Q E h⟩)
 have nd:=ye.nd
 have hu:=bS hr
 exact (ai (bK (PW.pt (Bb (fH (fS (bh (pv 0) T.bX T.fK (bI.mono (k:=1) (by decide)) hr T.c6 .nil aS (aj (pv 1) aA)))) (xC (fH (A9 pP pP (aR rfl T.iz) (pv 2) (aR rfl T.yq)))))) (au (aM AQ)) aY)
  (ai (bE (i:=3) nd rfl (Or.inl rfl) (br aG (az (pv 0) rfl) (pv 1) (λ_ _=>rfl)))
  (ai (bK (PW.pt (Bb (aU cG (az (pv 3) rfl) (aR rfl T.AI) (aZ _)) (xC (fS (iI (pv 3) T.i9 T.cD (aO.mono (k:=1) (by decide)) hr T.bR .nil aS))))) (au (aM AQ)) aY)
  (ai (bK (PW.pt (Eu (aU cG (pv 1) aF (aZ _)) (zj (aU anH (pv 2) (aR rfl T.mS) (aZ _))))) (au (aM AQ)) aY)
  (au (aM (anM (rM nM (az (pv 3) rfl) (aR rfl T.dF) (aZ _)) (ahi (rM nM (pv 2) (aR rfl T.AI) (aZ _))))))))))
def qV (K:W.Frag) (t:Adr) (S:Sps):TS:=
 (aK (cP (tOr (bw (tOp rEq (aa 1) (tC (.int 0)))) (pK (tB (bD t.aE "has_state" S.bx [] E0 (aa 0) (aB (aa 1) aJ))))) (bG (tC (.bl false))) bL)
  (aK (cP (tOr (bw (tOp rEq (aa 3) (tC (.int 0)))) (VU (bw (tOp rNe (aa 3) (tC (.int (-1))))) (pK (tB (bD t.aE "has_state" S.bx [] E0 (aa 0) (aB (aa 3) aJ)))))) (bG (tC (.bl false))) bL)
  (aK (cP (tOr (pK (bw (oS (rI0 λi j=>.bl (decide (i<=j))) (rI0 λi j=>.bl (decide (i<=j))) (tC (.int 0)) (aa 2) (tC (.int (319)))))) (VU (bw (tOp rEq (aa 2) (tC (.int 0)))) (bw (tOp rEq (aa 3) (tC (.int (-1))))))) (bG (tC (.bl false))) bL)
  (aK (c5 (tOp (bY K) (aN K (aa 0) "states") (aa 1)) (aX 4))
  (aK (cP (tB (bD t.bA "is_history" S.aL [] E0 (aa 4) aJ)) (bG (bD t.aE "may_recall" S.eU [] E0 (aa 0) (aB (aN K (aa 4) "parent") (aB (aa 3) aJ)))) bL)
  (bG (tOp rNe (aN K (aa 4) "kind") (tC (.int (2))))))))))
theorem yy:aW ["self","source","event","target","start"] ["self","source","event","target"] (ah cX):=by trivial
theorem NL {S:Sps} (T:Txt K mg t) (bI:aQ P w K mg base CX0 1 t.bH t.eu ["self","state"] S.bx) (nB:aQ P w K mg base CX0 2 t.cg t.jy ["self","parent","target"] S.eU) (aO:aQ P w K mg base CX0 1 t.bf t.bP ["self"] S.aL) (len:∀ vs H Q E,S.gJ vs H Q E->vs.length=4)
  (rd:∀ vs H Q E,S.gJ vs H Q E->qV K t S { nx:=λ_ H'=>Q .non H',rt:=Q } (start ["self","source","event","target","start"] vs) H) :
  aQ P w K mg base CX0 3 t.cH t.lg ["self","source","event","target"] S.gJ:=by
 refine T.jb.ok yy len (λcdv A outer s H vs Q E hr h=>⟨_,?_,rd vs H Q E h⟩)
 have nd:=yy.nd
 have hu:=bS hr
 exact (ai (bK (PW.pt (Bb (aU cG (pv 1) aF (aZ _)) (xC (fH (fS (bh (pv 0) T.bX T.fK (bI.mono (k:=2) (by decide)) hr T.c6 .nil aS (aj (pv 1) aA))))))) (au (aM AQ)) aY)
  (ai (bK (PW.pt (Bb (aU cG (pv 3) aF (aZ _)) (xC (PW.pt (Eu (aU nM (pv 3) (aR rfl T.fB) (aZ _)) (zj (fH (fS (bh (pv 0) T.bX T.fK (bI.mono (k:=2) (by decide)) hr T.c6 .nil aS (aj (pv 3) aA)))))))))) (au (aM AQ)) aY)
  (ai (bK (PW.pt (Bb (fH (A9 pP pP aF (pv 2) (aR rfl T.jY))) (xC (PW.pt (Eu (aU cG (pv 2) aF (aZ _)) (zj (aU cG (pv 3) (aR rfl T.fB) (aZ _)))))))) (au (aM AQ)) aY)
  (ai (bE (i:=4) nd rfl (Or.inl rfl) (br aG (az (pv 0) rfl) (pv 1) (λ_ _=>rfl)))
  (ai (bK (fS (iI (pv 4) T.i9 T.cD (aO.mono (k:=2) (by decide)) hr T.bR .nil aS)) (au (aM (bh (pv 0) T.bX T.vc (nB.mono (k:=2) (by decide)) hr T.jt .nil aS (aj (az (pv 4) rfl) (aj (pv 3) aA))))) aY)
  (au (aM (rM nM (az (pv 4) rfl) (aR rfl T.AI) (aZ _)))))))))
def nc (K:W.Frag) (t:Adr) (S:Sps):TS:=
 (aK (cP (tOr (bw (tOp rEq (aa 2) (tC (.int (-1))))) (tB (bD t.bA "is_history" S.aL [] E0 (tOp (bY K) (aN K (aa 0) "states") (aa 2)) aJ))) (bG (tC (.bl false))) bL)
  (bG (bD t.aE "is_within" S.fQ [] E0 (aa 0) (aB (aa 2) (aB (aa 1) aJ)))))
theorem tK:aW ["self","parent","target"] ["self","parent","target"] (ah cC):=by trivial
theorem IM {S:Sps} (T:Txt K mg t) (o8:aQ P w K mg base CX0 1 t.cA t.j8 ["self","state","outer"] S.fQ) (aO:aQ P w K mg base CX0 1 t.bf t.bP ["self"] S.aL) (len:∀ vs H Q E,S.eU vs H Q E->vs.length=3)
  (rd:∀ vs H Q E,S.eU vs H Q E->nc K t S { nx:=λ_ H'=>Q .non H',rt:=Q } (start ["self","parent","target"] vs) H) :
  aQ P w K mg base CX0 2 t.cg t.jy ["self","parent","target"] S.eU:=by
 refine T.gF.ok tK len (λcdv A outer s H vs Q E hr h=>⟨_,?_,rd vs H Q E h⟩)
 have nd:=tK.nd
 have hu:=bS hr
 exact (ai (bK (PW.pt (Bb (aU cG (pv 2) (aR rfl T.fB) (aZ _)) (xC (fS (iI (br aG (az (pv 0) rfl) (pv 2) (λ_ _=>rfl)) T.i9 T.cD (aO.mono (k:=1) (by decide)) hr T.bR .nil aS))))) (au (aM AQ)) aY)
  (au (aM (bh (pv 0) T.bX T.yb (o8.mono (k:=1) (by decide)) hr T.j9 .nil aS (aj (pv 2) (aj (pv 1) aA))))))
def agI (K:W.Frag) (t:Adr) (S:Sps):TS:=
 (bG (tOp (rI anQ λi j=>.int (i * 2 ^ j.toNat)) (tC (.int 1)) (aa 0)))
theorem ah7:aW ["state"] ["state"] (ah BH):=by trivial
theorem anx {S:Sps} (T:Txt K mg t) (len:∀ vs H Q E,S.mark vs H Q E->vs.length=1)
  (rd:∀ vs H Q E,S.mark vs H Q E->agI K t S { nx:=λ_ H'=>Q .non H',rt:=Q } (start ["state"] vs) H) :
  aQ P w K mg base CX0 1 t.gC t.kr ["state"] S.mark:=by
 refine T.TX.ok ah7 len (λcdv A outer s H vs Q E hr h=>⟨_,?_,rd vs H Q E h⟩)
 have nd:=ah7.nd
 have hu:=bS hr
 exact (au (aM (cS aou aF (pv 0))))
def Lj (K:W.Frag) (t:Adr) (S:Sps):TS:=
 (aK (c5 (tC (.int 0)) (aX 1))
  (aK (uA (jn K (aa 0)) (aX 2) (QU 1 (cW S.mark [] E0 (aB (aa 2) aJ)) (ipI λi j=>Builtin.bitOr i j)))
  (bG (aa 1))))
theorem QS:aW ["states","found","state"] ["states"] (ah ju):=by trivial
theorem ad0 {S:Sps} (T:Txt K mg t) (bQ:aQ P w K mg base CX0 1 t.gC t.kr ["state"] S.mark) (len:∀ vs H Q E,S.oX vs H Q E->vs.length=1)
  (rd:∀ vs H Q E,S.oX vs H Q E->Lj K t S { nx:=λ_ H'=>Q .non H',rt:=Q } (start ["states","found","state"] vs) H) :
  aQ P w K mg base CX0 2 t.iX t.Cg ["states"] S.oX:=by
 refine T.uX.ok QS len (λcdv A outer s H vs Q E hr h=>⟨_,?_,rd vs H Q E h⟩)
 have nd:=QS.nd
 have hu:=bS hr
 exact (ai (bE (i:=1) nd rfl (Or.inl rfl) aF)
  (ai (gU PassesOwn.never rfl (dI (pv 0)) (bT (i:=2) nd rfl (Or.inl rfl)) (au (Fq (i:=1) nd rfl (Or.inl rfl) (bC (bQ.mono (k:=1) (by decide)) hr rfl T.fJ T.jl T.gR .nil aS (aj (pv 2) aA)) Ql)))
  (au (aM (pv 1)))))
def U3 (K:W.Frag) (t:Adr) (S:Sps):TS:=
 (aK (c5 (kC aJ) (aX 1))
  (aK (c5 (aa 0) (aX 2))
  (aK (GZ (bw (tOp rNe (aa 2) (tC (.int 0)))) (aK (c5 (tOp (rI0 λi j=>.int (Builtin.bitAnd i j)) (aa 2) (tUn (rU λi=>.int (-i)) (aa 2))) (aX 3))
  (aK (fT (tBM K "list" eX (aa 1) (aB (tOp (rI0 λi j=>.int (i - j)) (amd K "int" ah8 (aa 3)) (tC (.int 1))) aJ)))
  (QU 2 (aa 3) (ipI λi j=>i - j)))))
  (bG (aa 1)))))
theorem WW:aW ["found","states","rest","least"] ["found"] (ah pC):=by trivial
theorem aiV {S:Sps} (T:Txt K mg t) (len:∀ vs H Q E,S.marked vs H Q E->vs.length=1)
  (rd:∀ vs H Q E,S.marked vs H Q E->U3 K t S { nx:=λ_ H'=>Q .non H',rt:=Q } (start ["found","states","rest","least"] vs) H) :
  aQ P w K mg base CX0 1 t.jc t.vJ ["found"] S.marked:=by
 refine T.EE.ok WW len (λcdv A outer s H vs Q E hr h=>⟨_,?_,rd vs H Q E h⟩)
 have nd:=WW.nd
 have hu:=bS hr
 exact (ai (bE (i:=1) nd rfl (Or.inl rfl) (dM aA))
  (ai (bE (i:=2) nd rfl (Or.inl rfl) (pv 0))
  (ai (wQ PassesOwn.never (aU nM (pv 2) aF (aZ _)) (ai (bE (i:=3) nd rfl (Or.inl rfl) (cS gQ (pv 2) (Jf aaj (pv 2))))
  (ai (cO (qh PySem.F.plainAttrs_list PySem.F.slot_list_append PySem.F.type_list_append dH (pv 1) (aj (cS Gu (alc PySem.F.plainAttrs_int PySem.F.slot_int_bit_length PySem.F.type_int_bit_length aiq (pv 3)) aF) aA)))
  (au (Fq (i:=2) nd rfl (Or.inl rfl) (pv 3) aoh)))))
  (au (aM (pv 1))))))
def wO (K:W.Frag) (t:Adr) (S:Sps):TS:=
 (aK (c5 (kC (aB (tC (.int 0)) aJ)) (aX 1))
  (aK (uA (jn K (tSl (ajJ K) (aa 0) (Sf (tC (.int 1))) NN)) (aX 2) (fT (tBM K "list" eX (aa 1) (aB (tOp (rI0 λi j=>.int (Builtin.bitOr i j)) (tOp (bY K) (aa 1) (aN K (aa 2) "parent")) (cW S.mark [] E0 (aB (aN K (aa 2) "parent") aJ))) aJ))))
  (bG (aa 1))))
theorem DA:aW ["states","around","one"] ["states"] (ah d7):=by trivial
theorem Q0 {S:Sps} (T:Txt K mg t) (bQ:aQ P w K mg base CX0 1 t.gC t.kr ["state"] S.mark) (len:∀ vs H Q E,S.jE vs H Q E->vs.length=1)
  (rd:∀ vs H Q E,S.jE vs H Q E->wO K t S { nx:=λ_ H'=>Q .non H',rt:=Q } (start ["states","around","one"] vs) H) :
  aQ P w K mg base CX0 2 t.c7 t.qf ["states"] S.jE:=by
 refine T.kI.ok DA len (λcdv A outer s H vs Q E hr h=>⟨_,?_,rd vs H Q E h⟩)
 have nd:=DA.nd
 have hu:=bS hr
 exact (ai (bE (i:=1) nd rfl (Or.inl rfl) (dM (aj aF aA)))
  (ai (gU PassesOwn.never rfl (dI (NI RX (pv 0) (N3 aF) ZU)) (bT (i:=2) nd rfl (Or.inl rfl)) (au (cO (qh PySem.F.plainAttrs_list PySem.F.slot_list_append PySem.F.type_list_append dH (pv 1) (aj (cS ahP (br aG (pv 1) (az (pv 2) rfl) (λ_ _=>rfl)) (bC (bQ.mono (k:=1) (by decide)) hr rfl T.fJ T.jl T.gR .nil aS (aj (az (pv 2) rfl) aA))) aA)))))
  (au (aM (pv 1)))))
def zV (K:W.Frag) (t:Adr) (S:Sps):TS:=
 (aK (c5 (tLc (jn K (aa 0)) (aX 3) abv (tC (.int 0)) [3]) (aX 1))
  (aK (uA (ahM (aB (tOp (rI0 λi j=>.int (i - j)) (tCB (FP K) (aB (aa 0) aJ)) (tC (.int 1))) (aB (tC (.int 0)) (aB (tUn (rU λi=>.int (-i)) (tC (.int 1))) aJ)))) (aX 2) (aki (aa 1) (aN K (tOp (bY K) (aa 0) (aa 2)) "parent") (tOp (rI0 λi j=>.int (Builtin.bitOr i j)) (tOp (bY K) (aa 1) (aa 2)) (cW S.mark [] E0 (aB (aa 2) aJ))) (ao9 K) (ipI λi j=>Builtin.bitOr i j) Xy))
  (bG (aa 1))))
theorem Fz:aW ["states","inner","number","one"] ["states"] (ah eW):=by trivial
theorem UK {S:Sps} (T:Txt K mg t) (bQ:aQ P w K mg base CX0 1 t.gC t.kr ["state"] S.mark) (len:∀ vs H Q E,S.kO vs H Q E->vs.length=1)
  (rd:∀ vs H Q E,S.kO vs H Q E->zV K t S { nx:=λ_ H'=>Q .non H',rt:=Q } (start ["states","inner","number","one"] vs) H) :
  aQ P w K mg base CX0 2 t.dO t.rO ["states"] S.kO:=by
 refine T.lR.ok Fz len (λcdv A outer s H vs Q E hr h=>⟨_,?_,rd vs H Q E h⟩)
 have nd:=Fz.nd
 have hu:=bS hr
 exact (ai (SX (i:=1) rfl nd rfl rfl (ZM rfl rfl rfl rfl) (dI (pv 0)) (o4 (own:=[("one",3)]) rfl) (λ_ _ _ _ _=>(bT (i:=3) nd rfl (Or.inl rfl))) (λ_ _ _ _ _=>RY) (λ_ _ _ _ _=>aF))
  (ai (gU PassesOwn.never rfl (XE rfl T.rS (aj (cS Gu (fU ck rfl T.iT PySem.boot_len (aj (pv 0) aA)) aF) (aj aF (aj (Jf aaj aF) aA)))) (bT (i:=2) nd rfl (Or.inl rfl)) (au (al1 (pv 1) (az (br aG (pv 0) (pv 2) (λ_ _=>rfl)) rfl) alM (cS ahP (br aG (pv 1) (pv 2) (λ_ _=>rfl)) (bC (bQ.mono (k:=1) (by decide)) hr rfl T.fJ T.jl T.gR .nil aS (aj (pv 2) aA))) Ql set_list)))
  (au (aM (pv 1)))))
def E2 (K:W.Frag) (t:Adr) (S:Sps):TS:=
 (aK (c5 (tLc (jn K (aN K (aa 0) "states")) (aX 4) abv (kC aJ) [4]) (aX 1))
  (aK (uA (afw K (aB (aN K (aa 0) "ways") aJ)) (ael K 2 (wI (aX 2) (wI (aX 3) abo))) (fT (tBM K "list" eX (tOp (bY K) (aa 1) (aN K (aa 3) "source")) (aB (aa 2) aJ))))
  (bG (aa 1))))
theorem Nt:aW ["chart","numbers","number","way","one"] ["chart"] (ah iJ):=by trivial
theorem XY {S:Sps} (T:Txt K mg t) (len:∀ vs H Q E,S.j3 vs H Q E->vs.length=1)
  (rd:∀ vs H Q E,S.j3 vs H Q E->E2 K t S { nx:=λ_ H'=>Q .non H',rt:=Q } (start ["chart","numbers","number","way","one"] vs) H) :
  aQ P w K mg base CX0 1 t.fE t.rW ["chart"] S.j3:=by
 refine T.sD.ok Nt len (λcdv A outer s H vs Q E hr h=>⟨_,?_,rd vs H Q E h⟩)
 have nd:=Nt.nd
 have hu:=bS hr
 exact (ai (SX (i:=1) rfl nd rfl rfl (ZM rfl rfl rfl rfl) (dI (az (pv 0) rfl)) (o4 (own:=[("one",4)]) rfl) (λ_ _ _ _ _=>(bT (i:=4) nd rfl (Or.inl rfl))) (λ_ _ _ _ _=>RY) (λ_ _ _ _ _=>(dM aA)))
  (ai (gU PassesOwn.never rfl (abj rfl T.iK (aj (az (pv 0) rfl) aA)) (UD rfl (kH (bT (i:=2) nd rfl (Or.inl rfl)) (kH (bT (i:=3) nd rfl (Or.inl rfl)) Nu))) (au (cO (qh PySem.F.plainAttrs_list PySem.F.slot_list_append PySem.F.type_list_append dH (br aG (pv 1) (az (pv 3) rfl) (λ_ _=>rfl)) (aj (pv 2) aA)))))
  (au (aM (pv 1)))))
def Tz (K:W.Frag) (t:Adr) (S:Sps):TS:=
 (aK (c5 BL (aX 2))
  (aK (c5 (cW S.j3 [] E0 (aB (aa 0) aJ)) (aX 3))
  (aK (uA (jn K (aa 1)) (aX 4) (aK (c5 (aa 4) (aX 5))
  (GZ (bw (tOp rNe (aa 5) (tC (.int (-1))))) (aK (uA (jn K (tOp (bY K) (aa 3) (aa 5))) (aX 6) (aK (c5 (abT (aa 2) (aN K (tOp (bY K) (aN K (aa 0) "ways") (aa 6)) "event") BL) (aX 7))
  (fT (tBM K "list" eX (abT (aa 7) (cW S.mark [] E0 (aB (aa 4) aJ)) (kC aJ)) (aB (aa 6) aJ)))))
  (c5 (aN K (tOp (bY K) (aN K (aa 0) "states") (aa 5)) "parent") (aX 5))))))
  (bG (aa 2)))))
theorem WN:aW ["chart","plain","found","own","state","at","number","by_place"] ["chart","plain"] (ah pV):=by trivial
theorem aiU {S:Sps} (T:Txt K mg t) (bQ:aQ P w K mg base CX0 1 t.gC t.kr ["state"] S.mark) (nO:aQ P w K mg base CX0 1 t.fE t.rW ["chart"] S.j3) (len:∀ vs H Q E,S.Gf vs H Q E->vs.length=2)
  (rd:∀ vs H Q E,S.Gf vs H Q E->Tz K t S { nx:=λ_ H'=>Q .non H',rt:=Q } (start ["chart","plain","found","own","state","at","number","by_place"] vs) H) :
  aQ P w K mg base CX0 2 t.l8 t.LU ["chart","plain"] S.Gf:=by
 refine T.HD.ok WN len (λcdv A outer s H vs Q E hr h=>⟨_,?_,rd vs H Q E h⟩)
 have nd:=WN.nd
 have hu:=bS hr
 exact (ai (bE (i:=2) nd rfl (Or.inl rfl) Ng)
  (ai (bE (i:=3) nd rfl (Or.inl rfl) (bC (nO.mono (k:=1) (by decide)) hr rfl T.BI T.E6 T.rQ .nil aS (aj (pv 0) aA)))
  (ai (gU PassesOwn.never rfl (dI (pv 1)) (bT (i:=4) nd rfl (Or.inl rfl)) (ai (bE (i:=5) nd rfl (Or.inl rfl) (pv 4))
  (au (wQ PassesOwn.never (aU nM (pv 5) (aR rfl T.fB) (aZ _)) (ai (gU PassesOwn.never rfl (dI (br aG (pv 3) (pv 5) (λ_ _=>rfl))) (bT (i:=6) nd rfl (Or.inl rfl)) (ai (bE (i:=7) nd rfl (Or.inl rfl) (afR (pv 2) (az (br aG (az (pv 0) rfl) (pv 6) (λ_ _=>rfl)) rfl) Ng ⟨rfl,rfl,rfl,rfl⟩))
  (au (cO (qh PySem.F.plainAttrs_list PySem.F.slot_list_append PySem.F.type_list_append dH (afR (pv 7) (bC (bQ.mono (k:=1) (by decide)) hr rfl T.fJ T.jl T.gR .nil aS (aj (pv 4) aA)) (dM aA) ⟨rfl,rfl,rfl,rfl⟩) (aj (pv 6) aA))))))
  (au (bE (i:=5) nd rfl (Or.inl rfl) (az (br aG (az (pv 0) rfl) (pv 5) (λ_ _=>rfl)) rfl))))))))
  (au (aM (pv 2))))))
def zw (K:W.Frag) (t:Adr) (S:Sps):TS:=
 (aK (c5 (cW S.j3 [] E0 (aB (aa 0) aJ)) (aX 1))
  (aK (c5 (kC aJ) (aX 2))
  (aK (uA (afw K (aB (aN K (aa 0) "states") aJ)) (ael K 2 (wI (aX 3) (wI (aX 4) abo))) (cP (pK (tB (bD t.bA "is_history" S.aL [] E0 (aa 4) aJ))) (fT (tBM K "list" eX (aa 2) (aB (cW S.mark [] E0 (aB (aa 3) aJ)) aJ))) (cP (Ag K (tOp (bY K) (aa 1) (aa 3))) (fT (tBM K "list" eX (aa 2) (aB (cW S.mark [] E0 (aB (aN K (tOp (bY K) (aN K (aa 0) "ways") (tOp (bY K) (tOp (bY K) (aa 1) (aa 3)) (tC (.int 0)))) "target") aJ)) aJ))) (fT (tBM K "list" eX (aa 2) (aB (cW S.mark [] E0 (aB (bD t.aE "beginning" S.cU [] E0 (aa 0) (aB (aN K (aa 4) "parent") aJ)) aJ)) aJ))))))
  (bG (aa 2)))))
theorem FE:aW ["chart","own","leads","number","one"] ["chart"] (ah fh):=by trivial
theorem Sz {S:Sps} (T:Txt K mg t) (fM:aQ P w K mg base CX0 3 t.bZ t.iA ["self","state"] S.cU) (aO:aQ P w K mg base CX0 1 t.bf t.bP ["self"] S.aL) (bQ:aQ P w K mg base CX0 1 t.gC t.kr ["state"] S.mark) (nO:aQ P w K mg base CX0 1 t.fE t.rW ["chart"] S.j3) (len:∀ vs H Q E,S.jm vs H Q E->vs.length=1)
  (rd:∀ vs H Q E,S.jm vs H Q E->zw K t S { nx:=λ_ H'=>Q .non H',rt:=Q } (start ["chart","own","leads","number","one"] vs) H) :
  aQ P w K mg base CX0 4 t.dQ t.rK ["chart"] S.jm:=by
 refine T.l9.ok FE len (λcdv A outer s H vs Q E hr h=>⟨_,?_,rd vs H Q E h⟩)
 have nd:=FE.nd
 have hu:=bS hr
 exact (ai (bE (i:=1) nd rfl (Or.inl rfl) (bC (nO.mono (k:=3) (by decide)) hr rfl T.BI T.E6 T.rQ .nil aS (aj (pv 0) aA)))
  (ai (bE (i:=2) nd rfl (Or.inl rfl) (dM aA))
  (ai (gU PassesOwn.never rfl (abj rfl T.iK (aj (az (pv 0) rfl) aA)) (UD rfl (kH (bT (i:=3) nd rfl (Or.inl rfl)) (kH (bT (i:=4) nd rfl (Or.inl rfl)) Nu))) (au (bK (fH (fS (iI (pv 4) T.i9 T.cD (aO.mono (k:=3) (by decide)) hr T.bR .nil aS))) (au (cO (qh PySem.F.plainAttrs_list PySem.F.slot_list_append PySem.F.type_list_append dH (pv 2) (aj (bC (bQ.mono (k:=3) (by decide)) hr rfl T.fJ T.jl T.gR .nil aS (aj (pv 3) aA)) aA)))) (au (bK (GA (br aG (pv 1) (pv 3) (λ_ _=>rfl)) (by intro _;rfl)) (au (cO (qh PySem.F.plainAttrs_list PySem.F.slot_list_append PySem.F.type_list_append dH (pv 2) (aj (bC (bQ.mono (k:=3) (by decide)) hr rfl T.fJ T.jl T.gR .nil aS (aj (az (br aG (az (pv 0) rfl) (br aG (br aG (pv 1) (pv 3) (λ_ _=>rfl)) aF (λ_ _=>rfl)) (λ_ _=>rfl)) rfl) aA)) aA)))) (au (cO (qh PySem.F.plainAttrs_list PySem.F.slot_list_append PySem.F.type_list_append dH (pv 2) (aj (bC (bQ.mono (k:=3) (by decide)) hr rfl T.fJ T.jl T.gR .nil aS (aj (bh (pv 0) T.bX T.oB (fM.mono (k:=3) (by decide)) hr T.iL .nil aS (aj (az (pv 4) rfl) aA)) aA)) aA)))))))))
  (au (aM (pv 2))))))
def F5 (K:W.Frag) (t:Adr) (S:Sps):TS:=
 (aK (c5 (tLR (aB (tCB (FP K) (aB (aN K (aa 1) "states") aJ)) aJ)) (aX 2))
  (aK (fm K (aa 0) (aN K (aa 1) "states") "states")
  (aK (fm K (aa 0) (aN K (aa 1) "ways") "ways")
  (aK (fm K (aa 0) (cW S.jE [] E0 (aB (aN K (aa 1) "states") aJ)) "around")
  (aK (fm K (aa 0) (cW S.kO [] E0 (aB (aN K (aa 1) "states") aJ)) "inner")
  (aK (fm K (aa 0) (tLc (jn K (aa 2)) (aX 3) abv (cW S.oX [] E0 (aB (bD t.aE "parts" S.cB [] E0 (aa 1) (aB (aa 3) aJ)) aJ)) [3]) "inner_parts")
  (aK (fm K (aa 0) (tLc (jn K (aa 2)) (aX 3) abv (bD t.aE "beginning" S.cU [] E0 (aa 1) (aB (aa 3) aJ)) [3]) "firsts")
  (aK (fm K (aa 0) (cW S.oX [] E0 (aB (tLc (jn K (aa 2)) (aX 3) (bw (tOp rEq (aN K (tOp (bY K) (aN K (aa 1) "states") (aa 3)) "kind") (tC (.int (2))))) (aa 3) [3]) aJ)) "ends")
  (aK (fm K (aa 0) (cW S.oX [] E0 (aB (tLc (jn K (aa 2)) (aX 3) (bw (tOp rEq (tOp (bY K) (aN K (aa 0) "firsts") (aa 3)) (tC (.int (-1))))) (aa 3) [3]) aJ)) "plain")
  (aK (fm K (aa 0) (tLc (jn K (aa 2)) (aX 3) (tB (bD t.bA "is_history" S.aL [] E0 (tOp (bY K) (aN K (aa 1) "states") (aa 3)) aJ)) (aa 3) [3]) "histories")
  (aK (fm K (aa 0) (cW S.jm [] E0 (aB (aa 1) aJ)) "first_leads")
  (fm K (aa 0) (cW S.Gf [] E0 (aB (aa 1) (aB (cW S.marked [] E0 (aB (aN K (aa 0) "plain") aJ)) aJ))) "offers"))))))))))))
theorem MJ:aW ["self","chart","numbers","number"] ["self","chart"] (ah gX):=by trivial
theorem YN {S:Sps} (T:Txt K mg t) (fM:aQ P w K mg base CX0 3 t.bZ t.iA ["self","state"] S.cU) (cK:aQ P w K mg base CX0 2 t.cM t.iS ["self","state"] S.cB) (aO:aQ P w K mg base CX0 1 t.bf t.bP ["self"] S.aL) (xH:aQ P w K mg base CX0 2 t.c7 t.qf ["states"] S.jE) (zQ:aQ P w K mg base CX0 4 t.dQ t.rK ["chart"] S.jm) (zT:aQ P w K mg base CX0 2 t.dO t.rO ["states"] S.kO) (jS:aQ P w K mg base CX0 1 t.jc t.vJ ["found"] S.marked) (vA:aQ P w K mg base CX0 2 t.iX t.Cg ["states"] S.oX) (SW:aQ P w K mg base CX0 2 t.l8 t.LU ["chart","plain"] S.Gf) (len:∀ vs H Q E,S.qK vs H Q E->vs.length=2)
  (rd:∀ vs H Q E,S.qK vs H Q E->F5 K t S { nx:=λ_ H'=>Q .non H',rt:=Q } (start ["self","chart","numbers","number"] vs) H) :
  aQ P w K mg base CX0 5 t.gm t.yS ["self","chart"] S.qK:=by
 refine T.kX.ok MJ len (λcdv A outer s H vs Q E hr h=>⟨_,?_,rd vs H Q E h⟩)
 have nd:=MJ.nd
 have hu:=bS hr
 exact (ai (bE (i:=2) nd rfl (Or.inl rfl) (abh rfl rfl T.rS rfl T.yN (aj (fU ck rfl T.iT PySem.boot_len (aj (az (pv 1) rfl) aA)) aA)))
  (ai (bV (pv 0) (az (pv 1) rfl) rfl)
  (ai (bV (pv 0) (az (pv 1) rfl) rfl)
  (ai (bV (pv 0) (bC (xH.mono (k:=4) (by decide)) hr rfl T.DI T.HE T.pJ .nil aS (aj (az (pv 1) rfl) aA)) rfl)
  (ai (bV (pv 0) (bC (zT.mono (k:=4) (by decide)) hr rfl T.Fx T.JE T.rL .nil aS (aj (az (pv 1) rfl) aA)) rfl)
  (ai (bV (pv 0) (Xa rfl nd (dI (pv 2)) (o4 (own:=[("number",3)]) rfl) (λ_ _ _ _ _=>(bT (i:=3) nd rfl (Or.inl rfl))) (λ_ _ _ _ _=>RY) (λ_ _ _ _ _=>(bC (vA.mono (k:=4) (by decide)) hr rfl T.zk T.Bt T.qv .nil aS (aj (bh (pv 1) T.bX T.jZ (cK.mono (k:=4) (by decide)) hr T.gj .nil aS (aj (pv 3) aA)) aA)))) rfl)
  (ai (bV (pv 0) (Xa rfl nd (dI (pv 2)) (o4 (own:=[("number",3)]) rfl) (λ_ _ _ _ _=>(bT (i:=3) nd rfl (Or.inl rfl))) (λ_ _ _ _ _=>RY) (λ_ _ _ _ _=>(bh (pv 1) T.bX T.oB (fM.mono (k:=4) (by decide)) hr T.iL .nil aS (aj (pv 3) aA)))) rfl)
  (ai (bV (pv 0) (bC (vA.mono (k:=4) (by decide)) hr rfl T.zk T.Bt T.qv .nil aS (aj (Xa rfl nd (dI (pv 2)) (o4 (own:=[("number",3)]) rfl) (λ_ _ _ _ _=>(bT (i:=3) nd rfl (Or.inl rfl))) (λ_ _ _ _ _=>(LH (aU cG (az (br aG (az (pv 1) rfl) (pv 3) (λ_ _=>rfl)) rfl) (aR rfl T.AI) (aZ _)))) (λ_ _ _ _ _=>(pv 3))) aA)) rfl)
  (ai (bV (pv 0) (bC (vA.mono (k:=4) (by decide)) hr rfl T.zk T.Bt T.qv .nil aS (aj (Xa rfl nd (dI (pv 2)) (o4 (own:=[("number",3)]) rfl) (λ_ _ _ _ _=>(bT (i:=3) nd rfl (Or.inl rfl))) (λ_ _ _ _ _=>(LH (aU cG (br aG (az (pv 0) rfl) (pv 3) (λ_ _=>rfl)) (aR rfl T.fB) (aZ _)))) (λ_ _ _ _ _=>(pv 3))) aA)) rfl)
  (ai (bV (pv 0) (Xa rfl nd (dI (pv 2)) (o4 (own:=[("number",3)]) rfl) (λ_ _ _ _ _=>(bT (i:=3) nd rfl (Or.inl rfl))) (λ_ _ _ _ _=>(LH (fS (iI (br aG (az (pv 1) rfl) (pv 3) (λ_ _=>rfl)) T.i9 T.cD (aO.mono (k:=4) (by decide)) hr T.bR .nil aS)))) (λ_ _ _ _ _=>(pv 3))) rfl)
  (ai (bV (pv 0) (bC (zQ.mono (k:=4) (by decide)) hr rfl T.Ga T.Jb T.rJ .nil aS (aj (pv 1) aA)) rfl)
  (au (bV (pv 0) (bC (SW.mono (k:=4) (by decide)) hr rfl T.Xj T.aeZ T.NV .nil aS (aj (pv 1) (aj (bC (jS.mono (k:=4) (by decide)) hr rfl T.Bk T.DZ T.v8 .nil aS (aj (az (pv 0) rfl) aA)) aA))) rfl)))))))))))))
def vp (K:W.Frag) (t:Adr) (S:Sps):TS:=
 (aK (c5 (aN K (tOp (bY K) (aN K (aa 0) "states") (aa 1)) "parent") (aX 3))
  (aK (GZ (tOr (bw (tOp rNe (aN K (tOp (bY K) (aN K (aa 0) "states") (aa 3)) "kind") (tC (.int (0))))) (bw (tOp rNe (tOp (rI0 λi j=>.int (Builtin.bitAnd i j)) (aa 2) (tUn (rU λi=>.int (Builtin.bitNot i)) (tOp (bY K) (aN K (aa 0) "inner") (aa 3)))) (tC (.int 0))))) (c5 (aN K (tOp (bY K) (aN K (aa 0) "states") (aa 3)) "parent") (aX 3)))
  (bG (aa 3))))
theorem DN:aW ["self","source","leads","at"] ["self","source","leads"] (ah dX):=by trivial
theorem Rt {S:Sps} (T:Txt K mg t) (len:∀ vs H Q E,S.jA vs H Q E->vs.length=3)
  (rd:∀ vs H Q E,S.jA vs H Q E->vp K t S { nx:=λ_ H'=>Q .non H',rt:=Q } (start ["self","source","leads","at"] vs) H) :
  aQ P w K mg base CX0 1 t.dg t.ou ["self","source","leads"] S.jA:=by
 refine T.kJ.ok DN len (λcdv A outer s H vs Q E hr h=>⟨_,?_,rd vs H Q E h⟩)
 have nd:=DN.nd
 have hu:=bS hr
 exact (ai (bE (i:=3) nd rfl (Or.inl rfl) (az (br aG (az (pv 0) rfl) (pv 1) (λ_ _=>rfl)) rfl))
  (ai (wQ PassesOwn.never (PW.pt (Bb (aU nM (az (br aG (az (pv 0) rfl) (pv 3) (λ_ _=>rfl)) rfl) (aR rfl T.iz) (aZ _)) (xC (aU nM (cS gQ (pv 2) (Jf O0 (br aG (az (pv 0) rfl) (pv 3) (λ_ _=>rfl)))) aF (aZ _))))) (au (bE (i:=3) nd rfl (Or.inl rfl) (az (br aG (az (pv 0) rfl) (pv 3) (λ_ _=>rfl)) rfl))))
  (au (aM (pv 3)))))
def zX (K:W.Frag) (t:Adr) (S:Sps):TS:=
 (aK (c5 (aa 1) (aX 2))
  (aK (c5 (aa 1) (aX 3))
  (aK (GZ (bw (tOp rNe (aa 3) (tC (.int 0)))) (aK (c5 (tOp (rI0 λi j=>.int (Builtin.bitAnd i j)) (aa 3) (tUn (rU λi=>.int (-i)) (aa 3))) (aX 4))
  (aK (c5 (bD t.bz "brought" S.jF [] E0 (aa 0) (aB (tOp (rI0 λi j=>.int (i - j)) (amd K "int" ah8 (aa 4)) (tC (.int 1))) (aB (aa 2) aJ))) (aX 5))
  (aK (QU 2 (aa 5) (ipI λi j=>Builtin.bitOr i j))
  (c5 (tOp (rI0 λi j=>.int (Builtin.bitOr i j)) (tOp (rI0 λi j=>.int (Builtin.bitAnd i j)) (aa 3) (tUn (rU λi=>.int (Builtin.bitNot i)) (aa 4))) (aa 5)) (aX 3))))))
  (bG (aa 2)))))
theorem Gb:aW ["self","come_to","found","rest","least","brought"] ["self","come_to"] (ah fq):=by trivial
theorem Uj {S:Sps} (T:Txt K mg t) (vf:aQ P w K mg base CX0 2 t.dj t.nZ ["self","state","come_to"] S.jF) (len:∀ vs H Q E,S.gg vs H Q E->vs.length=2)
  (rd:∀ vs H Q E,S.gg vs H Q E->zX K t S { nx:=λ_ H'=>Q .non H',rt:=Q } (start ["self","come_to","found","rest","least","brought"] vs) H) :
  aQ P w K mg base CX0 3 t.dh t.mz ["self","come_to"] S.gg:=by
 refine T.mw.ok Gb len (λcdv A outer s H vs Q E hr h=>⟨_,?_,rd vs H Q E h⟩)
 have nd:=Gb.nd
 have hu:=bS hr
 exact (ai (bE (i:=2) nd rfl (Or.inl rfl) (pv 1))
  (ai (bE (i:=3) nd rfl (Or.inl rfl) (pv 1))
  (ai (wQ PassesOwn.never (aU nM (pv 3) aF (aZ _)) (ai (bE (i:=4) nd rfl (Or.inl rfl) (cS gQ (pv 3) (Jf aaj (pv 3))))
  (ai (bE (i:=5) nd rfl (Or.inl rfl) (bh (pv 0) T.Cd T.Et (vf.mono (k:=2) (by decide)) hr T.oA .nil aS (aj (cS Gu (alc PySem.F.plainAttrs_int PySem.F.slot_int_bit_length PySem.F.type_int_bit_length aiq (pv 4)) aF) (aj (pv 2) aA))))
  (ai (Fq (i:=2) nd rfl (Or.inl rfl) (pv 5) Ql)
  (au (bE (i:=3) nd rfl (Or.inl rfl) (cS ahP (cS gQ (pv 3) (Jf O0 (pv 4))) (pv 5))))))))
  (au (aM (pv 2))))))
def vV (K:W.Frag) (t:Adr) (S:Sps):TS:=
 (aK (cP (bw (tOp rEq (tOp (bY K) (aN K (aa 0) "firsts") (aa 1)) (tC (.int (-1))))) (bG (tC (.int 0))) bL)
  (aK (cP (bw (tOp rEq (aN K (tOp (bY K) (aN K (aa 0) "states") (aa 1)) "kind") (tC (.int (1))))) (bG (tOp (bY K) (aN K (aa 0) "inner_parts") (aa 1))) bL)
  (bG (tIf (bw (tOp rNe (tOp (rI0 λi j=>.int (Builtin.bitAnd i j)) (aa 2) (tOp (bY K) (aN K (aa 0) "inner") (aa 1))) (tC (.int 0)))) (tC (.int 0)) (cW S.mark [] E0 (aB (tOp (bY K) (aN K (aa 0) "firsts") (aa 1)) aJ))))))
theorem DO:aW ["self","state","come_to"] ["self","state","come_to"] (ah eB):=by trivial
theorem QV {S:Sps} (T:Txt K mg t) (bQ:aQ P w K mg base CX0 1 t.gC t.kr ["state"] S.mark) (len:∀ vs H Q E,S.jF vs H Q E->vs.length=3)
  (rd:∀ vs H Q E,S.jF vs H Q E->vV K t S { nx:=λ_ H'=>Q .non H',rt:=Q } (start ["self","state","come_to"] vs) H) :
  aQ P w K mg base CX0 2 t.dj t.nZ ["self","state","come_to"] S.jF:=by
 refine T.kR.ok DO len (λcdv A outer s H vs Q E hr h=>⟨_,?_,rd vs H Q E h⟩)
 have nd:=DO.nd
 have hu:=bS hr
 exact (ai (bK (aU cG (br aG (az (pv 0) rfl) (pv 1) (λ_ _=>rfl)) (aR rfl T.fB) (aZ _)) (au (aM aF)) aY)
  (ai (bK (aU cG (az (br aG (az (pv 0) rfl) (pv 1) (λ_ _=>rfl)) rfl) (aR rfl T.dF) (aZ _)) (au (aM (br aG (az (pv 0) rfl) (pv 1) (λ_ _=>rfl)))) aY)
  (au (aM (Fb (aU nM (cS gQ (pv 2) (br aG (az (pv 0) rfl) (pv 1) (λ_ _=>rfl))) aF (aZ _)) aF (bC (bQ.mono (k:=1) (by decide)) hr rfl T.fJ T.jl T.gR .nil aS (aj (br aG (az (pv 0) rfl) (pv 1) (λ_ _=>rfl)) aA)))))))
def qy (K:W.Frag) (t:Adr) (S:Sps):TS:=
 (aK (c5 (tC (.int 0)) (aX 3))
  (aK (uA (ahM (aB (tOp (rI0 λi j=>.int (i - j)) (tCB (FP K) (aB (aN K (aa 0) "states") aJ)) (tC (.int 1))) (aB (tOp (rI0 λi j=>.int (i - j)) (aa 1) (tC (.int 1))) (aB (tUn (rU λi=>.int (-i)) (tC (.int 1))) aJ)))) (aX 4) (aK (c5 (tOp (bY K) (aN K (aa 0) "inner_parts") (aa 4)) (aX 5))
  (cP (bw (tOp rEq (aN K (tOp (bY K) (aN K (aa 0) "states") (aa 4)) "kind") (tC (.int (1))))) (cP (bw (tOp rEq (tOp (rI0 λi j=>.int (Builtin.bitAnd i j)) (aa 5) (tUn (rU λi=>.int (Builtin.bitNot i)) (aa 3))) (tC (.int 0)))) (QU 3 (cW S.mark [] E0 (aB (aa 4) aJ)) (ipI λi j=>Builtin.bitOr i j)) bL) (cP (bw (tOp rNe (tOp (rI0 λi j=>.int (Builtin.bitAnd i j)) (tOp (rI0 λi j=>.int (Builtin.bitAnd i j)) (aa 5) (aN K (aa 0) "ends")) (aa 2)) (tC (.int 0)))) (QU 3 (cW S.mark [] E0 (aB (aa 4) aJ)) (ipI λi j=>Builtin.bitOr i j)) bL))))
  (bG (tOp rNe (tOp (rI0 λi j=>.int (Builtin.bitAnd i j)) (aa 3) (cW S.mark [] E0 (aB (aa 1) aJ))) (tC (.int 0))))))
theorem yW:aW ["self","state","active","ended","number","inner_parts"] ["self","state","active"] (ah cZ):=by trivial
theorem Mq {S:Sps} (T:Txt K mg t) (bQ:aQ P w K mg base CX0 1 t.gC t.kr ["state"] S.mark) (len:∀ vs H Q E,S.gE vs H Q E->vs.length=3)
  (rd:∀ vs H Q E,S.gE vs H Q E->qy K t S { nx:=λ_ H'=>Q .non H',rt:=Q } (start ["self","state","active","ended","number","inner_parts"] vs) H) :
  aQ P w K mg base CX0 2 t.cJ t.k9 ["self","state","active"] S.gE:=by
 refine T.jd.ok yW len (λcdv A outer s H vs Q E hr h=>⟨_,?_,rd vs H Q E h⟩)
 have nd:=yW.nd
 have hu:=bS hr
 exact (ai (bE (i:=3) nd rfl (Or.inl rfl) aF)
  (ai (gU PassesOwn.never rfl (XE rfl T.rS (aj (cS Gu (fU ck rfl T.iT PySem.boot_len (aj (az (pv 0) rfl) aA)) aF) (aj (cS Gu (pv 1) aF) (aj (Jf aaj aF) aA)))) (bT (i:=4) nd rfl (Or.inl rfl)) (ai (bE (i:=5) nd rfl (Or.inl rfl) (br aG (az (pv 0) rfl) (pv 4) (λ_ _=>rfl)))
  (au (bK (aU cG (az (br aG (az (pv 0) rfl) (pv 4) (λ_ _=>rfl)) rfl) (aR rfl T.dF) (aZ _)) (au (bK (aU cG (cS gQ (pv 5) (Jf O0 (pv 3))) aF (aZ _)) (au (Fq (i:=3) nd rfl (Or.inl rfl) (bC (bQ.mono (k:=1) (by decide)) hr rfl T.fJ T.jl T.gR .nil aS (aj (pv 4) aA)) Ql)) aY)) (au (bK (aU nM (cS gQ (cS gQ (pv 5) (az (pv 0) rfl)) (pv 2)) aF (aZ _)) (au (Fq (i:=3) nd rfl (Or.inl rfl) (bC (bQ.mono (k:=1) (by decide)) hr rfl T.fJ T.jl T.gR .nil aS (aj (pv 4) aA)) Ql)) aY))))))
  (au (aM (rM nM (cS gQ (pv 3) (bC (bQ.mono (k:=1) (by decide)) hr rfl T.fJ T.jl T.gR .nil aS (aj (pv 1) aA))) aF (aZ _))))))
def Ez (K:W.Frag) (t:Adr) (S:Sps):TS:=
 (bG (tOp (rI0 λi j=>.int (i - j)) (tOp (rI (λ_ j=>0 < j) λi j=>.int (i % j)) (tOp (rI0 λi j=>.int (i+j)) (aa 0) (tC (.int (2147483648)))) (tC (.int (4294967296)))) (tC (.int (2147483648)))))
theorem LS:aW ["number"] ["number"] (ah iu):=by trivial
theorem abr {S:Sps} (T:Txt K mg t) (len:∀ vs H Q E,S.qp vs H Q E->vs.length=1)
  (rd:∀ vs H Q E,S.qp vs H Q E->Ez K t S { nx:=λ_ H'=>Q .non H',rt:=Q } (start ["number"] vs) H) :
  aQ P w K mg base CX0 1 t.gc t.ya ["number"] S.qp:=by
 refine T.rY.ok LS len (λcdv A outer s H vs Q E hr h=>⟨_,?_,rd vs H Q E h⟩)
 have nd:=LS.nd
 have hu:=bS hr
 exact (au (aM (cS Gu (cS aoE (cS Cs (pv 0) (aR rfl T.C3)) (aR rfl T.Ia)) (aR rfl T.C3))))
def ZD (K:W.Frag) (t:Adr) (S:Sps):TS:=
 (aK (cP (bw (tOp rEq (aa 0) (tC (.int 1)))) (bG (tOp rEq (aa 1) (aa 2))) bL)
  (aK (cP (bw (tOp rEq (aa 0) (tC (.int 2)))) (bG (tOp (rI0 λi j=>.bl (decide (i < j))) (aa 1) (aa 2))) bL)
  (bG (tOp (rI0 λi j=>.bl (decide (j<=i))) (aa 1) (aa 2)))))
theorem afD:aW ["ask","number","much"] ["ask","number","much"] (ah ud):=by trivial
theorem alm {S:Sps} (T:Txt K mg t) (len:∀ vs H Q E,S.Vr vs H Q E->vs.length=3)
  (rd:∀ vs H Q E,S.Vr vs H Q E->ZD K t S { nx:=λ_ H'=>Q .non H',rt:=Q } (start ["ask","number","much"] vs) H) :
  aQ P w K mg base CX0 1 t.rj t.RU ["ask","number","much"] S.Vr:=by
 refine T.MU.ok afD len (λcdv A outer s H vs Q E hr h=>⟨_,?_,rd vs H Q E h⟩)
 have nd:=afD.nd
 have hu:=bS hr
 exact (ai (bK (aU cG (pv 0) aF (aZ _)) (au (aM (rM cG (pv 1) (pv 2) (aZ _)))) aY)
  (ai (bK (aU cG (pv 0) aF (aZ _)) (au (aM (rM aeV (pv 1) (pv 2) (aZ _)))) aY)
  (au (aM (rM anH (pv 1) (pv 2) (aZ _))))))
def GU (K:W.Frag) (t:Adr) (S:Sps):TS:=
 (aK (fm K (aa 0) (aa 1) "path")
  (aK (fm K (aa 0) (aa 2) "stays")
  (fm K (aa 0) (aa 3) "leaves")))
theorem Nd:aW ["self","path","stays","leaves"] ["self","path","stays","leaves"] (ah gY):=by trivial
theorem aaJ {S:Sps} (T:Txt K mg t) (len:∀ vs H Q E,S.nJ vs H Q E->vs.length=4)
  (rd:∀ vs H Q E,S.nJ vs H Q E->GU K t S { nx:=λ_ H'=>Q .non H',rt:=Q } (start ["self","path","stays","leaves"] vs) H) :
  aQ P w K mg base CX0 1 t.gy t.yg ["self","path","stays","leaves"] S.nJ:=by
 refine T.rV.ok Nd len (λcdv A outer s H vs Q E hr h=>⟨_,?_,rd vs H Q E h⟩)
 have nd:=Nd.nd
 have hu:=bS hr
 exact (ai (bV (pv 0) (pv 1) rfl)
  (ai (bV (pv 0) (pv 2) rfl)
  (au (bV (pv 0) (pv 3) rfl))))
def Ke (K:W.Frag) (t:Adr) (S:Sps):TS:=
 (aK (fm K (aa 0) (Hf t.bz S.qK [] E0 (aB (aa 1) aJ)) "plan")
  (aK (fm K (aa 0) (tOp apg (kC (aB (tC (.int 0)) aJ)) (tOp (rI0 λi j=>.int (i+j)) (tC (.int (15))) (tC (.int 1)))) "numbers")
  (aK (fm K (aa 0) (tCB (aoS K) (aB (aN K (aN K (aa 0) "plan") "first_leads") aJ)) "leads")
  (aK (fm K (aa 0) (tC (.int 0)) "active")
  (aK (fm K (aa 0) (tC (.bl false)) "over")
  (aK (fm K (aa 0) (kC aJ) "raised")
  (aK (fm K (aa 0) (tC (.int 0)) "heard")
  (fm K (aa 0) (kC aJ) "trail"))))))))
theorem Qa:aW ["self","chart"] ["self","chart"] (ah jH):=by trivial
theorem afL {S:Sps} (T:Txt K mg t) (Hg:aQ P w K mg base CX0 5 t.gm t.yS ["self","chart"] S.qK) (len:∀ vs H Q E,S.wc vs H Q E->vs.length=2)
  (rd:∀ vs H Q E,S.wc vs H Q E->Ke K t S { nx:=λ_ H'=>Q .non H',rt:=Q } (start ["self","chart"] vs) H) :
  aQ P w K mg base CX0 7 t.iU t.Cz ["self","chart"] S.wc:=by
 refine T.kQ.ok Qa len (λcdv A outer s H vs Q E hr h=>⟨_,?_,rd vs H Q E h⟩)
 have nd:=Qa.nd
 have hu:=bS hr
 exact (ai (bV (pv 0) (CD T.yG (Hg.mono (k:=5) (by decide)) hr rfl T.air T.yj .nil aS (aj (pv 1) aA)) rfl)
  (ai (bV (pv 0) (cS an1 (dM (aj aF aA)) (cS Cs (aR rfl T.gK) aF)) rfl)
  (ai (bV (pv 0) (Xn aaq rfl T.yN PyProof.Rows.boot_list (aj (az (az (pv 0) rfl) rfl) aA)) rfl)
  (ai (bV (pv 0) aF rfl)
  (ai (bV (pv 0) AQ rfl)
  (ai (bV (pv 0) (dM aA) rfl)
  (ai (bV (pv 0) aF rfl)
  (au (bV (pv 0) (dM aA) rfl)))))))))
def Gn (K:W.Frag) (t:Adr) (S:Sps):TS:=
 (aK (fT (bD t.aV "come" S.lW [] E0 (aa 0) (aB (tOp (rI0 λi j=>.int (Builtin.bitAnd i j)) (bD t.bz "filled" S.gg [] E0 (aN K (aa 0) "plan") (aB (cW S.mark [] E0 (aB (tC (.int 0)) aJ)) aJ)) (tUn (rU λi=>.int (Builtin.bitNot i)) (cW S.mark [] E0 (aB (tC (.int 0)) aJ)))) aJ)))
  (bG (bD t.aV "settle" S.iY [] E0 (aa 0) aJ)))
theorem NT:aW ["self"] ["self"] (ah iM):=by trivial
theorem abW {S:Sps} (T:Txt K mg t) (jW:aQ P w K mg base CX0 3 t.dh t.mz ["self","come_to"] S.gg) (qX:aQ P w K mg base CX0 4 t.gM t.wN ["self","states"] S.lW) (lH:aQ P w K mg base CX0 6 t.d9 t.pH ["self"] S.iY) (bQ:aQ P w K mg base CX0 1 t.gC t.kr ["state"] S.mark) (len:∀ vs H Q E,S.qD vs H Q E->vs.length=1)
  (rd:∀ vs H Q E,S.qD vs H Q E->Gn K t S { nx:=λ_ H'=>Q .non H',rt:=Q } (start ["self"] vs) H) :
  aQ P w K mg base CX0 7 t.gq t.yJ ["self"] S.qD:=by
 refine T.rX.ok NT len (λcdv A outer s H vs Q E hr h=>⟨_,?_,rd vs H Q E h⟩)
 have nd:=NT.nd
 have hu:=bS hr
 exact (ai (cO (bh (pv 0) T.eT T.Lk (qX.mono (k:=6) (by decide)) hr T.u7 .nil aS (aj (cS gQ (bh (az (pv 0) rfl) T.Cd T.zC (jW.mono (k:=6) (by decide)) hr T.mE .nil aS (aj (bC (bQ.mono (k:=6) (by decide)) hr rfl T.fJ T.jl T.gR .nil aS (aj aF aA)) aA)) (Jf O0 (bC (bQ.mono (k:=6) (by decide)) hr rfl T.fJ T.jl T.gR .nil aS (aj aF aA)))) aA)))
  (au (aM (iI (pv 0) T.eT T.Bo (lH.mono (k:=6) (by decide)) hr T.pB .nil aS))))
def J3 (K:W.Frag) (t:Adr) (S:Sps):TS:=
 (aK (cP (pK (bw (oS (rI0 λi j=>.bl (decide (i<=j))) (rI0 λi j=>.bl (decide (i<=j))) (tC (.int 1)) (aa 1) (tC (.int (255)))))) (bG (tC (.int (-1)))) bL)
  (aK (cP (tB (aN K (aa 0) "over")) (bG (tC (.int (-5)))) bL)
  (aK (cP (bw (tOp (rI0 λi j=>.bl (decide (j < i))) (tCB (FP K) (aB (aN K (aa 0) "trail") aJ)) (tC (.int (65536))))) (bG (tC (.int (-2)))) bL)
  (aK (fT (bD t.aV "step" S.l6 [] E0 (aa 0) (aB (bD t.aV "moves" S.jk [] E0 (aa 0) (aB (aa 1) aJ)) aJ)))
  (bG (bD t.aV "settle" S.iY [] E0 (aa 0) aJ))))))
theorem O4:aW ["self","event"] ["self","event"] (ah jI):=by trivial
theorem aeh {S:Sps} (T:Txt K mg t) (kD:aQ P w K mg base CX0 4 t.fG t.sf ["self","event"] S.jk) (lH:aQ P w K mg base CX0 6 t.d9 t.pH ["self"] S.iY) (qC:aQ P w K mg base CX0 5 t.gI t.wm ["self","moves"] S.l6) (len:∀ vs H Q E,S.vv vs H Q E->vs.length=2)
  (rd:∀ vs H Q E,S.vv vs H Q E->J3 K t S { nx:=λ_ H'=>Q .non H',rt:=Q } (start ["self","event"] vs) H) :
  aQ P w K mg base CX0 7 t.iZ t.BJ ["self","event"] S.vv:=by
 refine T.vH.ok O4 len (λcdv A outer s H vs Q E hr h=>⟨_,?_,rd vs H Q E h⟩)
 have nd:=O4.nd
 have hu:=bS hr
 exact (ai (bK (fH (A9 pP pP aF (pv 1) (aR rfl T.gH))) (au (aM (aR rfl T.fF))) aY)
  (ai (bK (fS (az (pv 0) rfl)) (au (aM (aR rfl T.Ir))) aY)
  (ai (bK (aU anL (fU ck rfl T.iT PySem.boot_len (aj (az (pv 0) rfl) aA)) (aR rfl T.fO) (aZ _)) (au (aM (aR rfl T.ug))) aY)
  (ai (cO (bh (pv 0) T.eT T.Lo (qC.mono (k:=6) (by decide)) hr T.uJ .nil aS (aj (bh (pv 0) T.eT T.xS (kD.mono (k:=6) (by decide)) hr T.nN .nil aS (aj (pv 1) aA)) aA)))
  (au (aM (iI (pv 0) T.eT T.Bo (lH.mono (k:=6) (by decide)) hr T.pB .nil aS)))))))
def Hw (K:W.Frag) (t:Adr) (S:Sps):TS:=
 (aK (cP (pK (bw (oS (rI0 λi j=>.bl (decide (i<=j))) (rI0 λi j=>.bl (decide (i < j))) (tC (.int 0)) (aa 1) (tCB (FP K) (aB (aN K (aN K (aa 0) "plan") "states") aJ))))) (bG (tC (.int (-1)))) bL)
  (bG (tIf (bw (tOp rNe (tOp (rI0 λi j=>.int (Builtin.bitAnd i j)) (aN K (aa 0) "active") (cW S.mark [] E0 (aB (aa 1) aJ))) (tC (.int 0)))) (tC (.int 1)) (tC (.int 0)))))
theorem Mt:aW ["self","state"] ["self","state"] (ah iE):=by trivial
theorem aaP {S:Sps} (T:Txt K mg t) (bQ:aQ P w K mg base CX0 1 t.gC t.kr ["state"] S.mark) (len:∀ vs H Q E,S.qM vs H Q E->vs.length=2)
  (rd:∀ vs H Q E,S.qM vs H Q E->Hw K t S { nx:=λ_ H'=>Q .non H',rt:=Q } (start ["self","state"] vs) H) :
  aQ P w K mg base CX0 2 t.gi t.xV ["self","state"] S.qM:=by
 refine T.sd.ok Mt len (λcdv A outer s H vs Q E hr h=>⟨_,?_,rd vs H Q E h⟩)
 have nd:=Mt.nd
 have hu:=bS hr
 exact (ai (bK (fH (A9 pP aeV aF (pv 1) (fU ck rfl T.iT PySem.boot_len (aj (az (az (pv 0) rfl) rfl) aA)))) (au (aM (aR rfl T.fF))) aY)
  (au (aM (Fb (aU nM (cS gQ (az (pv 0) rfl) (bC (bQ.mono (k:=1) (by decide)) hr rfl T.fJ T.jl T.gR .nil aS (aj (pv 1) aA))) aF (aZ _)) aF aF))))
def CB (K:W.Frag) (t:Adr) (S:Sps):TS:=
 (aK (cP (pK (tB (cW S.gz [] E0 (aB (aa 1) aJ)))) (bG (kC (aB (tC (.int (-1))) aJ))) bL)
  (bG (kC (aB (tC (.int 0)) (aB (tOp (bY K) (aN K (aa 0) "numbers") (aa 1)) aJ)))))
theorem JO:aW ["self","which"] ["self","which"] (ah fY):=by trivial
theorem VH {S:Sps} (T:Txt K mg t) (ic:aQ P w K mg base CX0 1 t.eN t.nP ["which"] S.gz) (len:∀ vs H Q E,S.mT vs H Q E->vs.length=2)
  (rd:∀ vs H Q E,S.mT vs H Q E->CB K t S { nx:=λ_ H'=>Q .non H',rt:=Q } (start ["self","which"] vs) H) :
  aQ P w K mg base CX0 2 t.eY t.ue ["self","which"] S.mT:=by
 refine T.pL.ok JO len (λcdv A outer s H vs Q E hr h=>⟨_,?_,rd vs H Q E h⟩)
 have nd:=JO.nd
 have hu:=bS hr
 exact (ai (bK (fH (fS (bC (ic.mono (k:=1) (by decide)) hr rfl T.uv T.yM T.nL .nil aS (aj (pv 1) aA)))) (au (aM (dM (aj (aR rfl T.fF) aA)))) aY)
  (au (aM (dM (aj aF (aj (br aG (az (pv 0) rfl) (pv 1) (λ_ _=>rfl)) aA))))))
def Kr (K:W.Frag) (t:Adr) (S:Sps):TS:=
 (aK (cP (pK (bw (oS (rI0 λi j=>.bl (decide (i<=j))) (rI0 λi j=>.bl (decide (i<=j))) (tC (.int 1)) (aa 1) (tC (.int (65536)))))) (bG (kC (aB (tC (.int 0)) aJ))) bL)
  (aK (c5 (tSl (ajJ K) (aN K (aa 0) "trail") NN (Sf (aa 1))) (aX 2))
  (aK (fm K (aa 0) (tSl (ajJ K) (aN K (aa 0) "trail") (Sf (aa 1)) NN) "trail")
  (bG (tOp amA (kC (aB (tCB (FP K) (aB (aa 2) aJ)) aJ)) (aa 2))))))
theorem Qc:aW ["self","most","told"] ["self","most"] (ah jx):=by trivial
theorem afq {S:Sps} (T:Txt K mg t) (len:∀ vs H Q E,S.vL vs H Q E->vs.length=2)
  (rd:∀ vs H Q E,S.vL vs H Q E->Kr K t S { nx:=λ_ H'=>Q .non H',rt:=Q } (start ["self","most","told"] vs) H) :
  aQ P w K mg base CX0 1 t.iV t.Cn ["self","most"] S.vL:=by
 refine T.wJ.ok Qc len (λcdv A outer s H vs Q E hr h=>⟨_,?_,rd vs H Q E h⟩)
 have nd:=Qc.nd
 have hu:=bS hr
 exact (ai (bK (fH (A9 pP pP aF (pv 1) (aR rfl T.fO))) (au (aM (dM (aj aF aA)))) aY)
  (ai (bE (i:=2) nd rfl (Or.inl rfl) (NI RX (az (pv 0) rfl) ZU (N3 (pv 1))))
  (ai (bV (pv 0) (NI RX (az (pv 0) rfl) (N3 (pv 1)) ZU) rfl)
  (au (aM (cS agx (dM (aj (fU ck rfl T.iT PySem.boot_len (aj (pv 2) aA)) aA)) (pv 2)))))))
def B7 (K:W.Frag) (t:Adr) (S:Sps):TS:=
 (aK (c5 (tC (.int 0)) (aX 1))
  (aK (c5 (tC (.int 0)) (aX 2))
  (aK (GZ (pK (tB (aN K (aa 0) "over"))) (aK (c5 (bD t.aV "moves" S.jk [] E0 (aa 0) (aB (tC (.int (0))) aJ)) (aX 3))
  (aK (cP (VU (pK (Ag K (aa 3))) (bw (tOp rEq (aN K (aa 0) "heard") (tCB (FP K) (aB (aN K (aa 0) "raised") aJ))))) VE bL)
  (aK (cP (bw (tOp rEq (aa 1) (tC (.int (1000))))) (aK (c5 (tC (.int 1)) (aX 2))
  VE) bL)
  (aK (cP (pK (Ag K (aa 3))) (aK (c5 (bD t.aV "moves" S.jk [] E0 (aa 0) (aB (tOp (bY K) (aN K (aa 0) "raised") (aN K (aa 0) "heard")) aJ)) (aX 3))
  (Im K (aa 0) (tC (.int 1)) (ipI λi j=>i+j) "heard")) bL)
  (aK (fT (bD t.aV "step" S.l6 [] E0 (aa 0) (aB (aa 3) aJ)))
  (QU 1 (tC (.int 1)) (ipI λi j=>i+j))))))))
  (aK (fm K (aa 0) (kC aJ) "raised")
  (aK (fm K (aa 0) (tC (.int 0)) "heard")
  (bG (aa 2)))))))
theorem IX:aW ["self","made","went","moves"] ["self"] (ah fW):=by trivial
theorem VP {S:Sps} (T:Txt K mg t) (kD:aQ P w K mg base CX0 4 t.fG t.sf ["self","event"] S.jk) (qC:aQ P w K mg base CX0 5 t.gI t.wm ["self","moves"] S.l6) (len:∀ vs H Q E,S.iY vs H Q E->vs.length=1)
  (rd:∀ vs H Q E,S.iY vs H Q E->B7 K t S { nx:=λ_ H'=>Q .non H',rt:=Q } (start ["self","made","went","moves"] vs) H) :
  aQ P w K mg base CX0 6 t.d9 t.pH ["self"] S.iY:=by
 refine T.pW.ok IX len (λcdv A outer s H vs Q E hr h=>⟨_,?_,rd vs H Q E h⟩)
 have nd:=IX.nd
 have hu:=bS hr
 exact (ai (bE (i:=1) nd rfl (Or.inl rfl) aF)
  (ai (bE (i:=2) nd rfl (Or.inl rfl) aF)
  (ai (wQ PassesOwn.never (fH (fS (az (pv 0) rfl))) (ai (bE (i:=3) nd rfl (Or.inl rfl) (bh (pv 0) T.eT T.xS (kD.mono (k:=5) (by decide)) hr T.nN .nil aS (aj (aR rfl T.qT) aA)))
  (ai (bK (PW.pt (Eu (fH (GA (pv 3) (by intro _;rfl))) (zj (aU cG (az (pv 0) rfl) (fU ck rfl T.iT PySem.boot_len (aj (az (pv 0) rfl) aA)) (aZ _))))) (au ad2) aY)
  (ai (bK (aU cG (pv 1) (aR rfl T.j4) (aZ _)) (ai (bE (i:=2) nd rfl (Or.inl rfl) aF)
  (au ad2)) aY)
  (ai (bK (fH (GA (pv 3) (by intro _;rfl))) (ai (bE (i:=3) nd rfl (Or.inl rfl) (bh (pv 0) T.eT T.xS (kD.mono (k:=5) (by decide)) hr T.nN .nil aS (aj (br aG (az (pv 0) rfl) (az (pv 0) rfl) (λ_ _=>rfl)) aA)))
  (au (OW (pv 0) aF (in_of alS)))) aY)
  (ai (cO (bh (pv 0) T.eT T.Lo (qC.mono (k:=5) (by decide)) hr T.uJ .nil aS (aj (pv 3) aA)))
  (au (Fq (i:=1) nd rfl (Or.inl rfl) aF alS))))))))
  (ai (bV (pv 0) (dM aA) rfl)
  (ai (bV (pv 0) aF rfl)
  (au (aM (pv 2))))))))
def Gx (K:W.Frag) (t:Adr) (S:Sps):TS:=
 (aK (c5 (kC aJ) (aX 2))
  (aK (uA (jn K (bD t.aV "taken" S.qE [] E0 (aa 0) (aB (aa 1) aJ))) (aX 3) (c5 (bD t.aV "agreed" S.ng [] E0 (aa 0) (aB (aa 2) (aB (bD t.aV "move" S.wg [] E0 (aa 0) (aB (tOp (bY K) (aN K (aN K (aa 0) "plan") "ways") (aa 3)) aJ)) aJ))) (aX 2)))
  (bG (aa 2))))
theorem Ms:aW ["self","event","kept","number"] ["self","event"] (ah iw):=by trivial
theorem Za {S:Sps} (T:Txt K mg t) (BD:aQ P w K mg base CX0 2 t.fu t.ua ["self","kept","more"] S.ng) (Lm:aQ P w K mg base CX0 3 t.iQ t.CZ ["self","way"] S.wg) (Hx:aQ P w K mg base CX0 3 t.gh t.xY ["self","event"] S.qE) (len:∀ vs H Q E,S.jk vs H Q E->vs.length=2)
  (rd:∀ vs H Q E,S.jk vs H Q E->Gx K t S { nx:=λ_ H'=>Q .non H',rt:=Q } (start ["self","event","kept","number"] vs) H) :
  aQ P w K mg base CX0 4 t.fG t.sf ["self","event"] S.jk:=by
 refine T.r9.ok Ms len (λcdv A outer s H vs Q E hr h=>⟨_,?_,rd vs H Q E h⟩)
 have nd:=Ms.nd
 have hu:=bS hr
 exact (ai (bE (i:=2) nd rfl (Or.inl rfl) (dM aA))
  (ai (gU PassesOwn.never rfl (dI (bh (pv 0) T.eT T.QD (Hx.mono (k:=3) (by decide)) hr T.zg .nil aS (aj (pv 1) aA))) (bT (i:=3) nd rfl (Or.inl rfl)) (au (bE (i:=2) nd rfl (Or.inl rfl) (bh (pv 0) T.eT T.Nn (BD.mono (k:=3) (by decide)) hr T.uB .nil aS (aj (pv 2) (aj (bh (pv 0) T.eT T.SH (Lm.mono (k:=3) (by decide)) hr T.Bx .nil aS (aj (br aG (az (az (pv 0) rfl) rfl) (pv 3) (λ_ _=>rfl)) aA)) aA))))))
  (au (aM (pv 2)))))
def Gd (K:W.Frag) (t:Adr) (S:Sps):TS:=
 (aK (c5 BL (aX 2))
  (aK (anD (agD (aN K (aN K (aa 0) "plan") "offers") (aa 1) BL) (ael K 2 (wI (aX 3) (wI (aX 4) abo))) (cP (bw (tOp rNe (tOp (rI0 λi j=>.int (Builtin.bitAnd i j)) (aN K (aa 0) "active") (aa 3)) (tC (.int 0)))) (aK (c5 (bD t.aV "first_so" S.jO [] E0 (aa 0) (aB (aa 4) aJ)) (aX 5))
  (cP (bw (tOp rNe (aa 5) (tC (.int (-1))))) (ahU (aa 2) (aa 5) (tC (.bl true))) bL)) bL))
  (bG (tCB agT (aB (aa 2) aJ)))))
theorem Ni:aW ["self","event","found","place","numbers","number"] ["self","event"] (ah iH):=by trivial
theorem abF {S:Sps} (T:Txt K mg t) (vI:aQ P w K mg base CX0 2 t.c8 t.nT ["self","numbers"] S.jO) (len:∀ vs H Q E,S.qE vs H Q E->vs.length=2)
  (rd:∀ vs H Q E,S.qE vs H Q E->Gd K t S { nx:=λ_ H'=>Q .non H',rt:=Q } (start ["self","event","found","place","numbers","number"] vs) H) :
  aQ P w K mg base CX0 3 t.gh t.xY ["self","event"] S.qE:=by
 refine T.se.ok Ni len (λcdv A outer s H vs Q E hr h=>⟨_,?_,rd vs H Q E h⟩)
 have nd:=Ni.nd
 have hu:=bS hr
 exact (ai (bE (i:=2) nd rfl (Or.inl rfl) Ng)
  (ai (amG PassesOwn.never rfl (alf hu (az (az (pv 0) rfl) rfl) (pv 1) Ng ⟨rfl,rfl,rfl,rfl⟩) (UD rfl (kH (bT (i:=3) nd rfl (Or.inl rfl)) (kH (bT (i:=4) nd rfl (Or.inl rfl)) Nu))) (au (bK (aU nM (cS gQ (az (pv 0) rfl) (pv 3)) aF (aZ _)) (ai (bE (i:=5) nd rfl (Or.inl rfl) (bh (pv 0) T.eT T.Gh (vI.mono (k:=2) (by decide)) hr T.oW .nil aS (aj (pv 4) aA)))
  (au (bK (aU nM (pv 5) (aR rfl T.fB) (aZ _)) (au (amk hu (pv 2) (pv 5) AQ rfl)) aY))) aY)))
  (au (aM (Xn (T7 rfl) rfl T.yN PyProof.Rows.boot_list (aj (pv 2) aA))))))
def ve (K:W.Frag) (t:Adr) (S:Sps):TS:=
 (aK (uA (jn K (aa 1)) (aX 2) (aK (c5 (tOp (bY K) (aN K (aN K (aa 0) "plan") "ways") (aa 2)) (aX 3))
  (cP (tOr (bw (tOp rEq (aN K (aa 3) "ask") (tC (.int 0)))) (tB (cW S.Vr [] E0 (aB (aN K (aa 3) "ask") (aB (tOp (bY K) (aN K (aa 0) "numbers") (aN K (aa 3) "which")) (aB (aN K (aa 3) "much") aJ)))))) (bG (aa 2)) bL)))
  (bG (tC (.int (-1)))))
theorem DF:aW ["self","numbers","number","way"] ["self","numbers"] (ah dW):=by trivial
theorem QT {S:Sps} (T:Txt K mg t) (abN:aQ P w K mg base CX0 1 t.rj t.RU ["ask","number","much"] S.Vr) (len:∀ vs H Q E,S.jO vs H Q E->vs.length=2)
  (rd:∀ vs H Q E,S.jO vs H Q E->ve K t S { nx:=λ_ H'=>Q .non H',rt:=Q } (start ["self","numbers","number","way"] vs) H) :
  aQ P w K mg base CX0 2 t.c8 t.nT ["self","numbers"] S.jO:=by
 refine T.kT.ok DF len (λcdv A outer s H vs Q E hr h=>⟨_,?_,rd vs H Q E h⟩)
 have nd:=DF.nd
 have hu:=bS hr
 exact (ai (gU PassesOwn.never rfl (dI (pv 1)) (bT (i:=2) nd rfl (Or.inl rfl)) (ai (bE (i:=3) nd rfl (Or.inl rfl) (br aG (az (az (pv 0) rfl) rfl) (pv 2) (λ_ _=>rfl)))
  (au (bK (PW.pt (Bb (aU cG (az (pv 3) rfl) aF (aZ _)) (xC (fS (bC (abN.mono (k:=1) (by decide)) hr rfl T.agc T.aii T.RL .nil aS (aj (az (pv 3) rfl) (aj (br aG (az (pv 0) rfl) (az (pv 3) rfl) (λ_ _=>rfl)) (aj (az (pv 3) rfl) aA)))))))) (au (aM (pv 2))) aY))))
  (au (aM (aR rfl T.fB))))
def JU (K:W.Frag) (t:Adr) (S:Sps):TS:=
 (aK (cP (bw (tOp rEq (aN K (aa 1) "target") (tC (.int (-1))))) (bG (Hf t.fN S.nJ [] E0 (aB (aa 1) (aB (tC (.int (-1))) (aB (tC (.int 0)) aJ))))) bL)
  (aK (c5 (bD t.bz "nearest" S.jA [] E0 (aN K (aa 0) "plan") (aB (aN K (aa 1) "source") (aB (tOp (bY K) (aN K (aa 0) "leads") (aN K (aa 1) "target")) aJ))) (aX 2))
  (bG (Hf t.fN S.nJ [] E0 (aB (aa 1) (aB (aa 2) (aB (tOp (rI0 λi j=>.int (Builtin.bitAnd i j)) (aN K (aa 0) "active") (tOp (bY K) (aN K (aN K (aa 0) "plan") "inner") (aa 2))) aJ)))))))
theorem Qj:aW ["self","way","stays"] ["self","way"] (ah jq):=by trivial
theorem afj {S:Sps} (T:Txt K mg t) (yK:aQ P w K mg base CX0 1 t.gy t.yg ["self","path","stays","leaves"] S.nJ) (vM:aQ P w K mg base CX0 1 t.dg t.ou ["self","source","leads"] S.jA) (len:∀ vs H Q E,S.wg vs H Q E->vs.length=2)
  (rd:∀ vs H Q E,S.wg vs H Q E->JU K t S { nx:=λ_ H'=>Q .non H',rt:=Q } (start ["self","way","stays"] vs) H) :
  aQ P w K mg base CX0 3 t.iQ t.CZ ["self","way"] S.wg:=by
 refine T.xx.ok Qj len (λcdv A outer s H vs Q E hr h=>⟨_,?_,rd vs H Q E h⟩)
 have nd:=Qj.nd
 have hu:=bS hr
 exact (ai (bK (aU cG (az (pv 1) rfl) (aR rfl T.fB) (aZ _)) (au (aM (CD T.Br (yK.mono (k:=1) (by decide)) hr rfl T.abc T.r8 .nil aS (aj (pv 1) (aj (aR rfl T.fB) (aj aF aA)))))) aY)
  (ai (bE (i:=2) nd rfl (Or.inl rfl) (bh (az (pv 0) rfl) T.Cd T.FG (vM.mono (k:=2) (by decide)) hr T.oV .nil aS (aj (az (pv 1) rfl) (aj (br aG (az (pv 0) rfl) (az (pv 1) rfl) (λ_ _=>rfl)) aA))))
  (au (aM (CD T.Br (yK.mono (k:=1) (by decide)) hr rfl T.abc T.r8 .nil aS (aj (pv 1) (aj (pv 2) (aj (cS gQ (az (pv 0) rfl) (br aG (az (az (pv 0) rfl) rfl) (pv 2) (λ_ _=>rfl))) aA))))))))
def Bu (K:W.Frag) (t:Adr) (S:Sps):TS:=
 (aK (cP (bw (tOp rEq (aN K (aa 2) "leaves") (tC (.int 0)))) (bG (tOp amA (aa 1) (kC (aB (aa 2) aJ)))) bL)
  (aK (c5 (tLc (jn K (aa 1)) (aX 5) (bw (tOp rNe (tOp (rI0 λi j=>.int (Builtin.bitAnd i j)) (aN K (aa 5) "leaves") (aN K (aa 2) "leaves")) (tC (.int 0)))) (aa 5) [5]) (aX 3))
  (aK (c5 (tOp (bY K) (aN K (aN K (aa 0) "plan") "around") (aN K (aN K (aa 2) "path") "source")) (aX 4))
  (aK (uA (jn K (aa 3)) (aX 5) (cP (bw (tOp rEq (tOp (rI0 λi j=>.int (Builtin.bitAnd i j)) (aa 4) (cW S.mark [] E0 (aB (aN K (aN K (aa 5) "path") "source") aJ))) (tC (.int 0)))) (bG (aa 1)) bL))
  (bG (tOp amA (tLc (jn K (aa 1)) (aX 5) (bw (tOp rEq (tOp (rI0 λi j=>.int (Builtin.bitAnd i j)) (aN K (aa 5) "leaves") (aN K (aa 2) "leaves")) (tC (.int 0)))) (aa 5) [5]) (kC (aB (aa 2) aJ))))))))
theorem Jh:aW ["self","kept","more","rivals","around","one"] ["self","kept","more"] (ah fV):=by trivial
theorem Wy {S:Sps} (T:Txt K mg t) (bQ:aQ P w K mg base CX0 1 t.gC t.kr ["state"] S.mark) (len:∀ vs H Q E,S.ng vs H Q E->vs.length=3)
  (rd:∀ vs H Q E,S.ng vs H Q E->Bu K t S { nx:=λ_ H'=>Q .non H',rt:=Q } (start ["self","kept","more","rivals","around","one"] vs) H) :
  aQ P w K mg base CX0 2 t.fu t.ua ["self","kept","more"] S.ng:=by
 refine T.nW.ok Jh len (λcdv A outer s H vs Q E hr h=>⟨_,?_,rd vs H Q E h⟩)
 have nd:=Jh.nd
 have hu:=bS hr
 exact (ai (bK (aU cG (az (pv 2) rfl) aF (aZ _)) (au (aM (cS agx (pv 1) (dM (aj (pv 2) aA))))) aY)
  (ai (SX (i:=3) rfl nd rfl rfl (ZM rfl rfl rfl rfl) (dI (pv 1)) (o4 (own:=[("one",5)]) rfl) (λ_ _ _ _ _=>(bT (i:=5) nd rfl (Or.inl rfl))) (λ_ _ _ _ _=>(LH (aU nM (cS gQ (az (pv 5) rfl) (az (pv 2) rfl)) aF (aZ _)))) (λ_ _ _ _ _=>(pv 5)))
  (ai (bE (i:=4) nd rfl (Or.inl rfl) (br aG (az (az (pv 0) rfl) rfl) (az (az (pv 2) rfl) rfl) (λ_ _=>rfl)))
  (ai (gU PassesOwn.never rfl (dI (pv 3)) (bT (i:=5) nd rfl (Or.inl rfl)) (au (bK (aU cG (cS gQ (pv 4) (bC (bQ.mono (k:=1) (by decide)) hr rfl T.fJ T.jl T.gR .nil aS (aj (az (az (pv 5) rfl) rfl) aA))) aF (aZ _)) (au (aM (pv 1))) aY)))
  (au (aM (cS agx (Xa rfl nd (dI (pv 1)) (o4 (own:=[("one",5)]) rfl) (λ_ _ _ _ _=>(bT (i:=5) nd rfl (Or.inl rfl))) (λ_ _ _ _ _=>(LH (aU cG (cS gQ (az (pv 5) rfl) (az (pv 2) rfl)) aF (aZ _)))) (λ_ _ _ _ _=>(pv 5))) (dM (aj (pv 2) aA)))))))))
def KH (K:W.Frag) (t:Adr) (S:Sps):TS:=
 (aK (c5 (tC (.int 0)) (aX 2))
  (aK (uA (jn K (aa 1)) (aX 3) (QU 2 (aN K (aa 3) "leaves") (ipI λi j=>Builtin.bitOr i j)))
  (aK (fT (bD t.aV "remember" S.jJ [] E0 (aa 0) (aB (aa 2) aJ)))
  (aK (fT (bD t.aV "leave" S.qx [] E0 (aa 0) (aB (aa 2) aJ)))
  (aK (uA (jn K (aa 1)) (aX 3) (fT (bD t.aV "do" S.qS [] E0 (aa 0) (aB (aN K (aN K (aa 3) "path") "acts") aJ))))
  (fT (bD t.aV "come" S.lW [] E0 (aa 0) (aB (tOp (rI0 λi j=>.int (Builtin.bitAnd i j)) (bD t.aV "come_to" S.kq [] E0 (aa 0) (aB (aa 1) aJ)) (tUn (rU λi=>.int (Builtin.bitNot i)) (aN K (aa 0) "active"))) aJ))))))))
theorem Qh:aW ["self","moves","left","one"] ["self","moves"] (ah jD):=by trivial
theorem afK {S:Sps} (T:Txt K mg t) (qX:aQ P w K mg base CX0 4 t.gM t.wN ["self","states"] S.lW) (Ad:aQ P w K mg base CX0 4 t.dU t.rq ["self","moves"] S.kq) (pM:aQ P w K mg base CX0 2 t.jT t.Be ["self","acts"] S.qS) (Ew:aQ P w K mg base CX0 3 t.gx t.yZ ["self","left"] S.qx) (wU:aQ P w K mg base CX0 2 t.dD t.oQ ["self","left"] S.jJ) (len:∀ vs H Q E,S.l6 vs H Q E->vs.length=2)
  (rd:∀ vs H Q E,S.l6 vs H Q E->KH K t S { nx:=λ_ H'=>Q .non H',rt:=Q } (start ["self","moves","left","one"] vs) H) :
  aQ P w K mg base CX0 5 t.gI t.wm ["self","moves"] S.l6:=by
 refine T.xu.ok Qh len (λcdv A outer s H vs Q E hr h=>⟨_,?_,rd vs H Q E h⟩)
 have nd:=Qh.nd
 have hu:=bS hr
 exact (ai (bE (i:=2) nd rfl (Or.inl rfl) aF)
  (ai (gU PassesOwn.never rfl (dI (pv 1)) (bT (i:=3) nd rfl (Or.inl rfl)) (au (Fq (i:=2) nd rfl (Or.inl rfl) (az (pv 3) rfl) Ql)))
  (ai (cO (bh (pv 0) T.eT T.E4 (wU.mono (k:=4) (by decide)) hr T.nV .nil aS (aj (pv 2) aA)))
  (ai (cO (bh (pv 0) T.eT T.QH (Ew.mono (k:=4) (by decide)) hr T.yC .nil aS (aj (pv 2) aA)))
  (ai (gU PassesOwn.never rfl (dI (pv 1)) (bT (i:=3) nd rfl (Or.inl rfl)) (au (cO (bh (pv 0) T.eT T.MQ (pM.mono (k:=4) (by decide)) hr T.AU .nil aS (aj (az (az (pv 3) rfl) rfl) aA)))))
  (au (cO (bh (pv 0) T.eT T.Lk (qX.mono (k:=4) (by decide)) hr T.u7 .nil aS (aj (cS gQ (bh (pv 0) T.eT T.Ja (Ad.mono (k:=4) (by decide)) hr T.rC .nil aS (aj (pv 1) aA)) (Jf O0 (az (pv 0) rfl))) aA)))))))))
def wL (K:W.Frag) (t:Adr) (S:Sps):TS:=
 (uA (jn K (aN K (aN K (aa 0) "plan") "histories")) (aX 2) (aK (c5 (tOp (bY K) (aN K (aN K (aa 0) "plan") "states") (aa 2)) (aX 3))
  (aK (cP (bw (tOp rEq (tOp (rI0 λi j=>.int (Builtin.bitAnd i j)) (aa 1) (cW S.mark [] E0 (aB (aN K (aa 3) "parent") aJ))) (tC (.int 0)))) ahV bL)
  (cP (bw (tOp rEq (aN K (aa 3) "kind") (tC (.int (4))))) (c5 (tOp (rI0 λi j=>.int (Builtin.bitAnd i j)) (tOp (rI0 λi j=>.int (Builtin.bitAnd i j)) (aN K (aa 0) "active") (tOp (bY K) (aN K (aN K (aa 0) "plan") "inner") (aN K (aa 3) "parent"))) (aN K (aN K (aa 0) "plan") "plain")) (YA (aN K (aa 0) "leads") (aa 2) Xy)) (c5 (tOp (rI0 λi j=>.int (Builtin.bitAnd i j)) (aN K (aa 0) "active") (tOp (bY K) (aN K (aN K (aa 0) "plan") "inner_parts") (aN K (aa 3) "parent"))) (YA (aN K (aa 0) "leads") (aa 2) Xy))))))
theorem DT:aW ["self","left","history","one"] ["self","left"] (ah eE):=by trivial
theorem Rq {S:Sps} (T:Txt K mg t) (bQ:aQ P w K mg base CX0 1 t.gC t.kr ["state"] S.mark) (len:∀ vs H Q E,S.jJ vs H Q E->vs.length=2)
  (rd:∀ vs H Q E,S.jJ vs H Q E->wL K t S { nx:=λ_ H'=>Q .non H',rt:=Q } (start ["self","left","history","one"] vs) H) :
  aQ P w K mg base CX0 2 t.dD t.oQ ["self","left"] S.jJ:=by
 refine T.kB.ok DT len (λcdv A outer s H vs Q E hr h=>⟨_,?_,rd vs H Q E h⟩)
 have nd:=DT.nd
 have hu:=bS hr
 exact (au (gU PassesOwn.never rfl (dI (az (az (pv 0) rfl) rfl)) (bT (i:=2) nd rfl (Or.inl rfl)) (ai (bE (i:=3) nd rfl (Or.inl rfl) (br aG (az (az (pv 0) rfl) rfl) (pv 2) (λ_ _=>rfl)))
  (ai (bK (aU cG (cS gQ (pv 1) (bC (bQ.mono (k:=1) (by decide)) hr rfl T.fJ T.jl T.gR .nil aS (aj (az (pv 3) rfl) aA))) aF (aZ _)) (au PY) aY)
  (au (bK (aU cG (az (pv 3) rfl) (aR rfl T.yq) (aZ _)) (au (YC (cS gQ (cS gQ (az (pv 0) rfl) (br aG (az (az (pv 0) rfl) rfl) (az (pv 3) rfl) (λ_ _=>rfl))) (az (az (pv 0) rfl) rfl)) (aa4 (az (pv 0) rfl) (pv 2) set_list (λ_=>rfl)))) (au (YC (cS gQ (az (pv 0) rfl) (br aG (az (az (pv 0) rfl) rfl) (az (pv 3) rfl) (λ_ _=>rfl))) (aa4 (az (pv 0) rfl) (pv 2) set_list (λ_=>rfl))))))))))
def GP (K:W.Frag) (t:Adr) (S:Sps):TS:=
 (uA (aoo K (aB (cW S.marked [] E0 (aB (aa 1) aJ)) aJ)) (aX 2) (aK (Im K (aa 0) (tUn (rU λi=>.int (Builtin.bitNot i)) (cW S.mark [] E0 (aB (aa 2) aJ))) (ipI λi j=>Builtin.bitAnd i j) "active")
  (aK (fT (tBM K "list" eX (aN K (aa 0) "trail") (aB (tOp (rI0 λi j=>.int (i+j)) (tC (.int (256))) (aa 2)) aJ)))
  (fT (bD t.aV "do" S.qS [] E0 (aa 0) (aB (aN K (tOp (bY K) (aN K (aN K (aa 0) "plan") "states") (aa 2)) "leaving_acts") aJ))))))
theorem MI:aW ["self","left","state"] ["self","left"] (ah ig):=by trivial
theorem Zi {S:Sps} (T:Txt K mg t) (pM:aQ P w K mg base CX0 2 t.jT t.Be ["self","acts"] S.qS) (bQ:aQ P w K mg base CX0 1 t.gC t.kr ["state"] S.mark) (jS:aQ P w K mg base CX0 1 t.jc t.vJ ["found"] S.marked) (len:∀ vs H Q E,S.qx vs H Q E->vs.length=2)
  (rd:∀ vs H Q E,S.qx vs H Q E->GP K t S { nx:=λ_ H'=>Q .non H',rt:=Q } (start ["self","left","state"] vs) H) :
  aQ P w K mg base CX0 3 t.gx t.yZ ["self","left"] S.qx:=by
 refine T.sj.ok MI len (λcdv A outer s H vs Q E hr h=>⟨_,?_,rd vs H Q E h⟩)
 have nd:=MI.nd
 have hu:=bS hr
 exact (au (gU PassesOwn.never rfl (afE rfl T.nQ (aj (bC (jS.mono (k:=2) (by decide)) hr rfl T.Bk T.DZ T.v8 .nil aS (aj (pv 1) aA)) aA)) (bT (i:=2) nd rfl (Or.inl rfl)) (ai (OW (pv 0) (Jf O0 (bC (bQ.mono (k:=2) (by decide)) hr rfl T.fJ T.jl T.gR .nil aS (aj (pv 2) aA))) (in_of anZ))
  (ai (cO (qh PySem.F.plainAttrs_list PySem.F.slot_list_append PySem.F.type_list_append dH (az (pv 0) rfl) (aj (cS Cs (aR rfl T.Il) (pv 2)) aA)))
  (au (cO (bh (pv 0) T.eT T.MQ (pM.mono (k:=2) (by decide)) hr T.AU .nil aS (aj (az (br aG (az (az (pv 0) rfl) rfl) (pv 2) (λ_ _=>rfl)) rfl) aA))))))))
def zY (K:W.Frag) (t:Adr) (S:Sps):TS:=
 (aK (c5 (tC (.int 0)) (aX 2))
  (aK (uA (jn K (aa 1)) (aX 3) (aK (cP (bw (tOp rEq (aN K (aN K (aa 3) "path") "target") (tC (.int (-1))))) ahV bL)
  (uA (jn K (cW S.marked [] E0 (aB (tOp (bY K) (aN K (aa 0) "leads") (aN K (aN K (aa 3) "path") "target")) aJ))) (aX 4) (QU 2 (tOp (rI0 λi j=>.int (Builtin.bitOr i j)) (cW S.mark [] E0 (aB (aa 4) aJ)) (tOp (rI0 λi j=>.int (Builtin.bitAnd i j)) (tOp (bY K) (aN K (aN K (aa 0) "plan") "around") (aa 4)) (tOp (bY K) (aN K (aN K (aa 0) "plan") "inner") (aN K (aa 3) "stays")))) (ipI λi j=>Builtin.bitOr i j)))))
  (bG (bD t.bz "filled" S.gg [] E0 (aN K (aa 0) "plan") (aB (aa 2) aJ)))))
theorem HM:aW ["self","moves","found","one","state"] ["self","moves"] (ah fC):=by trivial
theorem Vm {S:Sps} (T:Txt K mg t) (jW:aQ P w K mg base CX0 3 t.dh t.mz ["self","come_to"] S.gg) (bQ:aQ P w K mg base CX0 1 t.gC t.kr ["state"] S.mark) (jS:aQ P w K mg base CX0 1 t.jc t.vJ ["found"] S.marked) (len:∀ vs H Q E,S.kq vs H Q E->vs.length=2)
  (rd:∀ vs H Q E,S.kq vs H Q E->zY K t S { nx:=λ_ H'=>Q .non H',rt:=Q } (start ["self","moves","found","one","state"] vs) H) :
  aQ P w K mg base CX0 4 t.dU t.rq ["self","moves"] S.kq:=by
 refine T.mC.ok HM len (λcdv A outer s H vs Q E hr h=>⟨_,?_,rd vs H Q E h⟩)
 have nd:=HM.nd
 have hu:=bS hr
 exact (ai (bE (i:=2) nd rfl (Or.inl rfl) aF)
  (ai (gU PassesOwn.never rfl (dI (pv 1)) (bT (i:=3) nd rfl (Or.inl rfl)) (ai (bK (aU cG (az (az (pv 3) rfl) rfl) (aR rfl T.fB) (aZ _)) (au PY) aY)
  (au (gU PassesOwn.never rfl (dI (bC (jS.mono (k:=3) (by decide)) hr rfl T.Bk T.DZ T.v8 .nil aS (aj (br aG (az (pv 0) rfl) (az (az (pv 3) rfl) rfl) (λ_ _=>rfl)) aA))) (bT (i:=4) nd rfl (Or.inl rfl)) (au (Fq (i:=2) nd rfl (Or.inl rfl) (cS ahP (bC (bQ.mono (k:=3) (by decide)) hr rfl T.fJ T.jl T.gR .nil aS (aj (pv 4) aA)) (cS gQ (br aG (az (az (pv 0) rfl) rfl) (pv 4) (λ_ _=>rfl)) (br aG (az (az (pv 0) rfl) rfl) (az (pv 3) rfl) (λ_ _=>rfl)))) Ql))))))
  (au (aM (bh (az (pv 0) rfl) T.Cd T.zC (jW.mono (k:=3) (by decide)) hr T.mE .nil aS (aj (pv 2) aA))))))
def La (K:W.Frag) (t:Adr) (S:Sps):TS:=
 (uA (jn K (cW S.marked [] E0 (aB (aa 1) aJ))) (aX 2) (aK (Im K (aa 0) (cW S.mark [] E0 (aB (aa 2) aJ)) (ipI λi j=>Builtin.bitOr i j) "active")
  (aK (fT (tBM K "list" eX (aN K (aa 0) "trail") (aB (aa 2) aJ)))
  (aK (fT (bD t.aV "do" S.qS [] E0 (aa 0) (aB (aN K (tOp (bY K) (aN K (aN K (aa 0) "plan") "states") (aa 2)) "coming_acts") aJ)))
  (cP (bw (tOp rEq (aN K (tOp (bY K) (aN K (aN K (aa 0) "plan") "states") (aa 2)) "kind") (tC (.int (2))))) (fT (bD t.aV "end" S.BS [] E0 (aa 0) (aB (aN K (tOp (bY K) (aN K (aN K (aa 0) "plan") "states") (aa 2)) "parent") aJ))) bL)))))
theorem Qy:aW ["self","states","state"] ["self","states"] (ah jo):=by trivial
theorem aeF {S:Sps} (T:Txt K mg t) (pM:aQ P w K mg base CX0 2 t.jT t.Be ["self","acts"] S.qS) (N5:aQ P w K mg base CX0 3 t.jV t.Ib ["self","parent"] S.BS) (bQ:aQ P w K mg base CX0 1 t.gC t.kr ["state"] S.mark) (jS:aQ P w K mg base CX0 1 t.jc t.vJ ["found"] S.marked) (len:∀ vs H Q E,S.lW vs H Q E->vs.length=2)
  (rd:∀ vs H Q E,S.lW vs H Q E->La K t S { nx:=λ_ H'=>Q .non H',rt:=Q } (start ["self","states","state"] vs) H) :
  aQ P w K mg base CX0 4 t.gM t.wN ["self","states"] S.lW:=by
 refine T.uK.ok Qy len (λcdv A outer s H vs Q E hr h=>⟨_,?_,rd vs H Q E h⟩)
 have nd:=Qy.nd
 have hu:=bS hr
 exact (au (gU PassesOwn.never rfl (dI (bC (jS.mono (k:=3) (by decide)) hr rfl T.Bk T.DZ T.v8 .nil aS (aj (pv 1) aA))) (bT (i:=2) nd rfl (Or.inl rfl)) (ai (OW (pv 0) (bC (bQ.mono (k:=3) (by decide)) hr rfl T.fJ T.jl T.gR .nil aS (aj (pv 2) aA)) (in_of Ql))
  (ai (cO (qh PySem.F.plainAttrs_list PySem.F.slot_list_append PySem.F.type_list_append dH (az (pv 0) rfl) (aj (pv 2) aA)))
  (ai (cO (bh (pv 0) T.eT T.MQ (pM.mono (k:=3) (by decide)) hr T.AU .nil aS (aj (az (br aG (az (az (pv 0) rfl) rfl) (pv 2) (λ_ _=>rfl)) rfl) aA)))
  (au (bK (aU cG (az (br aG (az (az (pv 0) rfl) rfl) (pv 2) (λ_ _=>rfl)) rfl) (aR rfl T.AI) (aZ _)) (au (cO (bh (pv 0) T.eT T.XC (N5.mono (k:=3) (by decide)) hr T.HX .nil aS (aj (az (br aG (az (az (pv 0) rfl) rfl) (pv 2) (λ_ _=>rfl)) rfl) aA)))) aY)))))))
def OF (K:W.Frag) (t:Adr) (S:Sps):TS:=
 (aK (cP (bw (tOp rEq (aa 1) (tC (.int 0)))) (aK (fm K (aa 0) (tC (.bl true)) "over")
  akg) bL)
  (aK (fT (tBM K "list" eX (aN K (aa 0) "raised") (aB (tOp (rI0 λi j=>.int (i+j)) (tC (.int (256))) (aa 1)) aJ)))
  (aK (c5 (aN K (tOp (bY K) (aN K (aN K (aa 0) "plan") "states") (aa 1)) "parent") (aX 2))
  (cP (VU (bw (tOp rEq (aN K (tOp (bY K) (aN K (aN K (aa 0) "plan") "states") (aa 2)) "kind") (tC (.int (1))))) (tB (bD t.bz "has_ended" S.gE [] E0 (aN K (aa 0) "plan") (aB (aa 2) (aB (aN K (aa 0) "active") aJ))))) (fT (tBM K "list" eX (aN K (aa 0) "raised") (aB (tOp (rI0 λi j=>.int (i+j)) (tC (.int (256))) (aa 2)) aJ))) bL))))
theorem VB:aW ["self","parent","outer"] ["self","parent"] (ah lD):=by trivial
theorem agE {S:Sps} (T:Txt K mg t) (qF:aQ P w K mg base CX0 2 t.cJ t.k9 ["self","state","active"] S.gE) (len:∀ vs H Q E,S.BS vs H Q E->vs.length=2)
  (rd:∀ vs H Q E,S.BS vs H Q E->OF K t S { nx:=λ_ H'=>Q .non H',rt:=Q } (start ["self","parent","outer"] vs) H) :
  aQ P w K mg base CX0 3 t.jV t.Ib ["self","parent"] S.BS:=by
 refine T.A2.ok VB len (λcdv A outer s H vs Q E hr h=>⟨_,?_,rd vs H Q E h⟩)
 have nd:=VB.nd
 have hu:=bS hr
 exact (ai (bK (aU cG (pv 1) aF (aZ _)) (ai (bV (pv 0) AQ rfl)
  (au al6)) aY)
  (ai (cO (qh PySem.F.plainAttrs_list PySem.F.slot_list_append PySem.F.type_list_append dH (az (pv 0) rfl) (aj (cS Cs (aR rfl T.Bm) (pv 1)) aA)))
  (ai (bE (i:=2) nd rfl (Or.inl rfl) (az (br aG (az (az (pv 0) rfl) rfl) (pv 1) (λ_ _=>rfl)) rfl))
  (au (bK (PW.pt (Eu (aU cG (az (br aG (az (az (pv 0) rfl) rfl) (pv 2) (λ_ _=>rfl)) rfl) (aR rfl T.dF) (aZ _)) (zj (fS (bh (az (pv 0) rfl) T.Cd T.AO (qF.mono (k:=2) (by decide)) hr T.lC .nil aS (aj (pv 2) (aj (az (pv 0) rfl) aA))))))) (au (cO (qh PySem.F.plainAttrs_list PySem.F.slot_list_append PySem.F.type_list_append dH (az (pv 0) rfl) (aj (cS Cs (aR rfl T.Bm) (pv 2)) aA)))) aY)))))
def Tj (K:W.Frag) (t:Adr) (S:Sps):TS:=
 (uA (jn K (aa 1)) (ael K 3 (wI (aX 2) (wI (aX 3) (wI (aX 4) abo)))) (cP (bw (tOp rEq (aa 2) (tC (.int (0))))) (fT (tBM K "list" eX (aN K (aa 0) "raised") (aB (aa 3) aJ))) (cP (bw (tOp rEq (aa 2) (tC (.int (1))))) (c5 (aa 4) (YA (aN K (aa 0) "numbers") (aa 3) Xy)) (c5 (cW S.qp [] E0 (aB (tOp (rI0 λi j=>.int (i+j)) (tOp (bY K) (aN K (aa 0) "numbers") (aa 3)) (aa 4)) aJ)) (YA (aN K (aa 0) "numbers") (aa 3) Xy)))))
theorem WV:aW ["self","acts","kind","which","much"] ["self","acts"] (ah oN):=by trivial
theorem ai1 {S:Sps} (T:Txt K mg t) (ES:aQ P w K mg base CX0 1 t.gc t.ya ["number"] S.qp) (len:∀ vs H Q E,S.qS vs H Q E->vs.length=2)
  (rd:∀ vs H Q E,S.qS vs H Q E->Tj K t S { nx:=λ_ H'=>Q .non H',rt:=Q } (start ["self","acts","kind","which","much"] vs) H) :
  aQ P w K mg base CX0 2 t.jT t.Be ["self","acts"] S.qS:=by
 refine T.FW.ok WV len (λcdv A outer s H vs Q E hr h=>⟨_,?_,rd vs H Q E h⟩)
 have nd:=WV.nd
 have hu:=bS hr
 exact (au (gU PassesOwn.never rfl (dI (pv 1)) (UD rfl (kH (bT (i:=2) nd rfl (Or.inl rfl)) (kH (bT (i:=3) nd rfl (Or.inl rfl)) (kH (bT (i:=4) nd rfl (Or.inl rfl)) Nu)))) (au (bK (aU cG (pv 2) (aR rfl T.qN) (aZ _)) (au (cO (qh PySem.F.plainAttrs_list PySem.F.slot_list_append PySem.F.type_list_append dH (az (pv 0) rfl) (aj (pv 3) aA)))) (au (bK (aU cG (pv 2) (aR rfl T.Kf) (aZ _)) (au (YC (pv 4) (aa4 (az (pv 0) rfl) (pv 3) set_list (λ_=>rfl)))) (au (YC (bC (ES.mono (k:=1) (by decide)) hr rfl T.Mu T.PN T.yd .nil aS (aj (cS Cs (br aG (az (pv 0) rfl) (pv 3) (λ_ _=>rfl)) (pv 4)) aA)) (aa4 (az (pv 0) rfl) (pv 3) set_list (λ_=>rfl))))))))))
def agO (K:W.Frag) (t:Adr) (S:Sps):TS:=
 (aK (cP (bw (tOp rEq (aa 1) (tC (.int (1))))) (bG (bD t.aE "state" S.kE [] E0 (aa 0) (aB (tOp (bY K) (aa 2) (tC (.int 0))) (aB (tOp (bY K) (aa 2) (tC (.int 1))) aJ)))) bL)
  (aK (cP (bw (tOp rEq (aa 1) (tC (.int (2))))) (bG (bD t.aE "begins" S.jr [] E0 (aa 0) (aB (tOp (bY K) (aa 2) (tC (.int 0))) (aB (tOp (bY K) (aa 2) (tC (.int 1))) aJ)))) bL)
  (aK (cP (bw (tOp rEq (aa 1) (tC (.int (3))))) (bG (bD t.aE "way" S.qP [] E0 (aa 0) (aB (tOp (bY K) (aa 2) (tC (.int 0))) (aB (tOp (bY K) (aa 2) (tC (.int 1))) (aB (tOp (bY K) (aa 2) (tC (.int 2))) aJ))))) bL)
  (aK (cP (bw (tOp rEq (aa 1) (tC (.int (4))))) (bG (bD t.aE "guard" S.kW [] E0 (aa 0) (aB (tOp (bY K) (aa 2) (tC (.int 0))) (aB (tOp (bY K) (aa 2) (tC (.int 1))) (aB (tOp (bY K) (aa 2) (tC (.int 2))) (aB (tOp (bY K) (aa 2) (tC (.int 3))) aJ)))))) bL)
  (aK (cP (bw (tOp rEq (aa 1) (tC (.int (5))))) (bG (bD t.aE "act" S.qH [] E0 (aa 0) (aB (tOp (bY K) (aa 2) (tC (.int 0))) (aB (tOp (bY K) (aa 2) (tC (.int 1))) (aB (tOp (bY K) (aa 2) (tC (.int 2))) (aB (tOp (bY K) (aa 2) (tC (.int 3))) aJ)))))) bL)
  (bG (bD t.aE "on" S.vF [] E0 (aa 0) (aB (tOp (bY K) (aa 2) (tC (.int 0))) (aB (tOp (bY K) (aa 2) (tC (.int 1))) (aB (tOp (bY K) (aa 2) (tC (.int 2))) (aB (tOp (bY K) (aa 2) (tC (.int 3))) (aB (tOp (bY K) (aa 2) (tC (.int 4))) aJ))))))))))))
theorem ahO:aW ["chart","call","given"] ["chart","call","given"] (ah CK):=by trivial
theorem alW {S:Sps} (T:Txt K mg t) (Gy:aQ P w K mg base CX0 4 t.gf t.zd ["self","way","kind","which","much"] S.qH) (wZ:aQ P w K mg base CX0 3 t.c9 t.n8 ["self","state","part"] S.jr) (zW:aQ P w K mg base CX0 2 t.dR t.qZ ["self","way","ask","which","much"] S.kW) (J5:aQ P w K mg base CX0 4 t.iR t.BX ["self","state","leaving","kind","which","much"] S.vF) (Av:aQ P w K mg base CX0 3 t.dS t.rF ["self","parent","kind"] S.kE) (FU:aQ P w K mg base CX0 4 t.gk t.yl ["self","source","event","target"] S.qP) (len:∀ vs H Q E,S.tell vs H Q E->vs.length=3)
  (rd:∀ vs H Q E,S.tell vs H Q E->agO K t S { nx:=λ_ H'=>Q .non H',rt:=Q } (start ["chart","call","given"] vs) H) :
  aQ P w K mg base CX0 5 t.Ak t.YU ["chart","call","given"] S.tell:=by
 refine T.T8.ok ahO len (λcdv A outer s H vs Q E hr h=>⟨_,?_,rd vs H Q E h⟩)
 have nd:=ahO.nd
 have hu:=bS hr
 exact (ai (bK (aU cG (pv 1) (aR rfl T.A6) (aZ _)) (au (aM (bh (pv 0) T.bX T.Jg (Av.mono (k:=4) (by decide)) hr T.rm .nil aS (aj (br aG (pv 2) aF (λ_ _=>rfl)) (aj (br aG (pv 2) aF (λ_ _=>rfl)) aA))))) aY)
  (ai (bK (aU cG (pv 1) (aR rfl T.uH) (aZ _)) (au (aM (bh (pv 0) T.bX T.Fj (wZ.mono (k:=4) (by decide)) hr T.pA .nil aS (aj (br aG (pv 2) aF (λ_ _=>rfl)) (aj (br aG (pv 2) aF (λ_ _=>rfl)) aA))))) aY)
  (ai (bK (aU cG (pv 1) (aR rfl T.N6) (aZ _)) (au (aM (bh (pv 0) T.bX T.PX (FU.mono (k:=4) (by decide)) hr T.xW .nil aS (aj (br aG (pv 2) aF (λ_ _=>rfl)) (aj (br aG (pv 2) aF (λ_ _=>rfl)) (aj (br aG (pv 2) aF (λ_ _=>rfl)) aA)))))) aY)
  (ai (bK (aU cG (pv 1) (aR rfl T.AK) (aZ _)) (au (aM (bh (pv 0) T.bX T.Js (zW.mono (k:=4) (by decide)) hr T.rE .nil aS (aj (br aG (pv 2) aF (λ_ _=>rfl)) (aj (br aG (pv 2) aF (λ_ _=>rfl)) (aj (br aG (pv 2) aF (λ_ _=>rfl)) (aj (br aG (pv 2) aF (λ_ _=>rfl)) aA))))))) aY)
  (ai (bK (aU cG (pv 1) (aR rfl T.OR) (aZ _)) (au (aM (bh (pv 0) T.bX T.QN (Gy.mono (k:=4) (by decide)) hr T.xT .nil aS (aj (br aG (pv 2) aF (λ_ _=>rfl)) (aj (br aG (pv 2) aF (λ_ _=>rfl)) (aj (br aG (pv 2) aF (λ_ _=>rfl)) (aj (br aG (pv 2) aF (λ_ _=>rfl)) aA))))))) aY)
  (au (aM (bh (pv 0) T.bX T.Tt (J5.mono (k:=4) (by decide)) hr T.CA .nil aS (aj (br aG (pv 2) aF (λ_ _=>rfl)) (aj (br aG (pv 2) aF (λ_ _=>rfl)) (aj (br aG (pv 2) aF (λ_ _=>rfl)) (aj (br aG (pv 2) aF (λ_ _=>rfl)) (aj (br aG (pv 2) aF (λ_ _=>rfl)) aA)))))))))))))
def abb (K:W.Frag) (t:Adr) (S:Sps):TS:=
 (aK (cP (pK (tB (bD t.aE "may_start" S.fP [] E0 (aa 0) aJ))) (bG (tC (.int (-1)))) bL)
  (aK (fm K (aa 0) (Hf t.aV S.wc [] E0 (aB (aa 0) aJ)) "run")
  (bG (bD t.aV "start" S.qD [] E0 (aN K (aa 0) "run") aJ))))
theorem af0:aW ["chart"] ["chart"] (ah uh):=by trivial
theorem ake {S:Sps} (T:Txt K mg t) (pU:aQ P w K mg base CX0 3 t.cy t.kh ["self"] S.fP) (JX:aQ P w K mg base CX0 7 t.iU t.Cz ["self","chart"] S.wc) (Gi:aQ P w K mg base CX0 7 t.gq t.yJ ["self"] S.qD) (len:∀ vs H Q E,S.start vs H Q E->vs.length=1)
  (rd:∀ vs H Q E,S.start vs H Q E->abb K t S { nx:=λ_ H'=>Q .non H',rt:=Q } (start ["chart"] vs) H) :
  aQ P w K mg base CX0 9 t.rG t.RO ["chart"] S.start:=by
 refine T.MR.ok af0 len (λcdv A outer s H vs Q E hr h=>⟨_,?_,rd vs H Q E h⟩)
 have nd:=af0.nd
 have hu:=bS hr
 exact (ai (bK (fH (fS (iI (pv 0) T.bX T.yr (pU.mono (k:=8) (by decide)) hr T.kj .nil aS))) (au (aM (aR rfl T.fF))) aY)
  (ai (bV (pv 0) (CD T.B5 (JX.mono (k:=7) (by decide)) hr rfl T.alr T.Cr .nil aS (aj (pv 0) aA)) rfl)
  (au (aM (iI (az (pv 0) rfl) T.eT T.PF (Gi.mono (k:=8) (by decide)) hr T.yV .nil aS)))))
def akw (K:W.Frag) (t:Adr) (S:Sps):TS:=
 (aK (cP (bw (tOp rEq (aa 1) (tC (.int (8))))) (bG (kC (aB (bD t.aV "send" S.vv [] E0 (aa 0) (aB (tOp (bY K) (aa 2) (tC (.int 0))) aJ)) aJ))) bL)
  (aK (cP (bw (tOp rEq (aa 1) (tC (.int (9))))) (bG (kC (aB (bD t.aV "is_in" S.qM [] E0 (aa 0) (aB (tOp (bY K) (aa 2) (tC (.int 0))) aJ)) aJ))) bL)
  (aK (cP (bw (tOp rEq (aa 1) (tC (.int (10))))) (bG (bD t.aV "number" S.mT [] E0 (aa 0) (aB (tOp (bY K) (aa 2) (tC (.int 0))) aJ))) bL)
  (bG (bD t.aV "take" S.vL [] E0 (aa 0) (aB (tOp (bY K) (aa 2) (tC (.int 0))) aJ))))))
theorem ak6:aW ["run","call","given"] ["run","call","given"] (ah LZ):=by trivial
theorem aof {S:Sps} (T:Txt K mg t) (FJ:aQ P w K mg base CX0 2 t.gi t.xV ["self","state"] S.qM) (Cp:aQ P w K mg base CX0 2 t.eY t.ue ["self","which"] S.mT) (Kn:aQ P w K mg base CX0 7 t.iZ t.BJ ["self","event"] S.vv) (Kc:aQ P w K mg base CX0 1 t.iV t.Cn ["self","most"] S.vL) (len:∀ vs H Q E,S.ask vs H Q E->vs.length=3)
  (rd:∀ vs H Q E,S.ask vs H Q E->akw K t S { nx:=λ_ H'=>Q .non H',rt:=Q } (start ["run","call","given"] vs) H) :
  aQ P w K mg base CX0 8 t.JD t.ahJ ["run","call","given"] S.ask:=by
 refine T.ad5.ok ak6 len (λcdv A outer s H vs Q E hr h=>⟨_,?_,rd vs H Q E h⟩)
 have nd:=ak6.nd
 have hu:=bS hr
 exact (ai (bK (aU cG (pv 1) (aR rfl T.Ij) (aZ _)) (au (aM (dM (aj (bh (pv 0) T.eT T.Vg (Kn.mono (k:=7) (by decide)) hr T.Dc .nil aS (aj (br aG (pv 2) aF (λ_ _=>rfl)) aA)) aA)))) aY)
  (ai (bK (aU cG (pv 1) (aR rfl T.WI) (aZ _)) (au (aM (dM (aj (bh (pv 0) T.eT T.QG (FJ.mono (k:=7) (by decide)) hr T.yF .nil aS (aj (br aG (pv 2) aF (λ_ _=>rfl)) aA)) aA)))) aY)
  (ai (bK (aU cG (pv 1) (aR rfl T.uG) (aZ _)) (au (aM (bh (pv 0) T.eT T.MS (Cp.mono (k:=7) (by decide)) hr T.tX .nil aS (aj (br aG (pv 2) aF (λ_ _=>rfl)) aA)))) aY)
  (au (aM (bh (pv 0) T.eT T.Vj (Kc.mono (k:=7) (by decide)) hr T.CJ .nil aS (aj (br aG (pv 2) aF (λ_ _=>rfl)) aA)))))))
def S2 (K:W.Frag) (t:Adr) (S:Sps):TS:=
 (aK (cP (bw (tOp rEq (aa 1) (tC (.int (0))))) (bG (kC (aB (bD t.aE "begin" S.gw [] E0 (aa 0) aJ) aJ))) bL)
  (aK (cP (bw (tOp (rI0 λi j=>.bl (decide (j < i))) (aa 1) (tC (.int (7))))) (bG (tIf (tB (aok (aN K (aa 0) "run"))) (kC (aB (tC (.int (-4))) aJ)) (cW S.ask [] E0 (aB (aN K (aa 0) "run") (aB (aa 1) (aB (aa 2) aJ)))))) bL)
  (aK (cP (tB (ajI (aN K (aa 0) "run"))) (bG (kC (aB (tC (.int (-3))) aJ))) bL)
  (bG (tIf (bw (tOp rEq (aa 1) (tC (.int (7))))) (kC (aB (cW S.start [] E0 (aB (aa 0) aJ)) aJ)) (kC (aB (cW S.tell [] E0 (aB (aa 0) (aB (aa 1) (aB (aa 2) aJ)))) aJ)))))))
theorem XR:aW ["chart","call","given"] ["chart","call","given"] (ah qd):=by trivial
theorem ai5 {S:Sps} (T:Txt K mg t) (jX:aQ P w K mg base CX0 3 t.di t.lV ["self"] S.gw) (alz:aQ P w K mg base CX0 8 t.JD t.ahJ ["run","call","given"] S.ask) (Z1:aQ P w K mg base CX0 9 t.rG t.RO ["chart"] S.start) (agG:aQ P w K mg base CX0 5 t.Ak t.YU ["chart","call","given"] S.tell) (len:∀ vs H Q E,S.answer vs H Q E->vs.length=3)
  (rd:∀ vs H Q E,S.answer vs H Q E->S2 K t S { nx:=λ_ H'=>Q .non H',rt:=Q } (start ["chart","call","given"] vs) H) :
  aQ P w K mg base CX0 10 t.mh t.Mz ["chart","call","given"] S.answer:=by
 refine T.D0.ok XR len (λcdv A outer s H vs Q E hr h=>⟨_,?_,rd vs H Q E h⟩)
 have nd:=XR.nd
 have hu:=bS hr
 exact (ai (bK (aU cG (pv 1) (aR rfl T.A3) (aZ _)) (au (aM (dM (aj (iI (pv 0) T.bX T.Al (jX.mono (k:=9) (by decide)) hr T.mj .nil aS) aA)))) aY)
  (ai (bK (aU anL (pv 1) (aR rfl T.vR) (aZ _)) (au (aM (Fb (alI (aoP (az (pv 0) rfl))) (dM (aj (aR rfl T.Ic) aA)) (bC (alz.mono (k:=9) (by decide)) hr rfl T.alC T.anJ T.ahS .nil aS (aj (az (pv 0) rfl) (aj (pv 1) (aj (pv 2) aA))))))) aY)
  (ai (bK (alI (amz (az (pv 0) rfl))) (au (aM (dM (aj (aR rfl T.qm) aA)))) aY)
  (au (aM (Fb (aU cG (pv 1) (aR rfl T.vR) (aZ _)) (dM (aj (bC (Z1.mono (k:=9) (by decide)) hr rfl T.ad9 T.ahH T.RQ .nil aS (aj (pv 0) aA)) aA)) (dM (aj (bC (agG.mono (k:=9) (by decide)) hr rfl T.ah4 T.aj6 T.abE .nil aS (aj (pv 0) (aj (pv 1) (aj (pv 2) aA)))) aA))))))))
def OO (K:W.Frag) (t:Adr) (S:Sps):TS:=
 (aK (c5 (Hf t.aE S.m8 [] E0 aJ) (aX 1))
  (aK (c5 (kC aJ) (aX 2))
  (aK (c5 (tC (.int 0)) (aX 3))
  (aK (GZ (bw (tOp (rI0 λi j=>.bl (decide (i < j))) (aa 3) (tCB (FP K) (aB (aa 0) aJ)))) (aK (c5 (tOp (bY K) (aa 0) (aa 3)) (aX 4))
  (aK (c5 (tOp (rI0 λi j=>.int (i+j)) (tOp (rI0 λi j=>.int (i+j)) (aa 3) (tC (.int 1))) (an6 Ci (aa 4))) (aX 5))
  (aK (c5 (cW S.answer [] E0 (aB (aa 1) (aB (aa 4) (aB (tSl (ajJ K) (aa 0) (Sf (tOp (rI0 λi j=>.int (i+j)) (aa 3) (tC (.int 1)))) (Sf (aa 5))) aJ)))) (aX 6))
  (aK (fT (tBM K "list" eX (aa 2) (aB (tCB (FP K) (aB (aa 6) aJ)) aJ)))
  (aK (fT (tBM K "list" ahD (aa 2) (aB (aa 6) aJ)))
  (c5 (aa 5) (aX 3))))))))
  (bG (aa 2))))))
theorem UM:aW ["calls","chart","told","at","call","behind","numbers"] ["calls"] (ah lz):=by trivial
theorem ahd {S:Sps} (T:Txt K mg t) (Cy:aQ P w K mg base CX0 4 t.fk t.t7 ["self"] S.m8) (S4:aQ P w K mg base CX0 10 t.mh t.Mz ["chart","call","given"] S.answer) (len:∀ vs H Q E,S.answers vs H Q E->vs.length=1)
  (rd:∀ vs H Q E,S.answers vs H Q E->OO K t S { nx:=λ_ H'=>Q .non H',rt:=Q } (start ["calls","chart","told","at","call","behind","numbers"] vs) H) :
  aQ P w K mg base CX0 11 t.jh t.uC ["calls"] S.answers:=by
 refine T.AW.ok UM len (λcdv A outer s H vs Q E hr h=>⟨_,?_,rd vs H Q E h⟩)
 have nd:=UM.nd
 have hu:=bS hr
 exact (ai (bE (i:=1) nd rfl (Or.inl rfl) (aj5 T.p8 (Cy.mono (k:=9) (by decide)) hr rfl T.ae3 T.uc .nil aS))
  (ai (bE (i:=2) nd rfl (Or.inl rfl) (dM aA))
  (ai (bE (i:=3) nd rfl (Or.inl rfl) aF)
  (ai (wQ PassesOwn.never (aU aeV (pv 3) (fU ck rfl T.iT PySem.boot_len (aj (pv 0) aA)) (aZ _)) (ai (bE (i:=4) nd rfl (Or.inl rfl) (br aG (pv 0) (pv 3) (λ_ _=>rfl)))
  (ai (bE (i:=5) nd rfl (Or.inl rfl) (cS Cs (cS Cs (pv 3) aF) (aos rfl T.Xl (pv 4))))
  (ai (bE (i:=6) nd rfl (Or.inl rfl) (bC (S4.mono (k:=10) (by decide)) hr rfl T.WS T.ad1 T.Nc .nil aS (aj (pv 1) (aj (pv 4) (aj (NI RX (pv 0) (N3 (cS Cs (pv 3) aF)) (N3 (pv 5))) aA)))))
  (ai (cO (qh PySem.F.plainAttrs_list PySem.F.slot_list_append PySem.F.type_list_append dH (pv 2) (aj (fU ck rfl T.iT PySem.boot_len (aj (pv 6) aA)) aA)))
  (ai (cO (qh PySem.F.plainAttrs_list PySem.F.slot_list_extend PySem.F.type_list_extend ajz (pv 2) (aj (pv 6) aA)))
  (au (bE (i:=3) nd rfl (Or.inl rfl) (pv 5)))))))))
  (au (aM (pv 2)))))))
end SC
namespace SC
open PySem L2
variable {K:W.Frag} {mg:Str->Option Value}
theorem us0 {P:List Value->Prop} (h:P []):∀ us,us.length=0->P us
 | [],_=>h
theorem usS {n:Nat} {P:List Value->Prop} (h:∀ a us,us.length=n->P (a::us)):∀ us,us.length=n+1->P us
 | a::us,e=>h a us (Nat.succ.inj e)
theorem us1 {P:List Value->Prop} (h:∀ a,P [a]):∀ us,us.length=1->P us:=usS λa=>us0 (P:=λl=>P (a::l)) (h a)
theorem us2 {P:List Value->Prop} (h:∀ a b,P [a,b]):∀ us,us.length=2->P us:=usS λa=>us1 (P:=λl=>P (a::l)) (h a)
theorem us3 {P:List Value->Prop} (h:∀ a b c,P [a,b,c]):∀ us,us.length=3->P us:=usS λa=>us2 (P:=λl=>P (a::l)) (h a)
theorem us4 {P:List Value->Prop} (h:∀ a b c d,P [a,b,c,d]):∀ us,us.length=4->P us:=usS λa=>us3 (P:=λl=>P (a::l)) (h a)
theorem us5 {P:List Value->Prop} (h:∀ a b c d e,P [a,b,c,d,e]):∀ us,us.length=5->P us:=usS λa=>us4 (P:=λl=>P (a::l)) (h a)
theorem us6 {P:List Value->Prop} (h:∀ a b c d e f,P [a,b,c,d,e,f]):∀ us,us.length=6->P us:=usS λa=>us5 (P:=λl=>P (a::l)) (h a)
theorem aoc {h:Heap} {fa:Addr} (X:K.In h) (G:h.Ns mainGlobals mg) (hfa:mg "answers"=some (.ref fa))
  {bA:Addr}
  {eV:Addr}
  {aE:Addr}
  {bz:Addr}
  {fN:Addr}
  {aV:Addr}
  {eN:Addr} {aab:Value} {aaF M9:Option Addr} {X3:Array (Option Value)} {MG Na MX CG ML:Value}
  {lT:Addr} {aiH:Value} {aiY XI:Option Addr} {aiK:Array (Option Value)} {WR Xu Xe Om WU:Value}
  {je:Addr} {ahh:Value} {agk TQ:Option Addr} {aht:Array (Option Value)} {Td Ti Ur Ko U4:Value}
  {dZ:Addr} {VQ:Value} {VS Jx:Option Addr} {Wq:Array (Option Value)} {IW Jj JN zR JK:Value}
  {bf:Addr} {IB:Value} {II tL:Option Addr} {IK:Array (Option Value)} {tH tT tU lK tG:Value}
  {iW:Addr} {aex:Value} {afo Pf:Option Addr} {ad8:Array (Option Value)} {QJ Pn Pr Hy Pg:Value}
  {fk:Addr} {V1:Value} {Wc Ji:Option Addr} {V5:Array (Option Value)} {Jd JA Jl zx JL:Value}
  {di:Addr} {Vs:Value} {UE HU:Option Addr} {Sq:Array (Option Value)} {HP Hu FZ uQ GK:Value}
  {dS:Addr} {Vw:Value} {UY FL:Option Addr} {Uv:Array (Option Value)} {FH FT EN vo GL:Value}
  {c9:Addr} {Rw:Value} {Rj Dr:Option Addr} {RG:Array (Option Value)} {DE Dk Dm sS DJ:Value}
  {gk:Addr} {aaS:Value} {aaT LL:Option Addr} {Yh:Array (Option Value)} {LW Lu Lr Bw NQ:Value}
  {dR:Addr} {TZ:Value} {TU En:Option Addr} {S9:Array (Option Value)} {Fy EF FN xE Hq:Value}
  {gf:Addr} {ab0:Value} {abV MB:Option Addr} {Yz:Array (Option Value)} {L1 Mc MT Cv Lx:Value}
  {iR:Addr} {ae7:Value} {ae1 Qm:Option Addr} {aeT:Array (Option Value)} {QI QA Qz HR O9:Value}
  {bH:Addr} {J6:Value} {KJ vD:Option Addr} {JR:Array (Option Value)} {wW wj we nH uM:Value}
  {cF:Addr} {OD:Value} {OV AY:Option Addr} {Ol:Array (Option Value)} {AJ A0 Bf qo AZ:Value}
  {cM:Addr} {Te:Value} {S0 ED:Option Addr} {Tc:Array (Option Value)} {GQ Eh HA vn EH:Value}
  {bZ:Addr} {Ln:Value} {J8 uT:Option Addr} {Lq:Array (Option Value)} {vt wY xB nE uP:Value}
  {cA:Addr} {K5:Value} {Ky vP:Option Addr} {J1:Array (Option Value)} {v9 uI uL mV vm:Value}
  {cy:Addr} {KP:Value} {Lp wH:Option Addr} {KC:Array (Option Value)} {uO vW vX m6 vj:Value}
  {cI:Addr} {NR:Value} {LA yX:Option Addr} {NY:Array (Option Value)} {yR yO zc nY yE:Value}
  {cH:Addr} {LV:Value} {Mb yk:Option Addr} {NP:Array (Option Value)} {xZ xR zo pS xP:Value}
  {cg:Addr} {IJ:Value} {IG tP:Option Addr} {IC:Array (Option Value)} {tN tV tM lQ tO:Value}
  {gC:Addr} {al4:Value} {am4 ahI:Option Addr} {anu:Array (Option Value)} {ah2 ahz aid ZP aij:Value}
  {iX:Addr} {afH:Value} {afy O7:Option Addr} {afT:Array (Option Value)} {Qn Qk QE HS Pw:Value}
  {jc:Addr} {aiN:Value} {aiM Xs:Option Addr} {aiO:Array (Option Value)} {W5 XF WJ Ow W6:Value}
  {c7:Addr} {Q4:Value} {Q8 Du:Option Addr} {Rr:Array (Option Value)} {DB DC Dp sQ DL:Value}
  {dO:Addr} {Ul:Value} {Th EM:Option Addr} {Se:Array (Option Value)} {Gw Eo EV uN D6:Value}
  {fE:Addr} {Y7:Value} {XS LK:Option Addr} {YZ:Array (Option Value)} {LJ NH MY CC MZ:Value}
  {l8:Addr} {ai0:Value} {ai6 Xi:Option Addr} {ajt:Array (Option Value)} {W7 XH W9 OA Xp:Value}
  {dQ:Addr} {SR:Value} {Up EA:Option Addr} {Uy:Array (Option Value)} {Fv EW EU wR Ge:Value}
  {gm:Addr} {abl:Value} {Zp MW:Option Addr} {YE:Array (Option Value)} {MD Mv Nb BA LF:Value}
  {dg:Addr} {Rv:Value} {RC Dz:Option Addr} {Rf:Array (Option Value)} {Ds Dv Dw sI Dg:Value}
  {dh:Addr} {Uo:Value} {TV Fd:Option Addr} {SE:Array (Option Value)} {E7 E9 E8 wu F2:Value}
  {dj:Addr} {Rh:Value} {QZ DP:Option Addr} {Ri:Array (Option Value)} {Dj DU DK sV Dl:Value}
  {cJ:Addr} {M0:Value} {MM yH:Option Addr} {N4:Array (Option Value)} {yI yf yu oH yT:Value}
  {gc:Addr} {aat:Value} {YX NX:Option Addr} {abt:Array (Option Value)} {M7 M8 Ma Cf Nm:Value}
  {rj:Addr} {ak7:Value} {akX agb:Option Addr} {ajU:Array (Option Value)} {aeW afZ aet Sm afP:Value}
  {gy:Addr} {aa2:Value} {abp Nz:Option Addr} {XZ:Array (Option Value)} {Mf Nf Nj B9 Mh:Value}
  {iU:Addr} {af6:Value} {afd PK:Option Addr} {afi:Array (Option Value)} {Qo O5 Qq EZ PM:Value}
  {gq:Addr} {abg:Value} {abX Me:Option Addr} {ZF:Array (Option Value)} {Np MV NB BW MO:Value}
  {iZ:Addr} {aeg:Value} {ae5 Qi:Option Addr} {afr:Array (Option Value)} {Qw P0 Ph GX Qp:Value}
  {gi:Addr} {aaz:Value} {abH Nh:Option Addr} {aaB:Array (Option Value)} {L5 NJ Ly BR Mp:Value}
  {eY:Addr} {WC:Value} {Wg Jo:Option Addr} {WA:Array (Option Value)} {IU Jq Jw zL Jr:Value}
  {iV:Addr} {af2:Value} {aek PZ:Option Addr} {aev:Array (Option Value)} {O3 Py PJ Em PL:Value}
  {d9:Addr} {V9:Value} {Wj Je:Option Addr} {VY:Array (Option Value)} {Jy Ju JI z6 Jc:Value}
  {fG:Addr} {aa5:Value} {Yy Mm:Option Addr} {YK:Array (Option Value)} {Lw My LO BE NW:Value}
  {gh:Addr} {Yw:Value} {YG ND:Option Addr} {Yk:Array (Option Value)} {M4 L8 Nq B0 LG:Value}
  {c8:Addr} {QY:Value} {Q9 DH:Option Addr} {RE:Array (Option Value)} {DM DG DR sN Dn:Value}
  {iQ:Addr} {aeu:Value} {afe Pu:Option Addr} {ad4:Array (Option Value)} {Pe Qt QK HK QF:Value}
  {fu:Addr} {VI:Value} {Ws Jp:Option Addr} {VX:Array (Option Value)} {Jv Jt Jz AD JH:Value}
  {gI:Addr} {aee:Value} {afg Pc:Option Addr} {aeI:Array (Option Value)} {Qx Pa Pz Hi Pp:Value}
  {dD:Addr} {Rc:Value} {Q7 Dt:Option Addr} {RB:Array (Option Value)} {Dh DS Dq sR Dy:Value}
  {gx:Addr} {YL:Value} {abx Nv:Option Addr} {aaD:Array (Option Value)} {NO MA Mx BP LQ:Value}
  {dU:Addr} {Tu:Value} {UN Gq:Option Addr} {SY:Array (Option Value)} {HL F4 Gm vh Er:Value}
  {gM:Addr} {af7:Value} {afs Qs:Option Addr} {afA:Array (Option Value)} {PU QC Px Ep Qg:Value}
  {jV:Addr} {agY:Value} {ahr Sj:Option Addr} {agL:Array (Option Value)} {S6 UQ S7 KG UB:Value}
  {jT:Addr} {aiS:Value} {ajx XG:Option Addr} {ajo:Array (Option Value)} {Xk Xo Xv Ob Xd:Value}
  {Ak:Addr} {anm:Value} {amP ahZ:Option Addr} {anb:Array (Option Value)} {ahQ ah0 ahC Zv ahF:Value}
  {rG:Addr} {akA:Value} {ajR ae6:Option Addr} {ak0:Array (Option Value)} {afX af1 adZ SG aeO:Value}
  {JD:Addr} {aoG:Value} {aov alN:Option Addr} {anO:Array (Option Value)} {als ajM ali agJ akS:Value}
  {mh:Addr} {ajG:Value} {ajr Xf:Option Addr} {ajb:Array (Option Value)} {Xw WK WZ OJ Xb:Value}
  {jh:Addr} {agP:Value} {ahl Uh:Option Addr} {agN:Array (Option Value)} {Vb SJ Vf JP Va:Value}
  {amL:Tok}
  {afM:Tok}
  {QW:Tok}
  {aob:Tok}
  {ag5:Tok}
  {amq:Tok}
  {ait:Tok}
  {aoY:Tok}
  {akV:Tok}
  {ajP:Tok}
  {amb:Tok}
  {Ua:Tok}
  {Z3:Tok}
  {Yq:Tok}
  {Vt:Tok}
  {Wt:Tok}
  {aeL:Tok}
  {Vk:Tok}
  {anw:Tok}
  {agn:Tok}
  {al5:Tok}
  {ami:Tok}
  {V7:Tok}
  {QX:Tok}
  {amo:Tok}
  {amW:Tok}
  {alJ:Tok}
  {alO:Tok}
  {ai9:Tok}
  {aoF:Tok}
  {akq:Tok}
  {aoq:Tok}
  {akz:Tok}
  {amH:Tok}
  {ape:Tok}
  {aiy:Tok}
  {agq:Tok}
  {ame:Tok}
  {Bc:Addr} {WM:Array DictEntry} {aiL:Nat}
  (Uq:W.nsIn K mainGlobals "State"=some (some (.ref bA)))
  (US:W.plainGet K bA Str.empty=true)
  (To:W.hasDictIn K bA=true)
  (UZ:W.plainOver K bA=true)
  (UA:W.findIn K (.ref bA) "__setattr__"=some (some (.builtin "object.__setattr__")))
  (p9:W.makesIn K bA=true)
  (SM:W.keepIn K (.ref bA)=true)
  (sM:W.findIn K (.ref bA) "parent"=some none)
  (zJ:W.findIn K (.ref bA) "kind"=some none)
  (m7:W.findIn K (.ref bA) "told_part"=some none)
  (ku:W.findIn K (.ref bA) "coming_acts"=some none)
  (j7:W.findIn K (.ref bA) "leaving_acts"=some none)
  (ag7:W.nsIn K mainGlobals "Way"=some (some (.ref eV)))
  (agK:W.plainGet K eV Str.empty=true)
  (ag1:W.hasDictIn K eV=true)
  (ag8:W.plainOver K eV=true)
  (ahu:W.findIn K (.ref eV) "__setattr__"=some (some (.builtin "object.__setattr__")))
  (Hj:W.makesIn K eV=true)
  (ahp:W.keepIn K (.ref eV)=true)
  (z8:W.findIn K (.ref eV) "source"=some none)
  (Bv:W.findIn K (.ref eV) "event"=some none)
  (z9:W.findIn K (.ref eV) "target"=some none)
  (Kv:W.findIn K (.ref eV) "ask"=some none)
  (Cj:W.findIn K (.ref eV) "which"=some none)
  (EC:W.findIn K (.ref eV) "much"=some none)
  (HN:W.findIn K (.ref eV) "acts"=some none)
  (Sw:W.nsIn K mainGlobals "Chart"=some (some (.ref aE)))
  (Uc:W.plainGet K aE Str.empty=true)
  (Sd:W.hasDictIn K aE=true)
  (T3:W.plainOver K aE=true)
  (VC:W.findIn K (.ref aE) "__setattr__"=some (some (.builtin "object.__setattr__")))
  (p8:W.makesIn K aE=true)
  (Vp:W.keepIn K (.ref aE)=true)
  (sY:W.findIn K (.ref aE) "states"=some none)
  (Ah:W.findIn K (.ref aE) "ways"=some none)
  (CM:W.findIn K (.ref aE) "run"=some none)
  (abi:W.nsIn K mainGlobals "Plan"=some (some (.ref bz)))
  (aay:W.plainGet K bz Str.empty=true)
  (aaO:W.hasDictIn K bz=true)
  (aaY:W.plainOver K bz=true)
  (Zt:W.findIn K (.ref bz) "__setattr__"=some (some (.builtin "object.__setattr__")))
  (yG:W.makesIn K bz=true)
  (X4:W.keepIn K (.ref bz)=true)
  (uZ:W.findIn K (.ref bz) "states"=some none)
  (CQ:W.findIn K (.ref bz) "ways"=some none)
  (xr:W.findIn K (.ref bz) "around"=some none)
  (Ay:W.findIn K (.ref bz) "inner"=some none)
  (lP:W.findIn K (.ref bz) "inner_parts"=some none)
  (vC:W.findIn K (.ref bz) "firsts"=some none)
  (Cw:W.findIn K (.ref bz) "ends"=some none)
  (AF:W.findIn K (.ref bz) "plain"=some none)
  (o9:W.findIn K (.ref bz) "histories"=some none)
  (lO:W.findIn K (.ref bz) "first_leads"=some none)
  (vG:W.findIn K (.ref bz) "offers"=some none)
  (aaE:W.nsIn K mainGlobals "Move"=some (some (.ref fN)))
  (Y9:W.plainGet K fN Str.empty=true)
  (ZJ:W.hasDictIn K fN=true)
  (abG:W.plainOver K fN=true)
  (Y0:W.findIn K (.ref fN) "__setattr__"=some (some (.builtin "object.__setattr__")))
  (Br:W.makesIn K fN=true)
  (Zl:W.keepIn K (.ref fN)=true)
  (BV:W.findIn K (.ref fN) "path"=some none)
  (zS:W.findIn K (.ref fN) "stays"=some none)
  (vS:W.findIn K (.ref fN) "leaves"=some none)
  (ag6:W.nsIn K mainGlobals "Run"=some (some (.ref aV)))
  (agZ:W.plainGet K aV Str.empty=true)
  (agz:W.hasDictIn K aV=true)
  (agM:W.plainOver K aV=true)
  (agA:W.findIn K (.ref aV) "__setattr__"=some (some (.builtin "object.__setattr__")))
  (B5:W.makesIn K aV=true)
  (agj:W.keepIn K (.ref aV)=true)
  (GR:W.findIn K (.ref aV) "plan"=some none)
  (xG:W.findIn K (.ref aV) "numbers"=some none)
  (BY:W.findIn K (.ref aV) "leads"=some none)
  (AB:W.findIn K (.ref aV) "active"=some none)
  (Ej:W.findIn K (.ref aV) "over"=some none)
  (zU:W.findIn K (.ref aV) "raised"=some none)
  (CH:W.findIn K (.ref aV) "heard"=some none)
  (Cq:W.findIn K (.ref aV) "trail"=some none)
  (EI:W.nsIn K mainGlobals "is_number"=some (some (.ref eN)))
  (HH:K.lookup eN=some ⟨aab,aaF,.func (W.fnOf "is_number" "is_number" (aD iP) (aC iP) (ah iP) .none MG Na MX M9 CG ML),X3⟩)
  (CN:W.codeIn K CG "is_number"=true)
  (tY:W.keepIn K (.ref eN)=true)
  (Uw:W.nsIn K mainGlobals "is_act"=some (some (.ref lT)))
  (Ue:K.lookup lT=some ⟨aiH,aiY,.func (W.fnOf "is_act" "is_act" (aD oj) (aC oj) (ah oj) .none WR Xu Xe XI Om WU),aiK⟩)
  (Ot:W.codeIn K Om "is_act"=true)
  (Iw:W.keepIn K (.ref lT)=true)
  (OB:W.nsIn K mainGlobals "add_act"=some (some (.ref je)))
  (Oc:K.lookup je=some ⟨ahh,agk,.func (W.fnOf "add_act" "add_act" (aD lI) (aC lI) (ah lI) .none Td Ti Ur TQ Ko U4),aht⟩)
  (J4:W.codeIn K Ko "add_act"=true)
  (Bs:W.keepIn K (.ref je)=true)
  (BZ:W.findIn K (.ref bA) "__init__"=some (some (.ref dZ)))
  (Ck:W.isFn K (.ref dZ)=true)
  (BB:K.lookup dZ=some ⟨VQ,VS,.func (W.fnOf "__init__" "State.__init__" (aD fX) (aC fX) (ah fX) .none IW Jj JN Jx zR JK),Wq⟩)
  (Az:W.codeIn K zR "State.__init__"=true)
  (zE:W.keepIn K (.ref dZ)=true)
  (mY:W.findIn K (.ref bA) "is_history"=some (some (.ref bf)))
  (nj:W.isFn K (.ref bf)=true)
  (mW:K.lookup bf=some ⟨IB,II,.func (W.fnOf "is_history" "State.is_history" (aD cE) (aC cE) (ah cE) .none tH tT tU tL lK tG),IK⟩)
  (lN:W.codeIn K lK "State.is_history"=true)
  (i7:W.keepIn K (.ref bf)=true)
  (JQ:W.findIn K (.ref eV) "__init__"=some (some (.ref iW)))
  (JT:W.isFn K (.ref iW)=true)
  (JY:K.lookup iW=some ⟨aex,afo,.func (W.fnOf "__init__" "Way.__init__" (aD jB) (aC jB) (ah jB) .none QJ Pn Pr Pf Hy Pg),ad8⟩)
  (EY:W.codeIn K Hy "Way.__init__"=true)
  (Fc:W.keepIn K (.ref iW)=true)
  (CL:W.findIn K (.ref aE) "__init__"=some (some (.ref fk)))
  (CV:W.isFn K (.ref fk)=true)
  (Ca:K.lookup fk=some ⟨V1,Wc,.func (W.fnOf "__init__" "Chart.__init__" (aD fZ) (aC fZ) (ah fZ) .none Jd JA Jl Ji zx JL),V5⟩)
  (Ao:W.codeIn K zx "Chart.__init__"=true)
  (Ax:W.keepIn K (.ref fk)=true)
  (Af:W.findIn K (.ref aE) "begin"=some (some (.ref di)))
  (Ab:W.isFn K (.ref di)=true)
  (zy:K.lookup di=some ⟨Vs,UE,.func (W.fnOf "begin" "Chart.begin" (aD ff) (aC ff) (ah ff) .none HP Hu FZ HU uQ GK),Sq⟩)
  (xj:W.codeIn K uQ "Chart.begin"=true)
  (om:W.keepIn K (.ref di)=true)
  (zq:W.findIn K (.ref aE) "state"=some (some (.ref dS)))
  (AA:W.isFn K (.ref dS)=true)
  (zD:K.lookup dS=some ⟨Vw,UY,.func (W.fnOf "state" "Chart.state" (aD fj) (aC fj) (ah fj) .none FH FT EN FL vo GL),Uv⟩)
  (uS:W.codeIn K vo "Chart.state"=true)
  (qg:W.keepIn K (.ref dS)=true)
  (xq:W.findIn K (.ref aE) "begins"=some (some (.ref c9)))
  (xJ:W.isFn K (.ref c9)=true)
  (wD:K.lookup c9=some ⟨Rw,Rj,.func (W.fnOf "begins" "Chart.begins" (aD dY) (aC dY) (ah dY) .none DE Dk Dm Dr sS DJ),RG⟩)
  (sO:W.codeIn K sS "Chart.begins"=true)
  (mK:W.keepIn K (.ref c9)=true)
  (Hr:W.findIn K (.ref aE) "way"=some (some (.ref gk)))
  (GC:W.isFn K (.ref gk)=true)
  (G0:K.lookup gk=some ⟨aaS,aaT,.func (W.fnOf "way" "Chart.way" (aD ir) (aC ir) (ah ir) .none LW Lu Lr LL Bw NQ),Yh⟩)
  (CS:W.codeIn K Bw "Chart.way"=true)
  (uf:W.keepIn K (.ref gk)=true)
  (zP:W.findIn K (.ref aE) "guard"=some (some (.ref dR)))
  (AE:W.isFn K (.ref dR)=true)
  (zG:K.lookup dR=some ⟨TZ,TU,.func (W.fnOf "guard" "Chart.guard" (aD fc) (aC fc) (ah fc) .none Fy EF FN En xE Hq),S9⟩)
  (wA:W.codeIn K xE "Chart.guard"=true)
  (qe:W.keepIn K (.ref dR)=true)
  (F7:W.findIn K (.ref aE) "act"=some (some (.ref gf)))
  (GI:W.isFn K (.ref gf)=true)
  (Es:K.lookup gf=some ⟨ab0,abV,.func (W.fnOf "act" "Chart.act" (aD iF) (aC iF) (ah iF) .none L1 Mc MT MB Cv Lx),Yz⟩)
  (CT:W.codeIn K Cv "Chart.act"=true)
  (uz:W.keepIn K (.ref gf)=true)
  (Kw:W.findIn K (.ref aE) "on"=some (some (.ref iR)))
  (Lf:W.isFn K (.ref iR)=true)
  (JS:K.lookup iR=some ⟨ae7,ae1,.func (W.fnOf "on" "Chart.on" (aD jN) (aC jN) (ah jN) .none QI QA Qz Qm HR O9),aeT⟩)
  (Fw:W.codeIn K HR "Chart.on"=true)
  (yh:W.keepIn K (.ref iR)=true)
  (oJ:W.findIn K (.ref aE) "has_state"=some (some (.ref bH)))
  (pR:W.isFn K (.ref bH)=true)
  (pO:K.lookup bH=some ⟨J6,KJ,.func (W.fnOf "has_state" "Chart.has_state" (aD cQ) (aC cQ) (ah cQ) .none wW wj we vD nH uM),JR⟩)
  (nG:W.codeIn K nH "Chart.has_state"=true)
  (jG:W.keepIn K (.ref bH)=true)
  (tF:W.findIn K (.ref aE) "has_way"=some (some (.ref cF)))
  (sX:W.isFn K (.ref cF)=true)
  (sW:K.lookup cF=some ⟨OD,OV,.func (W.fnOf "has_way" "Chart.has_way" (aD dG) (aC dG) (ah dG) .none AJ A0 Bf AY qo AZ),Ol⟩)
  (qI:W.codeIn K qo "Chart.has_way"=true)
  (lF:W.keepIn K (.ref cF)=true)
  (zM:W.findIn K (.ref aE) "parts"=some (some (.ref cM)))
  (Ac:W.isFn K (.ref cM)=true)
  (zz:K.lookup cM=some ⟨Te,S0,.func (W.fnOf "parts" "Chart.parts" (aD fz) (aC fz) (ah fz) .none GQ Eh HA ED vn EH),Tc⟩)
  (vq:W.codeIn K vn "Chart.parts"=true)
  (pG:W.keepIn K (.ref cM)=true)
  (oR:W.findIn K (.ref aE) "beginning"=some (some (.ref bZ)))
  (oh:W.isFn K (.ref bZ)=true)
  (pQ:K.lookup bZ=some ⟨Ln,J8,.func (W.fnOf "beginning" "Chart.beginning" (aD cT) (aC cT) (ah cT) .none vt wY xB uT nE uP),Lq⟩)
  (m9:W.codeIn K nE "Chart.beginning"=true)
  (jM:W.keepIn K (.ref bZ)=true)
  (pY:W.findIn K (.ref aE) "is_within"=some (some (.ref cA)))
  (nX:W.isFn K (.ref cA)=true)
  (oF:K.lookup cA=some ⟨K5,Ky,.func (W.fnOf "is_within" "Chart.is_within" (aD cR) (aC cR) (ah cR) .none v9 uI uL vP mV vm),J1⟩)
  (nv:W.codeIn K mV "Chart.is_within"=true)
  (jv:W.keepIn K (.ref cA)=true)
  (oE:W.findIn K (.ref aE) "may_start"=some (some (.ref cy)))
  (oO:W.isFn K (.ref cy)=true)
  (nU:K.lookup cy=some ⟨KP,Lp,.func (W.fnOf "may_start" "Chart.may_start" (aD cN) (aC cN) (ah cN) .none uO vW vX wH m6 vj),KC⟩)
  (nI:W.codeIn K m6 "Chart.may_start"=true)
  (jC:W.keepIn K (.ref cy)=true)
  (qO:W.findIn K (.ref aE) "may_hold"=some (some (.ref cI)))
  (qB:W.isFn K (.ref cI)=true)
  (qk:K.lookup cI=some ⟨NR,LA,.func (W.fnOf "may_hold" "Chart.may_hold" (aD cY) (aC cY) (ah cY) .none yR yO zc yX nY yE),NY⟩)
  (pq:W.codeIn K nY "Chart.may_hold"=true)
  (kc:W.keepIn K (.ref cI)=true)
  (qJ:W.findIn K (.ref aE) "may_lead"=some (some (.ref cH)))
  (qL:W.isFn K (.ref cH)=true)
  (qj:K.lookup cH=some ⟨LV,Mb,.func (W.fnOf "may_lead" "Chart.may_lead" (aD cX) (aC cX) (ah cX) .none xZ xR zo yk pS xP),NP⟩)
  (pD:W.codeIn K pS "Chart.may_lead"=true)
  (kg:W.keepIn K (.ref cH)=true)
  (ny:W.findIn K (.ref aE) "may_recall"=some (some (.ref cg)))
  (mU:W.isFn K (.ref cg)=true)
  (nt:K.lookup cg=some ⟨IJ,IG,.func (W.fnOf "may_recall" "Chart.may_recall" (aD cC) (aC cC) (ah cC) .none tN tV tM tP lQ tO),IC⟩)
  (lJ:W.codeIn K lQ "Chart.may_recall"=true)
  (i8:W.keepIn K (.ref cg)=true)
  (agr:W.nsIn K mainGlobals "mark"=some (some (.ref gC)))
  (agF:K.lookup gC=some ⟨al4,am4,.func (W.fnOf "mark" "mark" (aD BH) (aC BH) (ah BH) .none ah2 ahz aid ahI ZP aij),anu⟩)
  (Yv:W.codeIn K ZP "mark"=true)
  (RT:W.keepIn K (.ref gC)=true)
  (KA:W.nsIn K mainGlobals "marks_of"=some (some (.ref iX)))
  (Kh:K.lookup iX=some ⟨afH,afy,.func (W.fnOf "marks_of" "marks_of" (aD ju) (aC ju) (ah ju) .none Qn Qk QE O7 HS Pw),afT⟩)
  (GB:W.codeIn K HS "marks_of"=true)
  (ym:W.keepIn K (.ref iX)=true)
  (TF:W.nsIn K mainGlobals "marked"=some (some (.ref jc)))
  (UW:K.lookup jc=some ⟨aiN,aiM,.func (W.fnOf "marked" "marked" (aD pC) (aC pC) (ah pC) .none W5 XF WJ Xs Ow W6),aiO⟩)
  (Od:W.codeIn K Ow "marked"=true)
  (HY:W.keepIn K (.ref jc)=true)
  (vQ:W.nsIn K mainGlobals "around_marks"=some (some (.ref c7)))
  (vY:K.lookup c7=some ⟨Q4,Q8,.func (W.fnOf "around_marks" "around_marks" (aD d7) (aC d7) (ah d7) .none DB DC Dp Du sQ DL),Rr⟩)
  (sL:W.codeIn K sQ "around_marks"=true)
  (mQ:W.keepIn K (.ref c7)=true)
  (zB:W.nsIn K mainGlobals "inner_marks"=some (some (.ref dO)))
  (Au:K.lookup dO=some ⟨Ul,Th,.func (W.fnOf "inner_marks" "inner_marks" (aD eW) (aC eW) (ah eW) .none Gw Eo EV EM uN D6),Se⟩)
  (vz:W.codeIn K uN "inner_marks"=true)
  (pI:W.keepIn K (.ref dO)=true)
  (HG:W.nsIn K mainGlobals "ways_from"=some (some (.ref fE)))
  (FI:K.lookup fE=some ⟨Y7,XS,.func (W.fnOf "ways_from" "ways_from" (aD iJ) (aC iJ) (ah iJ) .none LJ NH MY LK CC MZ),YZ⟩)
  (CU:W.codeIn K CC "ways_from"=true)
  (uu:W.keepIn K (.ref fE)=true)
  (Uu:W.nsIn K mainGlobals "offers"=some (some (.ref l8)))
  (UX:K.lookup l8=some ⟨ai0,ai6,.func (W.fnOf "offers" "offers" (aD pV) (aC pV) (ah pV) .none W7 XH W9 Xi OA Xp),ajt⟩)
  (OT:W.codeIn K OA "offers"=true)
  (Io:W.keepIn K (.ref l8)=true)
  (zK:W.nsIn K mainGlobals "first_leads"=some (some (.ref dQ)))
  (Ae:K.lookup dQ=some ⟨SR,Up,.func (W.fnOf "first_leads" "first_leads" (aD fh) (aC fh) (ah fh) .none Fv EW EU EA wR Ge),Uy⟩)
  (vd:W.codeIn K wR "first_leads"=true)
  (o5:W.keepIn K (.ref dQ)=true)
  (EO:W.findIn K (.ref bz) "__init__"=some (some (.ref gm)))
  (FO:W.isFn K (.ref gm)=true)
  (FF:K.lookup gm=some ⟨abl,Zp,.func (W.fnOf "__init__" "Plan.__init__" (aD gX) (aC gX) (ah gX) .none MD Mv Nb MW BA LF),YE⟩)
  (Df:W.codeIn K BA "Plan.__init__"=true)
  (Cu:W.keepIn K (.ref gm)=true)
  (wF:W.findIn K (.ref bz) "nearest"=some (some (.ref dg)))
  (uY:W.isFn K (.ref dg)=true)
  (uV:K.lookup dg=some ⟨Rv,RC,.func (W.fnOf "nearest" "Plan.nearest" (aD dX) (aC dX) (ah dX) .none Ds Dv Dw Dz sI Dg),Rf⟩)
  (sJ:W.codeIn K sI "Plan.nearest"=true)
  (mF:W.keepIn K (.ref dg)=true)
  (Am:W.findIn K (.ref bz) "filled"=some (some (.ref dh)))
  (AH:W.isFn K (.ref dh)=true)
  (AG:K.lookup dh=some ⟨Uo,TV,.func (W.fnOf "filled" "Plan.filled" (aD fq) (aC fq) (ah fq) .none E7 E9 E8 Fd wu F2),SE⟩)
  (xy:W.codeIn K wu "Plan.filled"=true)
  (pN:W.keepIn K (.ref dh)=true)
  (wC:W.findIn K (.ref bz) "brought"=some (some (.ref dj)))
  (xF:W.isFn K (.ref dj)=true)
  (vN:K.lookup dj=some ⟨Rh,QZ,.func (W.fnOf "brought" "Plan.brought" (aD eB) (aC eB) (ah eB) .none Dj DU DK DP sV Dl),Ri⟩)
  (sU:W.codeIn K sV "Plan.brought"=true)
  (mJ:W.keepIn K (.ref dj)=true)
  (qW:W.findIn K (.ref bz) "has_ended"=some (some (.ref cJ)))
  (ql:W.isFn K (.ref cJ)=true)
  (qG:K.lookup cJ=some ⟨M0,MM,.func (W.fnOf "has_ended" "Plan.has_ended" (aD cZ) (aC cZ) (ah cZ) .none yI yf yu yH oH yT),N4⟩)
  (oM:W.codeIn K oH "Plan.has_ended"=true)
  (ki:W.keepIn K (.ref cJ)=true)
  (EB:W.nsIn K mainGlobals "with_sign"=some (some (.ref gc)))
  (Hz:K.lookup gc=some ⟨aat,YX,.func (W.fnOf "with_sign" "with_sign" (aD iu) (aC iu) (ah iu) .none M7 M8 Ma NX Cf Nm),abt⟩)
  (BC:W.codeIn K Cf "with_sign"=true)
  (uo:W.keepIn K (.ref gc)=true)
  (ZZ:W.nsIn K mainGlobals "is_so"=some (some (.ref rj)))
  (Z2:K.lookup rj=some ⟨ak7,akX,.func (W.fnOf "is_so" "is_so" (aD ud) (aC ud) (ah ud) .none aeW afZ aet agb Sm afP),ajU⟩)
  (Ut:W.codeIn K Sm "is_so"=true)
  (MP:W.keepIn K (.ref rj)=true)
  (Ht:W.findIn K (.ref fN) "__init__"=some (some (.ref gy)))
  (FD:W.isFn K (.ref gy)=true)
  (F8:K.lookup gy=some ⟨aa2,abp,.func (W.fnOf "__init__" "Move.__init__" (aD gY) (aC gY) (ah gY) .none Mf Nf Nj Nz B9 Mh),XZ⟩)
  (BG:W.codeIn K B9 "Move.__init__"=true)
  (Co:W.keepIn K (.ref gy)=true)
  (KD:W.findIn K (.ref aV) "__init__"=some (some (.ref iU)))
  (Kl:W.isFn K (.ref iU)=true)
  (Ku:K.lookup iU=some ⟨af6,afd,.func (W.fnOf "__init__" "Run.__init__" (aD jH) (aC jH) (ah jH) .none Qo O5 Qq PK EZ PM),afi⟩)
  (GF:W.codeIn K EZ "Run.__init__"=true)
  (Hh:W.keepIn K (.ref iU)=true)
  (Ey:W.findIn K (.ref aV) "start"=some (some (.ref gq)))
  (GW:W.isFn K (.ref gq)=true)
  (Gj:K.lookup gq=some ⟨abg,abX,.func (W.fnOf "start" "Run.start" (aD iM) (aC iM) (ah iM) .none Np MV NB Me BW MO),ZF⟩)
  (BN:W.codeIn K BW "Run.start"=true)
  (uy:W.keepIn K (.ref gq)=true)
  (Lg:W.findIn K (.ref aV) "send"=some (some (.ref iZ)))
  (JV:W.isFn K (.ref iZ)=true)
  (J2:K.lookup iZ=some ⟨aeg,ae5,.func (W.fnOf "send" "Run.send" (aD jI) (aC jI) (ah jI) .none Qw P0 Ph Qi GX Qp),afr⟩)
  (HJ:W.codeIn K GX "Run.send"=true)
  (yQ:W.keepIn K (.ref iZ)=true)
  (Ec:W.findIn K (.ref aV) "is_in"=some (some (.ref gi)))
  (E5:W.isFn K (.ref gi)=true)
  (FY:K.lookup gi=some ⟨aaz,abH,.func (W.fnOf "is_in" "Run.is_in" (aD iE) (aC iE) (ah iE) .none L5 NJ Ly Nh BR Mp),aaB⟩)
  (Cc:W.codeIn K BR "Run.is_in"=true)
  (t6:W.keepIn K (.ref gi)=true)
  (BK:W.findIn K (.ref aV) "number"=some (some (.ref eY)))
  (Cm:W.isFn K (.ref eY)=true)
  (C2:K.lookup eY=some ⟨WC,Wg,.func (W.fnOf "number" "Run.number" (aD fY) (aC fY) (ah fY) .none IU Jq Jw Jo zL Jr),WA⟩)
  (zZ:W.codeIn K zL "Run.number"=true)
  (qY:W.keepIn K (.ref eY)=true)
  (JZ:W.findIn K (.ref aV) "take"=some (some (.ref iV)))
  (K4:W.isFn K (.ref iV)=true)
  (K8:K.lookup iV=some ⟨af2,aek,.func (W.fnOf "take" "Run.take" (aD jx) (aC jx) (ah jx) .none O3 Py PJ PZ Em PL),aev⟩)
  (Ea:W.codeIn K Em "Run.take"=true)
  (yx:W.keepIn K (.ref iV)=true)
  (BO:W.findIn K (.ref aV) "settle"=some (some (.ref d9)))
  (B3:W.isFn K (.ref d9)=true)
  (CI:K.lookup d9=some ⟨V9,Wj,.func (W.fnOf "settle" "Run.settle" (aD fW) (aC fW) (ah fW) .none Jy Ju JI Je z6 Jc),VY⟩)
  (zN:W.codeIn K z6 "Run.settle"=true)
  (rN:W.keepIn K (.ref d9)=true)
  (EL:W.findIn K (.ref aV) "moves"=some (some (.ref fG)))
  (E3:W.isFn K (.ref fG)=true)
  (Hl:K.lookup fG=some ⟨aa5,Yy,.func (W.fnOf "moves" "Run.moves" (aD iw) (aC iw) (ah iw) .none Lw My LO Mm BE NW),YK⟩)
  (Bp:W.codeIn K BE "Run.moves"=true)
  (um:W.keepIn K (.ref fG)=true)
  (Hv:W.findIn K (.ref aV) "taken"=some (some (.ref gh)))
  (EJ:W.isFn K (.ref gh)=true)
  (HB:K.lookup gh=some ⟨Yw,YG,.func (W.fnOf "taken" "Run.taken" (aD iH) (aC iH) (ah iH) .none M4 L8 Nq ND B0 LG),Yk⟩)
  (C0:W.codeIn K B0 "Run.taken"=true)
  (tZ:W.keepIn K (.ref gh)=true)
  (vE:W.findIn K (.ref aV) "first_so"=some (some (.ref c8)))
  (vK:W.isFn K (.ref c8)=true)
  (u6:K.lookup c8=some ⟨QY,Q9,.func (W.fnOf "first_so" "Run.first_so" (aD dW) (aC dW) (ah dW) .none DM DG DR DH sN Dn),RE⟩)
  (sP:W.codeIn K sN "Run.first_so"=true)
  (mP:W.keepIn K (.ref c8)=true)
  (K7:W.findIn K (.ref aV) "move"=some (some (.ref iQ)))
  (KZ:W.isFn K (.ref iQ)=true)
  (Li:K.lookup iQ=some ⟨aeu,afe,.func (W.fnOf "move" "Run.move" (aD jq) (aC jq) (ah jq) .none Pe Qt QK Pu HK QF),ad4⟩)
  (Fe:W.codeIn K HK "Run.move"=true)
  (yc:W.keepIn K (.ref iQ)=true)
  (CO:W.findIn K (.ref aV) "agreed"=some (some (.ref fu)))
  (BU:W.isFn K (.ref fu)=true)
  (CY:K.lookup fu=some ⟨VI,Ws,.func (W.fnOf "agreed" "Run.agreed" (aD fV) (aC fV) (ah fV) .none Jv Jt Jz Jp AD JH),VX⟩)
  (As:W.codeIn K AD "Run.agreed"=true)
  (rH:W.keepIn K (.ref fu)=true)
  (Kd:W.findIn K (.ref aV) "step"=some (some (.ref gI)))
  (KW:W.isFn K (.ref gI)=true)
  (Ld:K.lookup gI=some ⟨aee,afg,.func (W.fnOf "step" "Run.step" (aD jD) (aC jD) (ah jD) .none Qx Pa Pz Pc Hi Pp),aeI⟩)
  (GJ:W.codeIn K Hi "Run.step"=true)
  (zf:W.keepIn K (.ref gI)=true)
  (vB:W.findIn K (.ref aV) "remember"=some (some (.ref dD)))
  (uW:W.isFn K (.ref dD)=true)
  (xw:K.lookup dD=some ⟨Rc,Q7,.func (W.fnOf "remember" "Run.remember" (aD eE) (aC eE) (ah eE) .none Dh DS Dq Dt sR Dy),RB⟩)
  (sG:W.codeIn K sR "Run.remember"=true)
  (mG:W.keepIn K (.ref dD)=true)
  (El:W.findIn K (.ref aV) "leave"=some (some (.ref gx)))
  (F9:W.isFn K (.ref gx)=true)
  (Gp:K.lookup gx=some ⟨YL,abx,.func (W.fnOf "leave" "Run.leave" (aD ig) (aC ig) (ah ig) .none NO MA Mx Nv BP LQ),aaD⟩)
  (CP:W.codeIn K BP "Run.leave"=true)
  (t8:W.keepIn K (.ref gx)=true)
  (Aq:W.findIn K (.ref aV) "come_to"=some (some (.ref dU)))
  (zF:W.isFn K (.ref dU)=true)
  (zu:K.lookup dU=some ⟨Tu,UN,.func (W.fnOf "come_to" "Run.come_to" (aD fC) (aC fC) (ah fC) .none HL F4 Gm Gq vh Er),SY⟩)
  (vg:W.codeIn K vh "Run.come_to"=true)
  (o6:W.keepIn K (.ref dU)=true)
  (Lh:W.findIn K (.ref aV) "come"=some (some (.ref gM)))
  (Le:W.isFn K (.ref gM)=true)
  (JW:K.lookup gM=some ⟨af7,afs,.func (W.fnOf "come" "Run.come" (aD jo) (aC jo) (ah jo) .none PU QC Px Qs Ep Qg),afA⟩)
  (Gv:W.codeIn K Ep "Run.come"=true)
  (yp:W.keepIn K (.ref gM)=true)
  (Oq:W.findIn K (.ref aV) "end"=some (some (.ref jV)))
  (OZ:W.isFn K (.ref jV)=true)
  (Oa:K.lookup jV=some ⟨agY,ahr,.func (W.fnOf "end" "Run.end" (aD lD) (aC lD) (ah lD) .none S6 UQ S7 Sj KG UB),agL⟩)
  (Kp:W.codeIn K KG "Run.end"=true)
  (Ct:W.keepIn K (.ref jV)=true)
  (UT:W.findIn K (.ref aV) "do"=some (some (.ref jT)))
  (TH:W.isFn K (.ref jT)=true)
  (Us:K.lookup jT=some ⟨aiS,ajx,.func (W.fnOf "do" "Run.do" (aD oN) (aC oN) (ah oN) .none Xk Xo Xv XG Ob Xd),ajo⟩)
  (N7:W.codeIn K Ob "Run.do"=true)
  (Ig:W.keepIn K (.ref jT)=true)
  (agh:W.nsIn K mainGlobals "tell"=some (some (.ref Ak)))
  (ahb:K.lookup Ak=some ⟨anm,amP,.func (W.fnOf "tell" "tell" (aD CK) (aC CK) (ah CK) .none ahQ ah0 ahC ahZ Zv ahF),anb⟩)
  (Ym:W.codeIn K Zv "tell"=true)
  (Sa:W.keepIn K (.ref Ak)=true)
  (abw:W.nsIn K mainGlobals "start"=some (some (.ref rG)))
  (YI:K.lookup rG=some ⟨akA,ajR,.func (W.fnOf "start" "start" (aD uh) (aC uh) (ah uh) .none afX af1 adZ ae6 SG aeO),ak0⟩)
  (SO:W.codeIn K SG "start"=true)
  (L6:W.keepIn K (.ref rG)=true)
  (akB:W.nsIn K mainGlobals "ask"=some (some (.ref JD)))
  (aln:K.lookup JD=some ⟨aoG,aov,.func (W.fnOf "ask" "ask" (aD LZ) (aC LZ) (ah LZ) .none als ajM ali alN agJ akS),anO⟩)
  (agW:W.codeIn K agJ "ask"=true)
  (Zo:W.keepIn K (.ref JD)=true)
  (Ve:W.nsIn K mainGlobals "answer"=some (some (.ref mh)))
  (Uz:K.lookup mh=some ⟨ajG,ajr,.func (W.fnOf "answer" "answer" (aD qd) (aC qd) (ah qd) .none Xw WK WZ Xf OJ Xb),ajb⟩)
  (OM:W.codeIn K OJ "answer"=true)
  (IA:W.keepIn K (.ref mh)=true)
  (Ie:W.nsIn K mainGlobals "answers"=some (some (.ref jh)))
  (OC:K.lookup jh=some ⟨agP,ahl,.func (W.fnOf "answers" "answers" (aD lz) (aC lz) (ah lz) .none Vb SJ Vf Uh JP Va),agN⟩)
  (KN:W.codeIn K JP "answers"=true)
  (BQ:W.keepIn K (.ref jh)=true)
  (fB:W.nsIn K mainGlobals "NONE"=some (some (.int (-1) amL)))
  (iz:W.nsIn K mainGlobals "ORDINARY"=some (some (.int (0) afM)))
  (dF:W.nsIn K mainGlobals "SIDE_BY_SIDE"=some (some (.int (1) QW)))
  (AI:W.nsIn K mainGlobals "END"=some (some (.int (2) aob)))
  (mS:W.nsIn K mainGlobals "SHALLOW"=some (some (.int (3) ag5)))
  (yq:W.nsIn K mainGlobals "DEEP"=some (some (.int (4) amq)))
  (qN:W.nsIn K mainGlobals "RAISED"=some (some (.int (0) ait)))
  (Kf:W.nsIn K mainGlobals "SET"=some (some (.int (1) aoY)))
  (A7:W.nsIn K mainGlobals "ADDED"=some (some (.int (2) akV)))
  (fF:W.nsIn K mainGlobals "WRONG"=some (some (.int (-1) ajP)))
  (ug:W.nsIn K mainGlobals "FULL"=some (some (.int (-2) amb)))
  (ji:W.nsIn K mainGlobals "MOST_STATES"=some (some (.int (64) Ua)))
  (lA:W.nsIn K mainGlobals "MOST_WAYS"=some (some (.int (256) Z3)))
  (lG:W.nsIn K mainGlobals "MOST_ACTS"=some (some (.int (16) Yq)))
  (gH:W.nsIn K mainGlobals "LAST_RAISED"=some (some (.int (255) Vt)))
  (jY:W.nsIn K mainGlobals "LAST_EVENT"=some (some (.int (319) Wt)))
  (nK:W.nsIn K mainGlobals "LAST_ASK"=some (some (.int (3) aeL)))
  (gK:W.nsIn K mainGlobals "LAST_NUMBER"=some (some (.int (15) Vk)))
  (Ir:W.nsIn K mainGlobals "OVER"=some (some (.int (-5) anw)))
  (qT:W.nsIn K mainGlobals "BY_NONE"=some (some (.int (0) agn)))
  (Bm:W.nsIn K mainGlobals "DONE"=some (some (.int (256) al5)))
  (Il:W.nsIn K mainGlobals "LEFT"=some (some (.int (256) ami)))
  (j4:W.nsIn K mainGlobals "MOST_STEPS"=some (some (.int (1000) V7)))
  (fO:W.nsIn K mainGlobals "MOST_WAITING"=some (some (.int (65536) QX)))
  (C3:W.nsIn K mainGlobals "SIGN"=some (some (.int (2147483648) amo)))
  (Ia:W.nsIn K mainGlobals "WRAP"=some (some (.int (4294967296) amW)))
  (A3:W.nsIn K mainGlobals "BEGIN"=some (some (.int (0) alJ)))
  (A6:W.nsIn K mainGlobals "STATE"=some (some (.int (1) alO)))
  (uH:W.nsIn K mainGlobals "BEGINS"=some (some (.int (2) ai9)))
  (N6:W.nsIn K mainGlobals "WAY"=some (some (.int (3) aoF)))
  (AK:W.nsIn K mainGlobals "GUARD"=some (some (.int (4) akq)))
  (OR:W.nsIn K mainGlobals "ACT"=some (some (.int (5) aoq)))
  (vR:W.nsIn K mainGlobals "START"=some (some (.int (7) akz)))
  (Ij:W.nsIn K mainGlobals "SEND"=some (some (.int (8) amH)))
  (WI:W.nsIn K mainGlobals "IN"=some (some (.int (9) ape)))
  (uG:W.nsIn K mainGlobals "NUMBER"=some (some (.int (10) aiy)))
  (qm:W.nsIn K mainGlobals "RUNNING"=some (some (.int (-3) agq)))
  (Ic:W.nsIn K mainGlobals "IDLE"=some (some (.int (-4) ame)))
  (Oo:W.nsIn K mainGlobals "HANDED"=some (some (.ref Bc)))
  (ON:K.lookup Bc=some { cls:=.type "dict",dict:=none,data:=.dict WM aiL,slots:=#[] })
  (OU:(Bc==sysModules)=false)
  (OH:Po WM.toList Ci=true)
  (iK:W.nsIn K mainGlobals "enumerate"=some none)
  (iT:W.nsIn K mainGlobals "len"=some none)
  (yN:W.nsIn K mainGlobals "list"=some none)
  (O1:W.nsIn K mainGlobals "min"=some none)
  (rS:W.nsIn K mainGlobals "range"=some none)
  (nQ:W.nsIn K mainGlobals "reversed"=some none) :
  ∃ t,Txt K mg t/\t.jh=fa/\∀ (s:Shared) (u:Value),BindsTo s t.uC ⟨[u],[]⟩ [("calls",u)]:=by
 have e:=hfa.symm.trans (W.mg_of X G Ie)
 cases e
 have rT:=bq (st:=iP) HH CN tY
 have D9:=bq (st:=oj) Ue Ot Iw
 have AR:=bq (st:=lI) Oc J4 Bs
 have jK:=bq (st:=fX) BB Az zE
 have gD:=bq (st:=cE) mW lN i7
 have mR:=bq (st:=jB) JY EY Fc
 have ie:=bq (st:=fZ) Ca Ao Ax
 have mq:=bq (st:=ff) zy xj om
 have lS:=bq (st:=fj) zD uS qg
 have kF:=bq (st:=dY) wD sO mK
 have rZ:=bq (st:=ir) G0 CS uf
 have lX:=bq (st:=fc) zG wA qe
 have r6:=bq (st:=iF) Es CT uz
 have wG:=bq (st:=jN) JS Fw yh
 have gZ:=bq (st:=cQ) pO nG jG
 have jR:=bq (st:=dG) sW qI lF
 have l5:=bq (st:=fz) zz vq pG
 have iG:=bq (st:=cT) pQ m9 jM
 have iO:=bq (st:=cR) oF nv jv
 have iy:=bq (st:=cN) nU nI jC
 have ja:=bq (st:=cY) qk pq kc
 have jb:=bq (st:=cX) qj pD kg
 have gF:=bq (st:=cC) nt lJ i8
 have TX:=bq (st:=BH) agF Yv RT
 have uX:=bq (st:=ju) Kh GB ym
 have EE:=bq (st:=pC) UW Od HY
 have kI:=bq (st:=d7) vY sL mQ
 have lR:=bq (st:=eW) Au vz pI
 have sD:=bq (st:=iJ) FI CU uu
 have HD:=bq (st:=pV) UX OT Io
 have l9:=bq (st:=fh) Ae vd o5
 have kX:=bq (st:=gX) FF Df Cu
 have kJ:=bq (st:=dX) uV sJ mF
 have mw:=bq (st:=fq) AG xy pN
 have kR:=bq (st:=eB) vN sU mJ
 have jd:=bq (st:=cZ) qG oM ki
 have rY:=bq (st:=iu) Hz BC uo
 have MU:=bq (st:=ud) Z2 Ut MP
 have rV:=bq (st:=gY) F8 BG Co
 have kQ:=bq (st:=jH) Ku GF Hh
 have rX:=bq (st:=iM) Gj BN uy
 have vH:=bq (st:=jI) J2 HJ yQ
 have sd:=bq (st:=iE) FY Cc t6
 have pL:=bq (st:=fY) C2 zZ qY
 have wJ:=bq (st:=jx) K8 Ea yx
 have pW:=bq (st:=fW) CI zN rN
 have r9:=bq (st:=iw) Hl Bp um
 have se:=bq (st:=iH) HB C0 tZ
 have kT:=bq (st:=dW) u6 sP mP
 have xx:=bq (st:=jq) Li Fe yc
 have nW:=bq (st:=fV) CY As rH
 have xu:=bq (st:=jD) Ld GJ zf
 have kB:=bq (st:=eE) xw sG mG
 have sj:=bq (st:=ig) Gp CP t8
 have mC:=bq (st:=fC) zu vg o6
 have uK:=bq (st:=jo) JW Gv yp
 have A2:=bq (st:=lD) Oa Kp Ct
 have FW:=bq (st:=oN) Us N7 Ig
 have T8:=bq (st:=CK) ahb Ym Sa
 have MR:=bq (st:=uh) YI SO L6
 have ad5:=bq (st:=LZ) aln agW Zo
 have D0:=bq (st:=qd) Uz OM IA
 have AW:=bq (st:=lz) OC KN BQ
 have nL:=rT.binds (ps:=["which"]) λ_ _ _ _ _ _=>us1 λ_=>rfl
 have Ml:=D9.binds (ps:=["kind","which"]) λ_ _ _ _ _ _=>us2 λ_ _=>rfl
 have AS:=AR.binds (ps:=["acts","kind","which","much"]) λ_ _ _ _ _ _=>us4 λ_ _ _ _=>rfl
 have oK:=jK.binds (ps:=["self","parent","kind"]) λ_ _ _ _ _ _=>us3 λ_ _ _=>rfl
 have bR:=gD.binds (ps:=["self"]) λ_ _ _ _ _ _=>us1 λ_=>rfl
 have CW:=mR.binds (ps:=["self","source","event","target"]) λ_ _ _ _ _ _=>us4 λ_ _ _ _=>rfl
 have uc:=ie.binds (ps:=["self"]) λ_ _ _ _ _ _=>us1 λ_=>rfl
 have mj:=mq.binds (ps:=["self"]) λ_ _ _ _ _ _=>us1 λ_=>rfl
 have rm:=lS.binds (ps:=["self","parent","kind"]) λ_ _ _ _ _ _=>us3 λ_ _ _=>rfl
 have pA:=kF.binds (ps:=["self","state","part"]) λ_ _ _ _ _ _=>us3 λ_ _ _=>rfl
 have xW:=rZ.binds (ps:=["self","source","event","target"]) λ_ _ _ _ _ _=>us4 λ_ _ _ _=>rfl
 have rE:=lX.binds (ps:=["self","way","ask","which","much"]) λ_ _ _ _ _ _=>us5 λ_ _ _ _ _=>rfl
 have xT:=r6.binds (ps:=["self","way","kind","which","much"]) λ_ _ _ _ _ _=>us5 λ_ _ _ _ _=>rfl
 have CA:=wG.binds (ps:=["self","state","leaving","kind","which","much"]) λ_ _ _ _ _ _=>us6 λ_ _ _ _ _ _=>rfl
 have c6:=gZ.binds (ps:=["self","state"]) λ_ _ _ _ _ _=>us2 λ_ _=>rfl
 have jU:=jR.binds (ps:=["self","way"]) λ_ _ _ _ _ _=>us2 λ_ _=>rfl
 have gj:=l5.binds (ps:=["self","state"]) λ_ _ _ _ _ _=>us2 λ_ _=>rfl
 have iL:=iG.binds (ps:=["self","state"]) λ_ _ _ _ _ _=>us2 λ_ _=>rfl
 have j9:=iO.binds (ps:=["self","state","outer"]) λ_ _ _ _ _ _=>us3 λ_ _ _=>rfl
 have kj:=iy.binds (ps:=["self"]) λ_ _ _ _ _ _=>us1 λ_=>rfl
 have lE:=ja.binds (ps:=["self","parent","kind"]) λ_ _ _ _ _ _=>us3 λ_ _ _=>rfl
 have kZ:=jb.binds (ps:=["self","source","event","target"]) λ_ _ _ _ _ _=>us4 λ_ _ _ _=>rfl
 have jt:=gF.binds (ps:=["self","parent","target"]) λ_ _ _ _ _ _=>us3 λ_ _ _=>rfl
 have gR:=TX.binds (ps:=["state"]) λ_ _ _ _ _ _=>us1 λ_=>rfl
 have qv:=uX.binds (ps:=["states"]) λ_ _ _ _ _ _=>us1 λ_=>rfl
 have v8:=EE.binds (ps:=["found"]) λ_ _ _ _ _ _=>us1 λ_=>rfl
 have pJ:=kI.binds (ps:=["states"]) λ_ _ _ _ _ _=>us1 λ_=>rfl
 have rL:=lR.binds (ps:=["states"]) λ_ _ _ _ _ _=>us1 λ_=>rfl
 have rQ:=sD.binds (ps:=["chart"]) λ_ _ _ _ _ _=>us1 λ_=>rfl
 have NV:=HD.binds (ps:=["chart","plain"]) λ_ _ _ _ _ _=>us2 λ_ _=>rfl
 have rJ:=l9.binds (ps:=["chart"]) λ_ _ _ _ _ _=>us1 λ_=>rfl
 have yj:=kX.binds (ps:=["self","chart"]) λ_ _ _ _ _ _=>us2 λ_ _=>rfl
 have oV:=kJ.binds (ps:=["self","source","leads"]) λ_ _ _ _ _ _=>us3 λ_ _ _=>rfl
 have mE:=mw.binds (ps:=["self","come_to"]) λ_ _ _ _ _ _=>us2 λ_ _=>rfl
 have oA:=kR.binds (ps:=["self","state","come_to"]) λ_ _ _ _ _ _=>us3 λ_ _ _=>rfl
 have lC:=jd.binds (ps:=["self","state","active"]) λ_ _ _ _ _ _=>us3 λ_ _ _=>rfl
 have yd:=rY.binds (ps:=["number"]) λ_ _ _ _ _ _=>us1 λ_=>rfl
 have RL:=MU.binds (ps:=["ask","number","much"]) λ_ _ _ _ _ _=>us3 λ_ _ _=>rfl
 have r8:=rV.binds (ps:=["self","path","stays","leaves"]) λ_ _ _ _ _ _=>us4 λ_ _ _ _=>rfl
 have Cr:=kQ.binds (ps:=["self","chart"]) λ_ _ _ _ _ _=>us2 λ_ _=>rfl
 have yV:=rX.binds (ps:=["self"]) λ_ _ _ _ _ _=>us1 λ_=>rfl
 have Dc:=vH.binds (ps:=["self","event"]) λ_ _ _ _ _ _=>us2 λ_ _=>rfl
 have yF:=sd.binds (ps:=["self","state"]) λ_ _ _ _ _ _=>us2 λ_ _=>rfl
 have tX:=pL.binds (ps:=["self","which"]) λ_ _ _ _ _ _=>us2 λ_ _=>rfl
 have CJ:=wJ.binds (ps:=["self","most"]) λ_ _ _ _ _ _=>us2 λ_ _=>rfl
 have pB:=pW.binds (ps:=["self"]) λ_ _ _ _ _ _=>us1 λ_=>rfl
 have nN:=r9.binds (ps:=["self","event"]) λ_ _ _ _ _ _=>us2 λ_ _=>rfl
 have zg:=se.binds (ps:=["self","event"]) λ_ _ _ _ _ _=>us2 λ_ _=>rfl
 have oW:=kT.binds (ps:=["self","numbers"]) λ_ _ _ _ _ _=>us2 λ_ _=>rfl
 have Bx:=xx.binds (ps:=["self","way"]) λ_ _ _ _ _ _=>us2 λ_ _=>rfl
 have uB:=nW.binds (ps:=["self","kept","more"]) λ_ _ _ _ _ _=>us3 λ_ _ _=>rfl
 have uJ:=xu.binds (ps:=["self","moves"]) λ_ _ _ _ _ _=>us2 λ_ _=>rfl
 have nV:=kB.binds (ps:=["self","left"]) λ_ _ _ _ _ _=>us2 λ_ _=>rfl
 have yC:=sj.binds (ps:=["self","left"]) λ_ _ _ _ _ _=>us2 λ_ _=>rfl
 have rC:=mC.binds (ps:=["self","moves"]) λ_ _ _ _ _ _=>us2 λ_ _=>rfl
 have u7:=uK.binds (ps:=["self","states"]) λ_ _ _ _ _ _=>us2 λ_ _=>rfl
 have HX:=A2.binds (ps:=["self","parent"]) λ_ _ _ _ _ _=>us2 λ_ _=>rfl
 have AU:=FW.binds (ps:=["self","acts"]) λ_ _ _ _ _ _=>us2 λ_ _=>rfl
 have abE:=T8.binds (ps:=["chart","call","given"]) λ_ _ _ _ _ _=>us3 λ_ _ _=>rfl
 have RQ:=MR.binds (ps:=["chart"]) λ_ _ _ _ _ _=>us1 λ_=>rfl
 have ahS:=ad5.binds (ps:=["run","call","given"]) λ_ _ _ _ _ _=>us3 λ_ _ _=>rfl
 have Nc:=D0.binds (ps:=["chart","call","given"]) λ_ _ _ _ _ _=>us3 λ_ _ _=>rfl
 have Oi:=AW.binds (ps:=["calls"]) λ_ _ _ _ _ _=>us1 λ_=>rfl
 refine ⟨⟨bA,eV,aE,bz,fN,aV,eN,(W.fnOf "is_number" "is_number" (aD iP) (aC iP) (ah iP) .none MG Na MX M9 CG ML),lT,(W.fnOf "is_act" "is_act" (aD oj) (aC oj) (ah oj) .none WR Xu Xe XI Om WU),je,(W.fnOf "add_act" "add_act" (aD lI) (aC lI) (ah lI) .none Td Ti Ur TQ Ko U4),dZ,(W.fnOf "__init__" "State.__init__" (aD fX) (aC fX) (ah fX) .none IW Jj JN Jx zR JK),bf,(W.fnOf "is_history" "State.is_history" (aD cE) (aC cE) (ah cE) .none tH tT tU tL lK tG),iW,(W.fnOf "__init__" "Way.__init__" (aD jB) (aC jB) (ah jB) .none QJ Pn Pr Pf Hy Pg),fk,(W.fnOf "__init__" "Chart.__init__" (aD fZ) (aC fZ) (ah fZ) .none Jd JA Jl Ji zx JL),di,(W.fnOf "begin" "Chart.begin" (aD ff) (aC ff) (ah ff) .none HP Hu FZ HU uQ GK),dS,(W.fnOf "state" "Chart.state" (aD fj) (aC fj) (ah fj) .none FH FT EN FL vo GL),c9,(W.fnOf "begins" "Chart.begins" (aD dY) (aC dY) (ah dY) .none DE Dk Dm Dr sS DJ),gk,(W.fnOf "way" "Chart.way" (aD ir) (aC ir) (ah ir) .none LW Lu Lr LL Bw NQ),dR,(W.fnOf "guard" "Chart.guard" (aD fc) (aC fc) (ah fc) .none Fy EF FN En xE Hq),gf,(W.fnOf "act" "Chart.act" (aD iF) (aC iF) (ah iF) .none L1 Mc MT MB Cv Lx),iR,(W.fnOf "on" "Chart.on" (aD jN) (aC jN) (ah jN) .none QI QA Qz Qm HR O9),bH,(W.fnOf "has_state" "Chart.has_state" (aD cQ) (aC cQ) (ah cQ) .none wW wj we vD nH uM),cF,(W.fnOf "has_way" "Chart.has_way" (aD dG) (aC dG) (ah dG) .none AJ A0 Bf AY qo AZ),cM,(W.fnOf "parts" "Chart.parts" (aD fz) (aC fz) (ah fz) .none GQ Eh HA ED vn EH),bZ,(W.fnOf "beginning" "Chart.beginning" (aD cT) (aC cT) (ah cT) .none vt wY xB uT nE uP),cA,(W.fnOf "is_within" "Chart.is_within" (aD cR) (aC cR) (ah cR) .none v9 uI uL vP mV vm),cy,(W.fnOf "may_start" "Chart.may_start" (aD cN) (aC cN) (ah cN) .none uO vW vX wH m6 vj),cI,(W.fnOf "may_hold" "Chart.may_hold" (aD cY) (aC cY) (ah cY) .none yR yO zc yX nY yE),cH,(W.fnOf "may_lead" "Chart.may_lead" (aD cX) (aC cX) (ah cX) .none xZ xR zo yk pS xP),cg,(W.fnOf "may_recall" "Chart.may_recall" (aD cC) (aC cC) (ah cC) .none tN tV tM tP lQ tO),gC,(W.fnOf "mark" "mark" (aD BH) (aC BH) (ah BH) .none ah2 ahz aid ahI ZP aij),iX,(W.fnOf "marks_of" "marks_of" (aD ju) (aC ju) (ah ju) .none Qn Qk QE O7 HS Pw),jc,(W.fnOf "marked" "marked" (aD pC) (aC pC) (ah pC) .none W5 XF WJ Xs Ow W6),c7,(W.fnOf "around_marks" "around_marks" (aD d7) (aC d7) (ah d7) .none DB DC Dp Du sQ DL),dO,(W.fnOf "inner_marks" "inner_marks" (aD eW) (aC eW) (ah eW) .none Gw Eo EV EM uN D6),fE,(W.fnOf "ways_from" "ways_from" (aD iJ) (aC iJ) (ah iJ) .none LJ NH MY LK CC MZ),l8,(W.fnOf "offers" "offers" (aD pV) (aC pV) (ah pV) .none W7 XH W9 Xi OA Xp),dQ,(W.fnOf "first_leads" "first_leads" (aD fh) (aC fh) (ah fh) .none Fv EW EU EA wR Ge),gm,(W.fnOf "__init__" "Plan.__init__" (aD gX) (aC gX) (ah gX) .none MD Mv Nb MW BA LF),dg,(W.fnOf "nearest" "Plan.nearest" (aD dX) (aC dX) (ah dX) .none Ds Dv Dw Dz sI Dg),dh,(W.fnOf "filled" "Plan.filled" (aD fq) (aC fq) (ah fq) .none E7 E9 E8 Fd wu F2),dj,(W.fnOf "brought" "Plan.brought" (aD eB) (aC eB) (ah eB) .none Dj DU DK DP sV Dl),cJ,(W.fnOf "has_ended" "Plan.has_ended" (aD cZ) (aC cZ) (ah cZ) .none yI yf yu yH oH yT),gc,(W.fnOf "with_sign" "with_sign" (aD iu) (aC iu) (ah iu) .none M7 M8 Ma NX Cf Nm),rj,(W.fnOf "is_so" "is_so" (aD ud) (aC ud) (ah ud) .none aeW afZ aet agb Sm afP),gy,(W.fnOf "__init__" "Move.__init__" (aD gY) (aC gY) (ah gY) .none Mf Nf Nj Nz B9 Mh),iU,(W.fnOf "__init__" "Run.__init__" (aD jH) (aC jH) (ah jH) .none Qo O5 Qq PK EZ PM),gq,(W.fnOf "start" "Run.start" (aD iM) (aC iM) (ah iM) .none Np MV NB Me BW MO),iZ,(W.fnOf "send" "Run.send" (aD jI) (aC jI) (ah jI) .none Qw P0 Ph Qi GX Qp),gi,(W.fnOf "is_in" "Run.is_in" (aD iE) (aC iE) (ah iE) .none L5 NJ Ly Nh BR Mp),eY,(W.fnOf "number" "Run.number" (aD fY) (aC fY) (ah fY) .none IU Jq Jw Jo zL Jr),iV,(W.fnOf "take" "Run.take" (aD jx) (aC jx) (ah jx) .none O3 Py PJ PZ Em PL),d9,(W.fnOf "settle" "Run.settle" (aD fW) (aC fW) (ah fW) .none Jy Ju JI Je z6 Jc),fG,(W.fnOf "moves" "Run.moves" (aD iw) (aC iw) (ah iw) .none Lw My LO Mm BE NW),gh,(W.fnOf "taken" "Run.taken" (aD iH) (aC iH) (ah iH) .none M4 L8 Nq ND B0 LG),c8,(W.fnOf "first_so" "Run.first_so" (aD dW) (aC dW) (ah dW) .none DM DG DR DH sN Dn),iQ,(W.fnOf "move" "Run.move" (aD jq) (aC jq) (ah jq) .none Pe Qt QK Pu HK QF),fu,(W.fnOf "agreed" "Run.agreed" (aD fV) (aC fV) (ah fV) .none Jv Jt Jz Jp AD JH),gI,(W.fnOf "step" "Run.step" (aD jD) (aC jD) (ah jD) .none Qx Pa Pz Pc Hi Pp),dD,(W.fnOf "remember" "Run.remember" (aD eE) (aC eE) (ah eE) .none Dh DS Dq Dt sR Dy),gx,(W.fnOf "leave" "Run.leave" (aD ig) (aC ig) (ah ig) .none NO MA Mx Nv BP LQ),dU,(W.fnOf "come_to" "Run.come_to" (aD fC) (aC fC) (ah fC) .none HL F4 Gm Gq vh Er),gM,(W.fnOf "come" "Run.come" (aD jo) (aC jo) (ah jo) .none PU QC Px Qs Ep Qg),jV,(W.fnOf "end" "Run.end" (aD lD) (aC lD) (ah lD) .none S6 UQ S7 Sj KG UB),jT,(W.fnOf "do" "Run.do" (aD oN) (aC oN) (ah oN) .none Xk Xo Xv XG Ob Xd),Ak,(W.fnOf "tell" "tell" (aD CK) (aC CK) (ah CK) .none ahQ ah0 ahC ahZ Zv ahF),rG,(W.fnOf "start" "start" (aD uh) (aC uh) (ah uh) .none afX af1 adZ ae6 SG aeO),JD,(W.fnOf "ask" "ask" (aD LZ) (aC LZ) (ah LZ) .none als ajM ali alN agJ akS),mh,(W.fnOf "answer" "answer" (aD qd) (aC qd) (ah qd) .none Xw WK WZ Xf OJ Xb),fa,(W.fnOf "answers" "answers" (aD lz) (aC lz) (ah lz) .none Vb SJ Vf Uh JP Va),Bc⟩,?_,rfl,λs u=>.of_eq rfl⟩
 exact {
  i9:=⟨US,To,UZ,UA⟩
  Tp:=W.mg_of X G Uq
  p9:=⟨p9,BZ,Ck,SM⟩
  tw:=sM
  zI:=zJ
  nD:=m7
  kK:=ku
  j6:=j7
  akn:=⟨agK,ag1,ag8,ahu⟩
  akM:=W.mg_of X G ag7
  Hj:=⟨Hj,JQ,JT,ahp⟩
  IT:=z8
  LI:=Bv
  IZ:=z9
  S8:=Kv
  M3:=Cj
  PR:=EC
  O6:=HN
  bX:=⟨Uc,Sd,T3,VC⟩
  ae3:=W.mg_of X G Sw
  p8:=⟨p8,CL,CV,Vp⟩
  DQ:=sY
  Jm:=Ah
  M5:=CM
  Cd:=⟨aay,aaO,aaY,Zt⟩
  air:=W.mg_of X G abi
  yG:=⟨yG,EO,FO,X4⟩
  Fo:=uZ
  Ny:=CQ
  Fi:=xr
  IV:=Ay
  tR:=lP
  F1:=vC
  MN:=Cw
  JM:=AF
  yD:=o9
  tQ:=lO
  Eb:=vG
  ah1:=⟨Y9,ZJ,abG,Y0⟩
  abc:=W.mg_of X G aaE
  Br:=⟨Br,Ht,FD,Zl⟩
  LX:=BV
  JJ:=zS
  Fg:=vS
  eT:=⟨agZ,agz,agM,agA⟩
  alr:=W.mg_of X G ag6
  B5:=⟨B5,KD,Kl,agj⟩
  QM:=GR
  Ed:=xG
  LC:=BY
  IY:=AB
  Pk:=Ej
  JF:=zU
  Mi:=CH
  LR:=Cq
  rT:=rT
  nL:=nL
  uv:=W.mg_of X G EI
  yM:=tY
  D9:=D9
  Ml:=Ml
  Xr:=W.mg_of X G Uw
  afI:=Iw
  AR:=AR
  AS:=AS
  Kq:=W.mg_of X G OB
  OI:=Bs
  jK:=jK
  oK:=oK
  gD:=gD
  bR:=bR
  cD:=⟨mY,nj,i7⟩
  mR:=mR
  CW:=CW
  ie:=ie
  uc:=uc
  mq:=mq
  mj:=mj
  Al:=⟨Af,Ab,om⟩
  lS:=lS
  rm:=rm
  Jg:=⟨zq,AA,qg⟩
  kF:=kF
  pA:=pA
  Fj:=⟨xq,xJ,mK⟩
  rZ:=rZ
  xW:=xW
  PX:=⟨Hr,GC,uf⟩
  lX:=lX
  rE:=rE
  Js:=⟨zP,AE,qe⟩
  r6:=r6
  xT:=xT
  QN:=⟨F7,GI,uz⟩
  wG:=wG
  CA:=CA
  Tt:=⟨Kw,Lf,yh⟩
  gZ:=gZ
  c6:=c6
  fK:=⟨oJ,pR,jG⟩
  jR:=jR
  jU:=jU
  sZ:=⟨tF,sX,lF⟩
  l5:=l5
  gj:=gj
  jZ:=⟨zM,Ac,pG⟩
  iG:=iG
  iL:=iL
  oB:=⟨oR,oh,jM⟩
  iO:=iO
  j9:=j9
  yb:=⟨pY,nX,jv⟩
  iy:=iy
  kj:=kj
  yr:=⟨oE,oO,jC⟩
  ja:=ja
  lE:=lE
  Ba:=⟨qO,qB,kc⟩
  jb:=jb
  kZ:=kZ
  Bl:=⟨qJ,qL,kg⟩
  gF:=gF
  jt:=jt
  vc:=⟨ny,mU,i8⟩
  TX:=TX
  gR:=gR
  fJ:=W.mg_of X G agr
  jl:=RT
  uX:=uX
  qv:=qv
  zk:=W.mg_of X G KA
  Bt:=ym
  EE:=EE
  v8:=v8
  Bk:=W.mg_of X G TF
  DZ:=HY
  kI:=kI
  pJ:=pJ
  DI:=W.mg_of X G vQ
  HE:=mQ
  lR:=lR
  rL:=rL
  Fx:=W.mg_of X G zB
  JE:=pI
  sD:=sD
  rQ:=rQ
  BI:=W.mg_of X G HG
  E6:=uu
  HD:=HD
  NV:=NV
  Xj:=W.mg_of X G Uu
  aeZ:=Io
  l9:=l9
  rJ:=rJ
  Ga:=W.mg_of X G zK
  Jb:=o5
  kX:=kX
  yj:=yj
  kJ:=kJ
  oV:=oV
  FG:=⟨wF,uY,mF⟩
  mw:=mw
  mE:=mE
  zC:=⟨Am,AH,pN⟩
  kR:=kR
  oA:=oA
  Et:=⟨wC,xF,mJ⟩
  jd:=jd
  lC:=lC
  AO:=⟨qW,ql,ki⟩
  rY:=rY
  yd:=yd
  Mu:=W.mg_of X G EB
  PN:=uo
  MU:=MU
  RL:=RL
  agc:=W.mg_of X G ZZ
  aii:=MP
  rV:=rV
  r8:=r8
  kQ:=kQ
  Cr:=Cr
  rX:=rX
  yV:=yV
  PF:=⟨Ey,GW,uy⟩
  vH:=vH
  Dc:=Dc
  Vg:=⟨Lg,JV,yQ⟩
  sd:=sd
  yF:=yF
  QG:=⟨Ec,E5,t6⟩
  pL:=pL
  tX:=tX
  MS:=⟨BK,Cm,qY⟩
  wJ:=wJ
  CJ:=CJ
  Vj:=⟨JZ,K4,yx⟩
  pW:=pW
  pB:=pB
  Bo:=⟨BO,B3,rN⟩
  r9:=r9
  nN:=nN
  xS:=⟨EL,E3,um⟩
  se:=se
  zg:=zg
  QD:=⟨Hv,EJ,tZ⟩
  kT:=kT
  oW:=oW
  Gh:=⟨vE,vK,mP⟩
  xx:=xx
  Bx:=Bx
  SH:=⟨K7,KZ,yc⟩
  nW:=nW
  uB:=uB
  Nn:=⟨CO,BU,rH⟩
  xu:=xu
  uJ:=uJ
  Lo:=⟨Kd,KW,zf⟩
  kB:=kB
  nV:=nV
  E4:=⟨vB,uW,mG⟩
  sj:=sj
  yC:=yC
  QH:=⟨El,F9,t8⟩
  mC:=mC
  rC:=rC
  Ja:=⟨Aq,zF,o6⟩
  uK:=uK
  u7:=u7
  Lk:=⟨Lh,Le,yp⟩
  A2:=A2
  HX:=HX
  XC:=⟨Oq,OZ,Ct⟩
  FW:=FW
  AU:=AU
  MQ:=⟨UT,TH,Ig⟩
  T8:=T8
  abE:=abE
  ah4:=W.mg_of X G agh
  aj6:=Sa
  MR:=MR
  RQ:=RQ
  ad9:=W.mg_of X G abw
  ahH:=L6
  ad5:=ad5
  ahS:=ahS
  alC:=W.mg_of X G akB
  anJ:=Zo
  D0:=D0
  Nc:=Nc
  WS:=W.mg_of X G Ve
  ad1:=IA
  AW:=AW
  Oi:=Oi
  ahq:=W.mg_of X G Ie
  aiQ:=BQ
  fB:=⟨_,W.mg_of X G fB,⟨_,rfl⟩⟩
  iz:=⟨_,W.mg_of X G iz,⟨_,rfl⟩⟩
  dF:=⟨_,W.mg_of X G dF,⟨_,rfl⟩⟩
  AI:=⟨_,W.mg_of X G AI,⟨_,rfl⟩⟩
  mS:=⟨_,W.mg_of X G mS,⟨_,rfl⟩⟩
  yq:=⟨_,W.mg_of X G yq,⟨_,rfl⟩⟩
  qN:=⟨_,W.mg_of X G qN,⟨_,rfl⟩⟩
  Kf:=⟨_,W.mg_of X G Kf,⟨_,rfl⟩⟩
  A7:=⟨_,W.mg_of X G A7,⟨_,rfl⟩⟩
  fF:=⟨_,W.mg_of X G fF,⟨_,rfl⟩⟩
  ug:=⟨_,W.mg_of X G ug,⟨_,rfl⟩⟩
  ji:=⟨_,W.mg_of X G ji,⟨_,rfl⟩⟩
  lA:=⟨_,W.mg_of X G lA,⟨_,rfl⟩⟩
  lG:=⟨_,W.mg_of X G lG,⟨_,rfl⟩⟩
  gH:=⟨_,W.mg_of X G gH,⟨_,rfl⟩⟩
  jY:=⟨_,W.mg_of X G jY,⟨_,rfl⟩⟩
  nK:=⟨_,W.mg_of X G nK,⟨_,rfl⟩⟩
  gK:=⟨_,W.mg_of X G gK,⟨_,rfl⟩⟩
  Ir:=⟨_,W.mg_of X G Ir,⟨_,rfl⟩⟩
  qT:=⟨_,W.mg_of X G qT,⟨_,rfl⟩⟩
  Bm:=⟨_,W.mg_of X G Bm,⟨_,rfl⟩⟩
  Il:=⟨_,W.mg_of X G Il,⟨_,rfl⟩⟩
  j4:=⟨_,W.mg_of X G j4,⟨_,rfl⟩⟩
  fO:=⟨_,W.mg_of X G fO,⟨_,rfl⟩⟩
  C3:=⟨_,W.mg_of X G C3,⟨_,rfl⟩⟩
  Ia:=⟨_,W.mg_of X G Ia,⟨_,rfl⟩⟩
  A3:=⟨_,W.mg_of X G A3,⟨_,rfl⟩⟩
  A6:=⟨_,W.mg_of X G A6,⟨_,rfl⟩⟩
  uH:=⟨_,W.mg_of X G uH,⟨_,rfl⟩⟩
  N6:=⟨_,W.mg_of X G N6,⟨_,rfl⟩⟩
  AK:=⟨_,W.mg_of X G AK,⟨_,rfl⟩⟩
  OR:=⟨_,W.mg_of X G OR,⟨_,rfl⟩⟩
  vR:=⟨_,W.mg_of X G vR,⟨_,rfl⟩⟩
  Ij:=⟨_,W.mg_of X G Ij,⟨_,rfl⟩⟩
  WI:=⟨_,W.mg_of X G WI,⟨_,rfl⟩⟩
  uG:=⟨_,W.mg_of X G uG,⟨_,rfl⟩⟩
  qm:=⟨_,W.mg_of X G qm,⟨_,rfl⟩⟩
  Ic:=⟨_,W.mg_of X G Ic,⟨_,rfl⟩⟩
  Xl:=aoz X G Oo ON OU OH (by decide)
  iK:=W.mg_none_of X G iK
  iT:=W.mg_none_of X G iT
  yN:=W.mg_none_of X G yN
  O1:=W.mg_none_of X G O1
  rS:=W.mg_none_of X G rS
  nQ:=W.mg_none_of X G nQ }
end SC
namespace SC
open PySem
open Classical in
noncomputable def mkN (P:Nat->Prop):Nat->Nat
 | 0=>0
 | n+1=>mkN P n+(if P n then 2 ^ n else 0)
theorem aoA (P:Nat->Prop) (n:Nat):mkN P n < 2 ^ n:=by
 induction n with
 | zero=>simp [mkN]
 | succ n ih=>
  unfold mkN
  rw [Nat.pow_succ]
  split<;>omega
theorem anr (P:Nat->Prop) (n i:Nat):(mkN P n).testBit i=true↔i < n/\P i:=by
 induction n with
 | zero=>simp [mkN]
 | succ n ih=>
  unfold mkN
  by_cases h:P n
  ·rw [if_pos h]
   have e:mkN P n+2 ^ n=2 ^ n * 1+mkN P n:=by omega
   rw [e,Nat.testBit_two_pow_mul_add _ (aoA P n)]
   by_cases hi:i < n
   ·rw [if_pos hi,ih]
    exact ⟨λz=>⟨by omega,z.2⟩,λz=>⟨hi,z.2⟩⟩
   ·rw [if_neg hi]
    cases q:i - n with
    | zero=>
     have e:i=n:=by omega
     subst e
     simp [h]
    | succ j=>
     rw [Nat.testBit_succ]
     simp
     intro z
     omega
  ·rw [if_neg h,Nat.add_zero,ih]
   constructor
   ·rintro ⟨a,b⟩;exact ⟨by omega,b⟩
   ·rintro ⟨a,b⟩
    by_cases e:i=n
    ·subst e;exact absurd b h
    ·exact ⟨by omega,b⟩
theorem ai2 (P Q:Nat->Prop) (n:Nat):mkN (λi=>P i/\Q i) n+mkN (λi=>P i/\¬Q i) n=mkN P n:=by
 induction n with
 | zero=>simp [mkN]
 | succ n ih=>
  unfold mkN
  by_cases p:P n
  ·by_cases q:Q n
   ·rw [if_pos ⟨p,q⟩,if_neg (λz=>z.2 q),if_pos p];omega
   ·rw [if_neg (λz=>q z.2),if_pos ⟨p,q⟩,if_pos p];omega
  ·rw [if_neg (λz=>p z.1),if_neg (λz=>p z.1),if_neg p];omega
noncomputable def mk (P:Nat->Prop):Nat:=mkN P 64
noncomputable def M (P:Nat->Prop):Int:=(mk P:Nat)
theorem qU (P:Nat->Prop) (i:Nat):(mk P).testBit i=true↔i < 64/\P i:=anr P 64 i
theorem ahK {a b:Nat} (h:∀ i,a.testBit i=true↔b.testBit i=true):a=b:=by
 refine Nat.eq_of_testBit_eq λi=>?_
 have:=h i
 cases ha:a.testBit i<;>cases hb:b.testBit i<;>simp_all
theorem akc {P Q:Nat->Prop} (h:∀ i,i < 64->(P i↔Q i)):mk P=mk Q:=ahK λi=>by
 rw [qU,qU]
 constructor
 ·rintro ⟨a,b⟩;exact ⟨a,(h i a).mp b⟩
 ·rintro ⟨a,b⟩;exact ⟨a,(h i a).mpr b⟩
theorem fD {P Q:Nat->Prop} (h:∀ i,i < 64->(P i↔Q i)):M P=M Q:=by unfold M;rw [akc h]
theorem aej {P:Nat->Prop} {n:Nat} (h:∀ i,n.testBit i=true↔i < 64/\P i):n=mk P:=ahK λi=>by rw [h,qU]
theorem mk_inj {P Q:Nat->Prop} (h:mk P=mk Q) {i:Nat} (hi:i < 64):P i↔Q i:=by
 have a:=qU P i
 rw [h,qU] at a
 constructor
 ·intro p;exact (a.mpr ⟨hi,p⟩).2
 ·intro p;exact (a.mp ⟨hi,p⟩).2
theorem anE {P Q:Nat->Prop} (h:M P=M Q) {i:Nat} (hi:i < 64):P i↔Q i:=mk_inj (by unfold M at h;omega) hi
theorem wk:M (λ_=>False)=0:=by
 have:mk (λ_=>False)=0:=by
  symm;refine aej λi=>?_
  simp
 unfold M;rw [this];rfl
theorem lY {P:Nat->Prop}:M P=0↔∀ i,i < 64->¬P i:=by
 rw [<-wk]
 constructor
 ·intro h i hi p;exact (anE h hi).mp p
 ·intro h;exact fD λi hi=>⟨λp=>h i hi p,False.elim⟩
theorem ahf (a b:Nat):Builtin.bitAnd (a:Int) (b:Int)=((a &&& b:Nat):Int):=by
 unfold Builtin.bitAnd
 rw [decide_eq_true (by omega:(0:Int)<=a),decide_eq_true (by omega:(0:Int)<=b)]
 simp
theorem Jk (a b:Nat):Builtin.bitAnd (a:Int) (Builtin.bitNot (b:Int))=(a:Int) - ((a &&& b:Nat):Int):=by
 unfold Builtin.bitAnd Builtin.bitNot
 rw [decide_eq_true (by omega:(0:Int)<=a),decide_eq_false (by omega:¬(0:Int)<=-(b:Int) - 1)]
 have:(-(-(b:Int) - 1) - 1).toNat=b:=by omega
 simp [this]
theorem aiR (a b:Nat):Builtin.bitOr (a:Int) (b:Int)=((a ||| b:Nat):Int):=by
 unfold Builtin.bitOr Builtin.bitAnd
 rw [decide_eq_false (by unfold Builtin.bitNot;omega:¬(0:Int)<=Builtin.bitNot (a:Int)),decide_eq_false (by unfold Builtin.bitNot;omega:¬(0:Int)<=Builtin.bitNot (b:Int))]
 have e:∀ n:Nat,Builtin.bitNot (Builtin.bitNot (n:Int))=n:=λn=>by unfold Builtin.bitNot;omega
 simp only [e]
 simp
theorem xh (P Q:Nat->Prop):Builtin.bitAnd (M P) (M Q)=M (λi=>P i/\Q i):=by
 unfold M
 rw [ahf]
 congr 1
 refine aej λi=>?_
 rw [Nat.testBit_and,Bool.and_eq_true,qU,qU]
 constructor
 ·rintro ⟨⟨a,b⟩,_,d⟩;exact ⟨a,b,d⟩
 ·rintro ⟨a,b,d⟩;exact ⟨⟨a,b⟩,a,d⟩
theorem Sg (P Q:Nat->Prop):Builtin.bitOr (M P) (M Q)=M (λi=>P i\/Q i):=by
 unfold M
 rw [aiR]
 congr 1
 refine aej λi=>?_
 rw [Nat.testBit_or,Bool.or_eq_true,qU,qU]
 constructor
 ·rintro (⟨a,b⟩ | ⟨a,b⟩)
  ·exact ⟨a,.inl b⟩
  ·exact ⟨a,.inr b⟩
 ·rintro ⟨a,b | b⟩
  ·exact .inl ⟨a,b⟩
  ·exact .inr ⟨a,b⟩
theorem GD (P Q:Nat->Prop):mk (λi=>P i/\Q i)+mk (λi=>P i/\¬Q i)=mk P:=by
 exact ai2 P Q 64
theorem AN (P Q:Nat->Prop):Builtin.bitAnd (M P) (Builtin.bitNot (M Q))=M (λi=>P i/\¬Q i):=by
 have h:=GD P Q
 unfold M
 rw [Jk]
 have e:mk P &&& mk Q=mk (λi=>P i/\Q i):=by
  refine aej λi=>?_
  rw [Nat.testBit_and,Bool.and_eq_true,qU,qU]
  constructor
  ·rintro ⟨⟨a,b⟩,_,d⟩;exact ⟨a,b,d⟩
  ·rintro ⟨a,b,d⟩;exact ⟨⟨a,b⟩,a,d⟩
 rw [e]
 omega
theorem mk_one {k:Nat} (hk:k < 64):mk (λi=>i=k)=2 ^ k:=by
 symm;refine aej λi=>?_
 rw [Nat.testBit_two_pow,decide_eq_true_iff]
 constructor
 ·rintro rfl;exact ⟨hk,rfl⟩
 ·rintro ⟨_,rfl⟩;rfl
theorem aph {k:Nat} (hk:k < 64):(1:Int) * 2 ^ k=M (λi=>i=k):=by
 unfold M;rw [mk_one hk];simp
theorem aez (n:Nat) (h:n≠0):∃ k m,n=2 ^ k * (2 * m+1):=by
 induction n using Nat.strongRecOn with
 | ind n ih=>
  by_cases e:n % 2=1
  ·exact ⟨0,n / 2,by simp;omega⟩
  ·obtain ⟨k,m,q⟩:=ih (n / 2) (by omega) (by omega)
   refine ⟨k+1,m,?_⟩
   rw [Nat.pow_succ,Nat.mul_comm (2 ^ k) 2,Nat.mul_assoc,<-q]
   omega
theorem ajN (k m:Nat):2 ^ k * (2 * m+1) &&& (2 ^ k * (2 * m+1) - 1)=2 ^ k * (2 * m):=by
 have hp:0 < 2 ^ k:=Nat.two_pow_pos k
 have e1:2 ^ k * (2 * m+1)=2 ^ k * (2 * m+1)+0:=rfl
 have e2:2 ^ k * (2 * m+1) - 1=2 ^ k * (2 * m)+(2 ^ k - 1):=by rw [Nat.mul_add];omega
 have e3:2 ^ k * (2 * m)=2 ^ k * (2 * m)+0:=rfl
 refine Nat.eq_of_testBit_eq λj=>?_
 rw [Nat.testBit_and,e2]
 conv=>lhs;lhs;rw [e1]
 conv=>rhs;rw [e3]
 rw [Nat.testBit_two_pow_mul_add _ hp,Nat.testBit_two_pow_mul_add _ (by omega),Nat.testBit_two_pow_mul_add _ hp]
 by_cases hj:j < k
 ·simp [hj]
 ·simp only [hj,if_false]
  cases q:j - k with
  | zero=>simp
  | succ i=>
   rw [Nat.testBit_succ,Nat.testBit_succ]
   have e:(2 * m+1) / 2=2 * m / 2:=by omega
   rw [e,Bool.and_self]
theorem ahE {P:Nat->Prop} (h:M P≠0):∃ k,k < 64/\P k/\(∀ i,i < k->¬P i)/\Builtin.bitAnd (M P) (-(M P))=M (λi=>i=k)/\((Builtin.Int.intBits (M (λi=>i=k)):Nat):Int) - 1=k /\
  M P - M (λi=>i=k)=M (λi=>P i/\i≠k):=by
 have h':mk P≠0:=by unfold M at h;omega
 obtain ⟨k,m,e⟩:=aez _ h'
 have bit:∀ i,(mk P).testBit i=if i < k then false else (2 * m+1).testBit (i - k):=λi=>by
  rw [e]
  have:=Nat.testBit_two_pow_mul_add (2 * m+1) (Nat.two_pow_pos k) i
  rw [Nat.add_zero] at this
  rw [this]
  by_cases hi:i < k<;>simp [hi]
 have bk:=bit k
 have hk:=(qU P k).mp (by rw [bk];simp)
 have low:∀ i,i < k->¬P i:=λi hi p=>by
  have b:=bit i
  rw [if_pos hi] at b
  rw [(qU P i).mpr ⟨by omega,p⟩] at b
  cases b
 refine ⟨k,hk.1,hk.2,low,?_,?_,?_⟩
 ·have e1:-(M P)=Builtin.bitNot ((mk P - 1:Nat):Int):=by unfold M Builtin.bitNot;omega
  rw [e1]
  unfold M
  rw [Jk,mk_one hk.1]
  have e2:=ajN k m
  rw [<-e] at e2
  rw [e2]
  have e3:2 ^ k * (2 * m+1)=2 ^ k * (2 * m)+2 ^ k:=by rw [Nat.mul_add];omega
  omega
 ·unfold M
  rw [mk_one hk.1]
  have hp:(2:Nat) ^ k≠0:=by have:=Nat.two_pow_pos k;omega
  have:Builtin.Int.intBits ((2 ^ k:Nat):Int)=k+1:=by
   unfold Builtin.Int.intBits
   rw [if_neg (by simp only [beq_iff_eq];omega)]
   simp [Nat.log2_two_pow]
  rw [this]
  omega
 ·have q:=GD P (λi=>i=k)
  have e1:mk (λi=>P i/\i=k)=mk (λi=>i=k):=akc λi _=>⟨λz=>z.2,λz=>⟨z▸hk.2,z⟩⟩
  unfold M
  rw [e1] at q
  show ((mk P:Nat):Int) - _=((mk λi=>P i/\¬i=k:Nat):Int)
  omega
end SC
namespace SC
open PySem L2
def dB (x0 x1 x2 x3 x4:V):List (Str×V):=[("parent",x0),("kind",x1),("told_part",x2),("coming_acts",x3),("leaving_acts",x4)]
section
variable {x0 x1 x2 x3 x4 v:V}
theorem Ru:(dB x0 x1 x2 x3 x4).lookup ("parent":Str)=some x0:=rfl
theorem Q6:cj "parent" v (dB x0 x1 x2 x3 x4)=dB v x1 x2 x3 x4:=rfl
theorem We:(dB x0 x1 x2 x3 x4).lookup ("kind":Str)=some x1:=rfl
theorem VG:cj "kind" v (dB x0 x1 x2 x3 x4)=dB x0 v x2 x3 x4:=rfl
theorem K3:(dB x0 x1 x2 x3 x4).lookup ("told_part":Str)=some x2:=rfl
theorem J0:cj "told_part" v (dB x0 x1 x2 x3 x4)=dB x0 x1 v x3 x4:=rfl
theorem Ei:(dB x0 x1 x2 x3 x4).lookup ("coming_acts":Str)=some x3:=rfl
theorem GN:cj "coming_acts" v (dB x0 x1 x2 x3 x4)=dB x0 x1 x2 v x4:=rfl
theorem DW:(dB x0 x1 x2 x3 x4).lookup ("leaving_acts":Str)=some x4:=rfl
theorem DY:cj "leaving_acts" v (dB x0 x1 x2 x3 x4)=dB x0 x1 x2 x3 v:=rfl
theorem ID:(dB x0 x1 x2 x3 x4).lookup ("is_history":Str)=none:=rfl
theorem ak5:(dB x0 x1 x2 x3 x4).length < 1000:=by show 5 < 1000;decide
end
def fR (x0 x1 x2 x3 x4 x5 x6:V):List (Str×V):=[("source",x0),("event",x1),("target",x2),("ask",x3),("which",x4),("much",x5),("acts",x6)]
section
variable {x0 x1 x2 x3 x4 x5 x6 v:V}
theorem Wi:(fR x0 x1 x2 x3 x4 x5 x6).lookup ("source":Str)=some x0:=rfl
theorem Wx:cj "source" v (fR x0 x1 x2 x3 x4 x5 x6)=fR v x1 x2 x3 x4 x5 x6:=rfl
theorem abD:(fR x0 x1 x2 x3 x4 x5 x6).lookup ("event":Str)=some x1:=rfl
theorem aaX:cj "event" v (fR x0 x1 x2 x3 x4 x5 x6)=fR x0 v x2 x3 x4 x5 x6:=rfl
theorem VM:(fR x0 x1 x2 x3 x4 x5 x6).lookup ("target":Str)=some x2:=rfl
theorem VT:cj "target" v (fR x0 x1 x2 x3 x4 x5 x6)=fR x0 x1 v x3 x4 x5 x6:=rfl
theorem agv:(fR x0 x1 x2 x3 x4 x5 x6).lookup ("ask":Str)=some x3:=rfl
theorem agp:cj "ask" v (fR x0 x1 x2 x3 x4 x5 x6)=fR x0 x1 x2 v x4 x5 x6:=rfl
theorem aaw:(fR x0 x1 x2 x3 x4 x5 x6).lookup ("which":Str)=some x4:=rfl
theorem abA:cj "which" v (fR x0 x1 x2 x3 x4 x5 x6)=fR x0 x1 x2 x3 v x5 x6:=rfl
theorem aeY:(fR x0 x1 x2 x3 x4 x5 x6).lookup ("much":Str)=some x5:=rfl
theorem afn:cj "much" v (fR x0 x1 x2 x3 x4 x5 x6)=fR x0 x1 x2 x3 x4 v x6:=rfl
theorem afY:(fR x0 x1 x2 x3 x4 x5 x6).lookup ("acts":Str)=some x6:=rfl
theorem aeG:cj "acts" v (fR x0 x1 x2 x3 x4 x5 x6)=fR x0 x1 x2 x3 x4 x5 v:=rfl
theorem aoe:(fR x0 x1 x2 x3 x4 x5 x6).length < 1000:=by show 7 < 1000;decide
end
def bM (x0 x1 x2:V):List (Str×V):=[("states",x0),("ways",x1),("run",x2)]
section
variable {x0 x1 x2 v:V}
theorem Q3:(bM x0 x1 x2).lookup ("states":Str)=some x0:=rfl
theorem Rl:cj "states" v (bM x0 x1 x2)=bM v x1 x2:=rfl
theorem V0:(bM x0 x1 x2).lookup ("ways":Str)=some x1:=rfl
theorem VL:cj "ways" v (bM x0 x1 x2)=bM x0 v x2:=rfl
theorem aan:(bM x0 x1 x2).lookup ("run":Str)=some x2:=rfl
theorem ZS:cj "run" v (bM x0 x1 x2)=bM x0 x1 v:=rfl
theorem Vy:(bM x0 x1 x2).lookup ("begin":Str)=none:=rfl
theorem Sl:(bM x0 x1 x2).lookup ("state":Str)=none:=rfl
theorem Rm:(bM x0 x1 x2).lookup ("begins":Str)=none:=rfl
theorem Zu:(bM x0 x1 x2).lookup ("way":Str)=none:=rfl
theorem Sk:(bM x0 x1 x2).lookup ("guard":Str)=none:=rfl
theorem aaI:(bM x0 x1 x2).lookup ("act":Str)=none:=rfl
theorem afu:(bM x0 x1 x2).lookup ("on":Str)=none:=rfl
theorem Ka:(bM x0 x1 x2).lookup ("has_state":Str)=none:=rfl
theorem Oj:(bM x0 x1 x2).lookup ("has_way":Str)=none:=rfl
theorem Tv:(bM x0 x1 x2).lookup ("parts":Str)=none:=rfl
theorem KU:(bM x0 x1 x2).lookup ("beginning":Str)=none:=rfl
theorem Ll:(bM x0 x1 x2).lookup ("is_within":Str)=none:=rfl
theorem KO:(bM x0 x1 x2).lookup ("may_start":Str)=none:=rfl
theorem MF:(bM x0 x1 x2).lookup ("may_hold":Str)=none:=rfl
theorem L7:(bM x0 x1 x2).lookup ("may_lead":Str)=none:=rfl
theorem IL:(bM x0 x1 x2).lookup ("may_recall":Str)=none:=rfl
theorem alG:(bM x0 x1 x2).length < 1000:=by show 3 < 1000;decide
end
def bJ (x0 x1 x2 x3 x4 x5 x6 x7 x8 x9 x10:V):List (Str×V):=[("states",x0),("ways",x1),("around",x2),("inner",x3),("inner_parts",x4),("firsts",x5),("ends",x6),("plain",x7),("histories",x8),("first_leads",x9),("offers",x10)]
section
variable {x0 x1 x2 x3 x4 x5 x6 x7 x8 x9 x10 v:V}
theorem TY:(bJ x0 x1 x2 x3 x4 x5 x6 x7 x8 x9 x10).lookup ("states":Str)=some x0:=rfl
theorem Ug:cj "states" v (bJ x0 x1 x2 x3 x4 x5 x6 x7 x8 x9 x10)=bJ v x1 x2 x3 x4 x5 x6 x7 x8 x9 x10:=rfl
theorem Yr:(bJ x0 x1 x2 x3 x4 x5 x6 x7 x8 x9 x10).lookup ("ways":Str)=some x1:=rfl
theorem YB:cj "ways" v (bJ x0 x1 x2 x3 x4 x5 x6 x7 x8 x9 x10)=bJ x0 v x2 x3 x4 x5 x6 x7 x8 x9 x10:=rfl
theorem S5:(bJ x0 x1 x2 x3 x4 x5 x6 x7 x8 x9 x10).lookup ("around":Str)=some x2:=rfl
theorem UH:cj "around" v (bJ x0 x1 x2 x3 x4 x5 x6 x7 x8 x9 x10)=bJ x0 x1 v x3 x4 x5 x6 x7 x8 x9 x10:=rfl
theorem VO:(bJ x0 x1 x2 x3 x4 x5 x6 x7 x8 x9 x10).lookup ("inner":Str)=some x3:=rfl
theorem Wn:cj "inner" v (bJ x0 x1 x2 x3 x4 x5 x6 x7 x8 x9 x10)=bJ x0 x1 x2 v x4 x5 x6 x7 x8 x9 x10:=rfl
theorem IS:(bJ x0 x1 x2 x3 x4 x5 x6 x7 x8 x9 x10).lookup ("inner_parts":Str)=some x4:=rfl
theorem IF:cj "inner_parts" v (bJ x0 x1 x2 x3 x4 x5 x6 x7 x8 x9 x10)=bJ x0 x1 x2 x3 v x5 x6 x7 x8 x9 x10:=rfl
theorem So:(bJ x0 x1 x2 x3 x4 x5 x6 x7 x8 x9 x10).lookup ("firsts":Str)=some x5:=rfl
theorem SS:cj "firsts" v (bJ x0 x1 x2 x3 x4 x5 x6 x7 x8 x9 x10)=bJ x0 x1 x2 x3 x4 v x6 x7 x8 x9 x10:=rfl
theorem Yd:(bJ x0 x1 x2 x3 x4 x5 x6 x7 x8 x9 x10).lookup ("ends":Str)=some x6:=rfl
theorem aaC:cj "ends" v (bJ x0 x1 x2 x3 x4 x5 x6 x7 x8 x9 x10)=bJ x0 x1 x2 x3 x4 x5 v x7 x8 x9 x10:=rfl
theorem VN:(bJ x0 x1 x2 x3 x4 x5 x6 x7 x8 x9 x10).lookup ("plain":Str)=some x7:=rfl
theorem VJ:cj "plain" v (bJ x0 x1 x2 x3 x4 x5 x6 x7 x8 x9 x10)=bJ x0 x1 x2 x3 x4 x5 x6 v x8 x9 x10:=rfl
theorem Lz:(bJ x0 x1 x2 x3 x4 x5 x6 x7 x8 x9 x10).lookup ("histories":Str)=some x8:=rfl
theorem Mw:cj "histories" v (bJ x0 x1 x2 x3 x4 x5 x6 x7 x8 x9 x10)=bJ x0 x1 x2 x3 x4 x5 x6 x7 v x9 x10:=rfl
theorem IE:(bJ x0 x1 x2 x3 x4 x5 x6 x7 x8 x9 x10).lookup ("first_leads":Str)=some x9:=rfl
theorem IQ:cj "first_leads" v (bJ x0 x1 x2 x3 x4 x5 x6 x7 x8 x9 x10)=bJ x0 x1 x2 x3 x4 x5 x6 x7 x8 v x10:=rfl
theorem Tr:(bJ x0 x1 x2 x3 x4 x5 x6 x7 x8 x9 x10).lookup ("offers":Str)=some x10:=rfl
theorem Ux:cj "offers" v (bJ x0 x1 x2 x3 x4 x5 x6 x7 x8 x9 x10)=bJ x0 x1 x2 x3 x4 x5 x6 x7 x8 x9 v:=rfl
theorem Rp:(bJ x0 x1 x2 x3 x4 x5 x6 x7 x8 x9 x10).lookup ("nearest":Str)=none:=rfl
theorem UR:(bJ x0 x1 x2 x3 x4 x5 x6 x7 x8 x9 x10).lookup ("filled":Str)=none:=rfl
theorem Rx:(bJ x0 x1 x2 x3 x4 x5 x6 x7 x8 x9 x10).lookup ("brought":Str)=none:=rfl
theorem L3:(bJ x0 x1 x2 x3 x4 x5 x6 x7 x8 x9 x10).lookup ("has_ended":Str)=none:=rfl
theorem ama:(bJ x0 x1 x2 x3 x4 x5 x6 x7 x8 x9 x10).length < 1000:=by show 11 < 1000;decide
end
def mO (x0 x1 x2:V):List (Str×V):=[("path",x0),("stays",x1),("leaves",x2)]
section
variable {x0 x1 x2 v:V}
theorem Ye:(mO x0 x1 x2).lookup ("path":Str)=some x0:=rfl
theorem ZG:cj "path" v (mO x0 x1 x2)=mO v x1 x2:=rfl
theorem Wm:(mO x0 x1 x2).lookup ("stays":Str)=some x1:=rfl
theorem Wk:cj "stays" v (mO x0 x1 x2)=mO x0 v x2:=rfl
theorem U1:(mO x0 x1 x2).lookup ("leaves":Str)=some x2:=rfl
theorem Si:cj "leaves" v (mO x0 x1 x2)=mO x0 x1 v:=rfl
theorem anA:(mO x0 x1 x2).length < 1000:=by show 3 < 1000;decide
end
def bF (x0 x1 x2 x3 x4 x5 x6 x7:V):List (Str×V):=[("plan",x0),("numbers",x1),("leads",x2),("active",x3),("over",x4),("raised",x5),("heard",x6),("trail",x7)]
section
variable {x0 x1 x2 x3 x4 x5 x6 x7 v:V}
theorem ad3:(bF x0 x1 x2 x3 x4 x5 x6 x7).lookup ("plan":Str)=some x0:=rfl
theorem aeA:cj "plan" v (bF x0 x1 x2 x3 x4 x5 x6 x7)=bF v x1 x2 x3 x4 x5 x6 x7:=rfl
theorem SV:(bF x0 x1 x2 x3 x4 x5 x6 x7).lookup ("numbers":Str)=some x1:=rfl
theorem Vo:cj "numbers" v (bF x0 x1 x2 x3 x4 x5 x6 x7)=bF x0 v x2 x3 x4 x5 x6 x7:=rfl
theorem ZI:(bF x0 x1 x2 x3 x4 x5 x6 x7).lookup ("leads":Str)=some x2:=rfl
theorem Y6:cj "leads" v (bF x0 x1 x2 x3 x4 x5 x6 x7)=bF x0 x1 v x3 x4 x5 x6 x7:=rfl
theorem V6:(bF x0 x1 x2 x3 x4 x5 x6 x7).lookup ("active":Str)=some x3:=rfl
theorem Wa:cj "active" v (bF x0 x1 x2 x3 x4 x5 x6 x7)=bF x0 x1 x2 v x4 x5 x6 x7:=rfl
theorem adX:(bF x0 x1 x2 x3 x4 x5 x6 x7).lookup ("over":Str)=some x4:=rfl
theorem aeN:cj "over" v (bF x0 x1 x2 x3 x4 x5 x6 x7)=bF x0 x1 x2 x3 v x5 x6 x7:=rfl
theorem V3:(bF x0 x1 x2 x3 x4 x5 x6 x7).lookup ("raised":Str)=some x5:=rfl
theorem Ww:cj "raised" v (bF x0 x1 x2 x3 x4 x5 x6 x7)=bF x0 x1 x2 x3 x4 v x6 x7:=rfl
theorem Zn:(bF x0 x1 x2 x3 x4 x5 x6 x7).lookup ("heard":Str)=some x6:=rfl
theorem ZR:cj "heard" v (bF x0 x1 x2 x3 x4 x5 x6 x7)=bF x0 x1 x2 x3 x4 x5 v x7:=rfl
theorem aa1:(bF x0 x1 x2 x3 x4 x5 x6 x7).lookup ("trail":Str)=some x7:=rfl
theorem Zf:cj "trail" v (bF x0 x1 x2 x3 x4 x5 x6 x7)=bF x0 x1 x2 x3 x4 x5 x6 v:=rfl
theorem aa9:(bF x0 x1 x2 x3 x4 x5 x6 x7).lookup ("start":Str)=none:=rfl
theorem aea:(bF x0 x1 x2 x3 x4 x5 x6 x7).lookup ("send":Str)=none:=rfl
theorem Zg:(bF x0 x1 x2 x3 x4 x5 x6 x7).lookup ("is_in":Str)=none:=rfl
theorem WE:(bF x0 x1 x2 x3 x4 x5 x6 x7).lookup ("number":Str)=none:=rfl
theorem af9:(bF x0 x1 x2 x3 x4 x5 x6 x7).lookup ("take":Str)=none:=rfl
theorem Wz:(bF x0 x1 x2 x3 x4 x5 x6 x7).lookup ("settle":Str)=none:=rfl
theorem aai:(bF x0 x1 x2 x3 x4 x5 x6 x7).lookup ("moves":Str)=none:=rfl
theorem Yc:(bF x0 x1 x2 x3 x4 x5 x6 x7).lookup ("taken":Str)=none:=rfl
theorem Ry:(bF x0 x1 x2 x3 x4 x5 x6 x7).lookup ("first_so":Str)=none:=rfl
theorem afp:(bF x0 x1 x2 x3 x4 x5 x6 x7).lookup ("move":Str)=none:=rfl
theorem VZ:(bF x0 x1 x2 x3 x4 x5 x6 x7).lookup ("agreed":Str)=none:=rfl
theorem afh:(bF x0 x1 x2 x3 x4 x5 x6 x7).lookup ("step":Str)=none:=rfl
theorem Q2:(bF x0 x1 x2 x3 x4 x5 x6 x7).lookup ("remember":Str)=none:=rfl
theorem abK:(bF x0 x1 x2 x3 x4 x5 x6 x7).lookup ("leave":Str)=none:=rfl
theorem Vh:(bF x0 x1 x2 x3 x4 x5 x6 x7).lookup ("come_to":Str)=none:=rfl
theorem afB:(bF x0 x1 x2 x3 x4 x5 x6 x7).lookup ("come":Str)=none:=rfl
theorem ag9:(bF x0 x1 x2 x3 x4 x5 x6 x7).lookup ("end":Str)=none:=rfl
theorem aiD:(bF x0 x1 x2 x3 x4 x5 x6 x7).lookup ("do":Str)=none:=rfl
theorem aox:(bF x0 x1 x2 x3 x4 x5 x6 x7).length < 1000:=by show 8 < 1000;decide
end
end SC
namespace SC
open PySem L2
inductive Lb where
 | no | ch | sl | wl
 | st (i:Nat) | co (i:Nat) | le (i:Nat) | wy (j:Nat) | ac (j:Nat)
def ko:Option Nat->Int
 | none=>-1
 | some x=>x
def kN (i:Nat) (s:Rc42.State):Int:=if i=0 then -1 else (s.parent:Nat)
def gG (H:Hp) (l:Addr) (as:List Rc42.Act):Prop:=
 ∃ ts:List Addr,H l=some (.lst (ts.map V.ref))/\ts.length=as.length/\∀ (k:Nat) a x,as[k]?=some a->ts[k]?=some x->H x=some (.tup [.int (a.kind:Nat),.int (a.which:Nat),.int a.much])
def StR (t:Adr) (lb:Addr->Lb) (H:Hp) (a:Addr) (i:Nat) (s:Rc42.State):Prop:=
 ∃ dx ca la,H a=some (.ins t.bA dx (dB (.int (kN i s)) (.int (s.kind:Nat)) (.int (ko s.begins)) (.ref ca) (.ref la)))/\gG H ca s.come/\gG H la s.leave/\lb a=.st i/\lb ca=.co i/\lb la=.le i
def WyR (t:Adr) (lb:Addr->Lb) (H:Hp) (a:Addr) (j:Nat) (w:Rc42.Way):Prop:=
 ∃ dx wa,H a=some (.ins t.eV dx (fR (.int (w.source:Nat)) (.int (w.event:Nat)) (.int (ko w.target)) (.int (w.ask:Nat)) (.int (w.which:Nat)) (.int w.much) (.ref wa)))/\gG H wa w.acts/\lb a=.wy j/\lb wa=.ac j
structure ChL (t:Adr) (lb:Addr->Lb) (H:Hp) (sl wl:Addr) (ss ws:List Addr) (c:Rc42.Chart):Prop where
 s1:H sl=some (.lst (ss.map V.ref))
 s2:ss.length=c.states.length
 s3:∀ (i:Nat) s a,c.states[i]?=some s->ss[i]?=some a->StR t lb H a i s
 s4:lb sl=.sl
 w1:H wl=some (.lst (ws.map V.ref))
 w2:ws.length=c.ways.length
 w3:∀ (j:Nat) w a,c.ways[j]?=some w->ws[j]?=some a->WyR t lb H a j w
 w4:lb wl=.wl
theorem gG.same {H H':Hp} {l:Addr} {as:List Rc42.Act} (h:gG H l as) (e:aP H H'):gG H' l as:=by
 obtain ⟨ts,a,b,c⟩:=h
 exact ⟨ts,e _ _ a,b,λk a x h1 h2=>e _ _ (c k a x h1 h2)⟩
theorem ChL.same {t:Adr} {lb:Addr->Lb} {H H':Hp} {sl wl:Addr} {ss ws:List Addr} {c:Rc42.Chart} (h:ChL t lb H sl wl ss ws c) (e:aP H H'):ChL t lb H' sl wl ss ws c where
 s1:=e _ _ h.s1
 s2:=h.s2
 s3:=λi s a h1 h2=>let ⟨dx,ca,la,x1,x2,x3,x4⟩:=h.s3 i s a h1 h2;⟨dx,ca,la,e _ _ x1,x2.same e,x3.same e,x4⟩
 s4:=h.s4
 w1:=e _ _ h.w1
 w2:=h.w2
 w3:=λj w a h1 h2=>let ⟨dx,wa,x1,x2,x4⟩:=h.w3 j w a h1 h2;⟨dx,wa,e _ _ x1,x2.same e,x4⟩
 w4:=h.w4
theorem ChL.st {t:Adr} {lb:Addr->Lb} {H:Hp} {sl wl:Addr} {ss ws:List Addr} {c:Rc42.Chart} (h:ChL t lb H sl wl ss ws c) {i:Nat} (hi:i < c.states.length) :
  ∃ a,ss[i]?=some a/\(ss.map V.ref)[i]?=some (.ref a)/\StR t lb H a i (c.at_ i):=by
 have hi':i < ss.length:=by rw [h.s2];exact hi
 refine ⟨ss[i],List.getElem?_eq_getElem hi',by rw [List.getElem?_map,List.getElem?_eq_getElem hi'];rfl,?_⟩
 have e:c.states[i]?=some (c.at_ i):=by unfold Rc42.Chart.at_;rw [List.getD_eq_getElem?_getD,List.getElem?_eq_getElem hi];rfl
 exact h.s3 i _ _ e (List.getElem?_eq_getElem hi')
theorem ChL.wy {t:Adr} {lb:Addr->Lb} {H:Hp} {sl wl:Addr} {ss ws:List Addr} {c:Rc42.Chart} (h:ChL t lb H sl wl ss ws c) {j:Nat} {w:Rc42.Way} (hw:c.ways[j]?=some w) :
  ∃ a,ws[j]?=some a/\(ws.map V.ref)[j]?=some (.ref a)/\WyR t lb H a j w:=by
 have hj:=(List.getElem?_eq_some_iff.mp hw).1
 have hj':j < ws.length:=by rw [h.w2];exact hj
 exact ⟨ws[j],List.getElem?_eq_getElem hj',by rw [List.getElem?_map,List.getElem?_eq_getElem hj'];rfl,h.w3 j w _ hw (List.getElem?_eq_getElem hj')⟩
theorem aT {H:Hp} {p:Addr} {o:HO} (h:H p=none):aP H (upd H p o):=λb u e=>by rw [aq (ao e h)];exact e
section
variable {H:Hp} {Q:VK} {i j:Int} {b:Bool} {x y:V} {K:W.Frag}
theorem amX:rEq (.int i) (.int j) H Q↔Q (.bl (decide (i=j))) H:=by unfold rEq;simp [anz]
theorem al0:rNe (.int i) (.int j) H Q↔Q (.bl (!decide (i=j))) H:=by unfold rNe;simp [anz]
theorem am2 {g:Int->Int->V}:rI0 g (.int i) (.int j) H Q↔Q (g i j) H:=by unfold rI0;simp
theorem anT {C:Int->Int->Prop} {g:Int->Int->V}:rI C g (.int i) (.int j) H Q↔C i j/\Q (g i j) H:=by unfold rI;simp
theorem amO {g:Int->Int->Int}:ipI g (.int i) (.int j) H Q↔Q (.int (g i j)) H:=by unfold ipI;simp
theorem aoI {g:Int->V}:rU g (.int i) H Q↔Q (g i) H:=by unfold rU;simp
theorem YD {p:Addr}:decide (V.ref p=V.non)=false:=by simp
end
theorem ix {K:W.Frag} {H:Hp} {Q:VK} {p:Addr} {xs:List V} {k:Int} {j:Nat} {v:V} (h:H p=some (.lst xs)) (e:k=(j:Int)) (l:xs[j]?=some v) (q:Q v H):bY K (.ref p) (.int k) H Q:=
 ⟨p,xs,k,v,rfl,rfl,SqL.of h,at_of e l,q⟩
theorem len {K:W.Frag} {H:Hp} {Q:VK} {p:Addr} {xs:List V} (h:H p=some (.lst xs)) (q:Q (.int xs.length) H):FP K [.ref p] H Q:=⟨p,xs,rfl,.inl (SqL.of h),q⟩
theorem app {H:Hp} {Q:VK} {p:Addr} {xs:List V} {y:V} (h:H p=some (.lst xs)) (z:xs.length < sizeLine) (q:Q .non (upd H p (.lst (xs++[y])))):eX (.ref p) [y] H Q:=⟨p,xs,y,rfl,rfl,h,z,q⟩
end SC
namespace SC
open PySem L2
theorem tyL {K:W.Frag} {H:Hp} {p:Addr} {xs:List V} (h:H p=some (.lst xs)):tyV K "list" (.ref p) H:=.inl ⟨rfl,xs,SqL.of h⟩
theorem tyI {K:W.Frag} {H:Hp} {i:Int}:tyV K "int" (.int i) H:=rfl
theorem apA {α:Type} {a b:α} {l:List α}:(a::l).set 0 b=b::l:=rfl
theorem apH {α:Type} {a b:α} {l:List α} {n:Nat}:(a::l).set (n+1) b=a::l.set n b:=rfl
theorem am1 {t:TG} {u:TGs} {v:V} {r:List V} {σ:St} {H:Hp} {Q:St->Hp->Prop}:wI t u (v::r) σ H Q↔t v σ H λσ' H'=>u r σ' H' Q:=
 ⟨λ⟨_,_,e,q⟩=>by cases e;exact q,λq=>⟨_,_,rfl,q⟩⟩
theorem aoK {σ:St} {H:Hp} {Q:St->Hp->Prop}:abo [] σ H Q↔Q σ H:=by unfold abo;simp
theorem gT {K:W.Frag} {n:Nat} {t:TGs} {σ:St} {H:Hp} {Q:St->Hp->Prop} {T:Addr} {xs:List V} (h:H T=some (.tup xs)) (hn:xs.length=n) (q:t xs σ H Q):ael K n t (.ref T) σ H Q:=⟨T,xs,rfl,SqT.of h,hn,q⟩
section
variable {K:W.Frag} {g:TG} {tb:TS} {D:Ends} {σ:St} {H:Hp}
def K0 (J:It) (g:TG) (tb:TS) (D:Ends) (σ:St) (H:Hp):Prop:=∃ W:Nat->Nat->St->Hp->Prop,(∃ m,W 0 m σ H)/\∀ i m σ H,W i m σ H ->
 (J.stop i H/\D.nx σ H)\/(J.go i H/\∃ N:St->Hp->Prop,(∀ σ' H',N σ' H'->∃ m',m' < m/\W (i+1) m' σ' H')/\∀ x H',J.yld i H x H'->g x σ H' λσ2 H2=>tb { D with nx:=N,ct:=N,bk:=D.nx } σ2 H2)
theorem amh {wi:TI}:uA wi g tb D σ H↔wi σ H λJ H1=>K0 J g tb D σ H1:=Iff.rfl
theorem aaf {J:It} {n:Nat} (Pv:Nat->St->Hp->Prop) (h0:Pv 0 σ H) (go:∀ i σ H,i < n->Pv i σ H->J.go i H) (stop:∀ σ H,Pv n σ H->J.stop n H)
  (hs:∀ i σ H x H',i < n->Pv i σ H->J.yld i H x H'->g x σ H' λσ2 H2=>tb { D with nx:=Pv (i+1),ct:=Pv (i+1),bk:=D.nx } σ2 H2) (hd:∀ σ H,Pv n σ H->D.nx σ H):K0 J g tb D σ H:=by
 refine ⟨λi m σ H=>m=n - i/\i<=n/\Pv i σ H,⟨n,by simp,Nat.zero_le _,h0⟩,?_⟩
 rintro i m σ H ⟨rfl,hi,p⟩
 by_cases hlt:i < n
 ·exact .inr ⟨go i σ H hlt p,Pv (i+1),λσ' H' p'=>⟨n - (i+1),by omega,rfl,hlt,p'⟩,λx H' y=>hs i σ H x H' hlt p y⟩
 ·have e:i=n:=by omega
  subst e
  exact .inl ⟨stop σ H p,hd σ H p⟩
theorem VF {a:Addr} {xs:List V} (Pv:Nat->St->Hp->Prop) (h0:Pv 0 σ H) (hl:∀ i σ H,i<=xs.length->Pv i σ H->H a=some (.lst xs))
  (hs:∀ (i:Nat) x σ H T,xs[i]?=some x->Pv i σ H->H T=none->g (.ref T) σ (upd H T (.tup [.int (i:Nat),x])) λσ2 H2=>tb { D with nx:=Pv (i+1),ct:=Pv (i+1),bk:=D.nx } σ2 H2) (hd:∀ σ H,Pv xs.length σ H->D.nx σ H):K0 (Ite K a) g tb D σ H:=by
 refine aaf Pv h0 (λi σ H hi p=>⟨xs,xs[i],SqL.of (hl i σ H (by omega) p),by simp [hi]⟩) (λσ H p=>⟨xs,SqL.of (hl _ σ H (Nat.le_refl _) p),Nat.le_refl _⟩) (λi σ H x H' hi p y=>?_) hd
 obtain ⟨T,x',rfl,hT,rfl,z⟩:=y
 exact hs i x' σ H T (z xs (SqL.of (hl i σ H (by omega) p))) p hT
theorem jL {a:Addr} {xs:List V} (Pv:Nat->St->Hp->Prop) (h0:Pv 0 σ H) (hl:∀ i σ H,i<=xs.length->Pv i σ H->H a=some (.lst xs))
  (hs:∀ (i:Nat) x σ H,xs[i]?=some x->Pv i σ H->g x σ H λσ2 H2=>tb { D with nx:=Pv (i+1),ct:=Pv (i+1),bk:=D.nx } σ2 H2) (hd:∀ σ H,Pv xs.length σ H->D.nx σ H):K0 (Itl K a) g tb D σ H:=by
 refine aaf Pv h0 (λi σ H hi p=>⟨xs,xs[i],SqL.of (hl i σ H (by omega) p),by simp [hi]⟩) (λσ H p=>⟨xs,SqL.of (hl _ σ H (Nat.le_refl _) p),Nat.le_refl _⟩) (λi σ H x H' hi p y=>?_) hd
 obtain ⟨rfl,z⟩:=y
 exact hs i x σ _ (z xs (SqL.of (hl i σ _ (by omega) p))) p
theorem al7 {a:Addr} {xs:List V} (Pv:Nat->St->Hp->Prop) (h0:Pv 0 σ H) (hl:∀ i σ H,i<=xs.length->Pv i σ H->H a=some (.lst xs))
  (hs:∀ (i:Nat) x σ H,i < xs.length->xs[xs.length - 1 - i]?=some x->Pv i σ H->g x σ H λσ2 H2=>tb { D with nx:=Pv (i+1),ct:=Pv (i+1),bk:=D.nx } σ2 H2) (hd:∀ σ H,Pv xs.length σ H->D.nx σ H):K0 (Itv K a xs.length) g tb D σ H:=by
 refine aaf Pv h0 (λi σ H hi p=>⟨hi,xs,xs[xs.length - 1 - i]'(by omega),SqL.of (hl i σ H (by omega) p),by simp [show xs.length - 1 - i < xs.length by omega]⟩) (λσ H p=>Nat.le_refl _) (λi σ H x H' hi p y=>?_) hd
 obtain ⟨rfl,z⟩:=y
 exact hs i x σ _ hi (z xs (SqL.of (hl i σ _ (by omega) p))) p
theorem amf {d:Addr} {od:Obj} {kvs:List (Key×V)} (Pv:Nat->St->Hp->Prop) (h0:Pv 0 σ H) (hl:∀ i σ H,i<=kvs.length->Pv i σ H->H d=some (.frz od (.dK kvs)))
  (hs:∀ (i:Nat) k v σ H T,kvs[i]?=some (k,v)->Pv i σ H->H T=none->g (.ref T) σ (upd H T (.tup [kV k,v])) λσ2 H2=>tb { D with nx:=Pv (i+1),ct:=Pv (i+1),bk:=D.nx } σ2 H2) (hd:∀ σ H,Pv kvs.length σ H->D.nx σ H):K0 (Iti d od kvs) g tb D σ H:=by
 refine aaf Pv h0 (λi σ H hi p=>⟨hl i σ H (by omega) p,hi⟩) (λσ H p=>⟨hl _ σ H (Nat.le_refl _) p,Nat.le_refl _⟩) (λi σ H x H' hi p y=>?_) hd
 obtain ⟨T,k,v,e,rfl,hT,rfl⟩:=y
 exact hs i k v σ H T e p hT
def anC (J:It) (g:TG) (tt:TT) (te:TE) (vs:List Nat) (σ:St) (H1:Hp) (D:Addr) (Qd:Hp->Prop):Prop:=∃ W:Nat->Nat->Hp->Prop,(∃ m,W 0 m (upd H1 D (.lst [])))/\∀ i m H,W i m H ->
 (J.stop i H/\Qd H)\/(J.go i H/\∃ Nx:Hp->Prop,(∀ H',Nx H'->∃ m',m' < m/\W (i+1) m' H')/\∀ x H',J.yld i H x H'->g x (wipe σ vs) H' λσ2 H2=>wipe σ2 vs=wipe σ vs/\tt σ2 H2 λb H3=>
  if b=true then te σ2 H3 λy H4=>∃ acc,H4 D=some (.lst acc)/\acc.length < sizeLine/\Nx (upd H4 D (.lst (acc++[y]))) else Nx H3)
theorem aoZ {wi:TI} {tt:TT} {te:TE} {vs:List Nat} {Q:VK}:tLc wi g tt te vs σ H Q↔wi σ H λJ H1=>∀ D,H1 D=none->anC J g tt te vs σ H1 D (Q (.ref D)):=Iff.rfl
theorem ZY {a D:Addr} {xs:List V} {tt:TT} {te:TE} {vs:List Nat} {Qd:Hp->Prop} (Pv:Nat->Hp->Prop) (h0:Pv 0 (upd H D (.lst []))) (hl:∀ i H,i<=xs.length->Pv i H->H a=some (.lst xs))
  (hs:∀ (i:Nat) x H,xs[i]?=some x->Pv i H->g x (wipe σ vs) H λσ2 H2=>wipe σ2 vs=wipe σ vs/\tt σ2 H2 λb H3=>if b=true then te σ2 H3 λy H4=>∃ acc,H4 D=some (.lst acc)/\acc.length < sizeLine/\Pv (i+1) (upd H4 D (.lst (acc++[y]))) else Pv (i+1) H3)
  (hd:∀ H,Pv xs.length H->Qd H):anC (Itl K a) g tt te vs σ H D Qd:=by
 refine ⟨λi m H=>m=xs.length - i/\i<=xs.length/\Pv i H,⟨xs.length,by simp,Nat.zero_le _,h0⟩,?_⟩
 rintro i m H ⟨rfl,hi,p⟩
 have q:=hl i H hi p
 by_cases hlt:i < xs.length
 ·refine .inr ⟨⟨xs,xs[i],SqL.of q,by simp [hlt]⟩,Pv (i+1),λH' p'=>⟨xs.length - (i+1),by omega,rfl,hlt,p'⟩,λx H' y=>?_⟩
  obtain ⟨e,y⟩:=y
  subst e
  exact hs i x _ (y xs (SqL.of q)) p
 ·have e:i=xs.length:=by omega
  subst e
  exact .inl ⟨⟨xs,SqL.of q,Nat.le_refl _⟩,hd H p⟩
end
theorem tv0 {v:V} {σ:St} {H:Hp} {Q:VK}:aa 0 (some v::σ) H Q=Q v H:=propext ⟨λ⟨_,e,q⟩=>by cases e;exact q,λq=>⟨_,rfl,q⟩⟩
theorem tv1 {v:V} {a0:Option V} {σ:St} {H:Hp} {Q:VK}:aa 1 (a0::some v::σ) H Q=Q v H:=propext ⟨λ⟨_,e,q⟩=>by cases e;exact q,λq=>⟨_,rfl,q⟩⟩
theorem tv2 {v:V} {a0:Option V} {a1:Option V} {σ:St} {H:Hp} {Q:VK}:aa 2 (a0::a1::some v::σ) H Q=Q v H:=propext ⟨λ⟨_,e,q⟩=>by cases e;exact q,λq=>⟨_,rfl,q⟩⟩
theorem tv3 {v:V} {a0:Option V} {a1:Option V} {a2:Option V} {σ:St} {H:Hp} {Q:VK}:aa 3 (a0::a1::a2::some v::σ) H Q=Q v H:=propext ⟨λ⟨_,e,q⟩=>by cases e;exact q,λq=>⟨_,rfl,q⟩⟩
theorem tv4 {v:V} {a0:Option V} {a1:Option V} {a2:Option V} {a3:Option V} {σ:St} {H:Hp} {Q:VK}:aa 4 (a0::a1::a2::a3::some v::σ) H Q=Q v H:=propext ⟨λ⟨_,e,q⟩=>by cases e;exact q,λq=>⟨_,rfl,q⟩⟩
theorem tv5 {v:V} {a0:Option V} {a1:Option V} {a2:Option V} {a3:Option V} {a4:Option V} {σ:St} {H:Hp} {Q:VK}:aa 5 (a0::a1::a2::a3::a4::some v::σ) H Q=Q v H:=propext ⟨λ⟨_,e,q⟩=>by cases e;exact q,λq=>⟨_,rfl,q⟩⟩
theorem tv6 {v:V} {a0:Option V} {a1:Option V} {a2:Option V} {a3:Option V} {a4:Option V} {a5:Option V} {σ:St} {H:Hp} {Q:VK}:aa 6 (a0::a1::a2::a3::a4::a5::some v::σ) H Q=Q v H:=propext ⟨λ⟨_,e,q⟩=>by cases e;exact q,λq=>⟨_,rfl,q⟩⟩
theorem apF {p:Addr} {P:Addr->Prop}:(∃ a,V.ref p=.ref a/\P a)=P p:=propext ⟨λ⟨_,e,q⟩=>by cases e;exact q,λq=>⟨_,rfl,q⟩⟩
theorem stc {x:Str} {ns:List Str} {v:V} {vs:List V}:L2.start (x::ns) (v::vs)=some v::L2.start ns vs:=by simp [L2.start]
theorem stn {x:Str} {ns:List Str}:L2.start (x::ns) []=none::L2.start ns []:=by simp [L2.start,List.replicate]
theorem st0:L2.start [] []=[]:=rfl
theorem blp {c:Bool} {P:Bool->Prop}:(∃ k,V.bl c=.bl k/\P k)=P c:=propext ⟨λ⟨_,e,q⟩=>by cases e;exact q,λq=>⟨_,rfl,q⟩⟩
section
variable {K:W.Frag} {f m:Str} {H:Hp} {p C dx:Addr} {fs:List (Str×V)}
open Classical in
noncomputable def RD (K:W.Frag) (f:Str):Option HO->Option V
 | some (.ins C _ fs)=>if Cls K C/\bN K C f then fs.lookup f else none
 | _=>none
theorem apx (c:Cls K C) (n:bN K C f):RD K f (some (.ins C dx fs))=fs.lookup f:=if_pos ⟨c,n⟩
theorem apB:∀ {o:Option HO} {v:V},RD K f o=some v->∃ C dx fs,o=some (.ins C dx fs)/\Cls K C/\bN K C f/\fs.lookup f=some v:=by
 intro o v h
 unfold RD at h
 split at h
 ·split at h
  ·rename_i C dx fs g
   exact ⟨C,dx,fs,rfl,g.1,g.2,h⟩
  ·cases h
 ·cases h
theorem apw {v:V} {P:V->Prop} (h:RD K f (H p)=some v):(∃ a C dx fs v,V.ref p=.ref a/\H a=some (.ins C dx fs)/\Cls K C/\bN K C f/\fs.lookup f=some v/\P v)=P v:=by
 obtain ⟨C,dx,fs,e,c,n,l⟩:=apB h
 refine propext ⟨λ⟨_,_,_,_,_,e1,e2,_,_,e3,q⟩=>?_,λq=>⟨p,C,dx,fs,v,rfl,e,c,n,l,q⟩⟩
 cases e1
 rw [e] at e2
 cases e2
 rw [l] at e3
 cases e3
 exact q
def RM (m:Str):Option HO->Option Addr
 | some (.ins C _ fs)=>if fs.lookup m=none then some C else none
 | _=>none
theorem apz (h:fs.lookup m=none):RM m (some (.ins C dx fs))=some C:=if_pos h
theorem methP {P:Prop} (h:RM m (H p)=some C):(∃ a dx fs,V.ref p=.ref a/\H a=some (.ins C dx fs)/\fs.lookup m=none/\P)=P:=by
 refine propext ⟨λ⟨_,_,_,_,_,_,q⟩=>q,λq=>?_⟩
 unfold RM at h
 split at h
 ·split at h
  ·cases h
   exact ⟨p,_,_,rfl,by assumption,by assumption,q⟩
  ·cases h
 ·cases h
end
theorem anI {a b:TS} {D:Ends} {σ:St} {H:Hp} (h:a { D with nx:=b D } σ H):aK a b D σ H:=h
end SC
set_option hygiene false in
local macro_rules
 | `(tactic| push_cast [$as,*] $[$l:location]?)=>do
  let p ← ("tv0 tv1 tv2 tv3 tv4 tv5 tv6 blp apw methP apF cP pK tB cW bD Hf aB aJ bG akg tC bL bw tOp amX al0 tCB fT tBM amd aop kC aN fm Im c5 aX QU amO anT am2 aoI tUn oS VU tOr akJ amM apd tIf aok ajI tSl Sf NN VE ahV exists_eq_left' exists_eq_left reduceIte ah8 am1 aoK jn afw aoo apj apa ahM amh aoZ".splitOn " ").toArray.mapM λs=>`(Lean.Parser.Tactic.simpLemma| ↓$(Lean.mkIdent ((s.splitOn ".").foldl .str .anonymous)):ident)
  let q ← ("apx apz aa List.map_cons List.map_nil List.length_cons List.length_nil List.replicate List.cons_append List.nil_append List.append_nil Nat.reduceAdd Nat.reduceSub Nat.sub_self Nat.zero_add Nat.reduceLeDiff Nat.add_sub_cancel_left Nat.add_sub_cancel List.getElem?_cons_zero List.getElem?_cons_succ Option.some.injEq exists_eq_left' exists_eq_left V.int.injEq V.ref.injEq V.bl.injEq true_and and_true apA apH List.cons.injEq exists_and_left exists_const HO.ins.injEq HO.lst.injEq and_assoc decide_eq_true_eq Bool.not_eq_true' decide_eq_false_iff_not Bool.false_eq_true if_false if_true Ru We K3 Ei DW Wi abD VM agv aaw aeY afY Q3 V0 aan Ye Wm U1 tyI".splitOn " ").toArray.mapM λs=>`(Lean.Parser.Tactic.simpLemma| $(Lean.mkIdent ((s.splitOn ".").foldl .str .anonymous)):ident)
  `(tactic| ((try simp only [stc,stn,st0] $[$l]?);(try simp only [$p,*,$q,*,$as,*] $[$l]?)))
 | `(tactic| push_cast $[$l:location]?)=>`(tactic| push_cast [] $[$l]?)
 | `(tactic| dsimp! [$as,*] $[$l:location]?)=>`(tactic| push_cast [↓aK,$as,*] $[$l]?)
 | `(tactic| dsimp! $[$l:location]?)=>`(tactic| dsimp! [] $[$l]?)
 | `(tactic| simp_arith [$as,*] $[$l:location]?)=>do
  let q ← ("T.i9 T.tw T.zI T.nD T.kK T.j6 Q6 VG J0 GN DY ID ak5 T.akn T.IT T.LI T.IZ T.S8 T.M3 T.PR T.O6 Wx aaX VT agp abA afn aeG aoe T.bX T.DQ T.Jm T.M5 Rl VL ZS Vy Sl Rm Zu Sk aaI afu Ka Oj Tv KU Ll KO MF L7 IL alG T.Cd T.Fo T.Ny T.Fi T.IV T.tR T.F1 T.MN T.JM T.yD T.tQ T.Eb TY Yr S5 VO IS So Yd VN Lz IE Tr Ug YB UH Wn IF SS aaC VJ Mw IQ Ux Rp UR Rx L3 ama T.ah1 T.LX T.JJ T.Fg ZG Wk Si anA T.eT T.QM T.Ed T.LC T.IY T.Pk T.JF T.Mi T.LR ad3 SV ZI V6 adX V3 Zn aa1 aeA Vo Y6 Wa aeN Ww ZR Zf aa9 aea Zg WE af9 Wz aai Yc Ry afp VZ afh Q2 abK Vh afB ag9 aiD aox".splitOn " ").toArray.mapM λs=>`(Lean.Parser.Tactic.simpLemma| $(Lean.mkIdent ((s.splitOn ".").foldl .str .anonymous)):ident)
  `(tactic| push_cast [$q,*,$as,*] $[$l]?)
 | `(tactic| simp_arith $[$l:location]?)=>`(tactic| simp_arith [] $[$l]?)
 | `(tactic| simp! [$as,*] $[$l:location]?)=>`(tactic| simp_arith [↓aK,$as,*] $[$l]?)
 | `(tactic| simp! $[$l:location]?)=>`(tactic| simp! [] $[$l]?)
 | `(tactic| simp? [$as,*])=>`(tactic| (simp_arith [$as,*];repeat (with_reducible refine anI ?_;simp_arith [$as,*])))
 | `(tactic| simp?)=>`(tactic| simp? [])
 | `(tactic| dsimp? [$as,*])=>`(tactic| (push_cast [$as,*];repeat (with_reducible refine anI ?_;push_cast [$as,*])))
 | `(tactic| dsimp?)=>`(tactic| dsimp? [])
namespace SC
open PySem L2
variable {K:W.Frag} {mg:Str->Option Value} {t:Adr}
def But (p:Addr) (H H':Hp):Prop:=∀ b o,b≠p->H b=some o->H' b=some o
abbrev fin (Q:VK):Ends:={ nx:=λ_ H'=>Q .non H',rt:=Q }
def ia:Sp:=λvs H Q _=>∃ i,vs=[.int i]/\Q (.bl (decide (0<=i/\i<=15))) H
theorem aaA {S:Sps} {vs H Q E} (h:ia vs H Q E):GY K t S (fin Q) (L2.start ["which"] vs) H:=by
 obtain ⟨i,rfl,q⟩:=h
 unfold GY
 dsimp?
 by_cases h:0<=i
 ·simpa [h] using q
 ·simpa [h] using q
def Iq:Sp:=λvs H Q _=>∃ k w,vs=[.int k,.int w]/\Q (.bl (Rc42.isAct k w)) H
theorem ajF {S:Sps} (hS:S.gz=ia) {vs H Q E} (h:Iq vs H Q E):UL K t S (fin Q) (L2.start ["kind","which"] vs) H:=by
 obtain ⟨k,w,rfl,q⟩:=h
 unfold UL
 dsimp? [hS,ia]
 unfold Rc42.isAct at q
 by_cases h0:k=0
 ·subst h0
  by_cases h:1<=w
  ·simp [h] at q ⊢
   have e:decide (w < 256)=decide (w<=255):=by congr 1;exact propext ⟨λ_=>by omega,λ_=>by omega⟩
   rwa [<-e]
  ·simp [h] at q ⊢
   exact q
 ·by_cases h1:1<=k
  ·by_cases h2:k<=2
   ·have h3:k=1\/k=2:=by omega
    have e:decide (0<=w/\w < 16)=decide (0<=w/\w<=15):=by congr 1;exact propext ⟨λ_=>by omega,λ_=>by omega⟩
    rw [e] at q
    rcases h3 with rfl | rfl<;>simpa using q
   ·have h3:¬k=1:=by omega
    have h4:¬k=2:=by omega
    have e:(k==0&&decide (1<=w/\w < 256)||(k==1||k==2)&&decide (0<=w/\w < 16))=false:=by simp [h0,h3,h4]
    rw [e] at q
    simpa [h0,h1,h2] using q
  ·have h3:¬k=1:=by omega
   have h4:¬k=2:=by omega
   have e:(k==0&&decide (1<=w/\w < 256)||(k==1||k==2)&&decide (0<=w/\w < 16))=false:=by simp [h0,h3,h4]
   rw [e] at q
   simpa [h0,h1] using q
def u9:Sp:=λvs H Q _=>∃ l as k w m,vs=[.ref l,.int k,.int w,.int m]/\gG H l as/\as.length<=16/\(Rc42.isAct k w=false->Q (.int (-1)) H)/\(Rc42.isAct k w=true->16<=as.length->Q (.int (-2)) H) /\
 (Rc42.isAct k w=true->as.length < 16->∀ H',But l H H'->gG H' l (as++[⟨k.toNat,w.toNat,m⟩])->Q (.int 0) H')
theorem alk {k w:Int} (h:Rc42.isAct k w=true):0<=k/\0<=w:=by
 unfold Rc42.isAct at h
 simp at h
 rcases h with ⟨rfl,h,_⟩ | ⟨h | h,h',_⟩<;>omega
theorem agR {S:Sps} (hS:S.KR=Iq) {vs H Q E} (h:u9 vs H Q E):Ou K t S (fin Q) (L2.start ["acts","kind","which","much"] vs) H:=by
 obtain ⟨l,as,k,w,m,rfl,hA,hl,q1,q2,q3⟩:=h
 obtain ⟨ts,e1,e2,e3⟩:=hA
 unfold Ou
 dsimp! [hS,Iq]
 by_cases ha:Rc42.isAct k w=true
 ·obtain ⟨hk,hw⟩:=alk ha
  simp only [ha,Bool.true_eq_false,if_false]
  refine len e1 ?_
  dsimp? [List.length_map]
  by_cases hz:as.length=16
  ·rw [if_pos (by omega)]
   exact q2 ha (by omega)
  ·rw [if_neg (by omega)]
   refine ⟨tyL e1,by decide,λp hp=>?_⟩
   have hne:l≠p:=ao e1 hp
   refine app (xs:=ts.map V.ref) (by rw [aq hne];exact e1) (by rw [List.length_map,sizeLine_eq];omega) ?_
   refine q3 ha (by omega) _ (λb o hb e=>by rw [aq hb,aq (ao e hp)];exact e) ⟨ts++[p],by rw [ay];simp,by simp [e2],λj a x h1 h2=>?_⟩
   rw [List.getElem?_append] at h1 h2
   by_cases hj:j < as.length
   ·rw [if_pos hj] at h1
    rw [if_pos (by omega)] at h2
    have q:=e3 j a x h1 h2
    rw [aq (fL q e1 (by simp)),aq (ao q hp)]
    exact q
   ·rw [if_neg hj] at h1
    rw [if_neg (by omega)] at h2
    have z1:=(List.getElem?_eq_some_iff.mp h1)
    have hj1:j - as.length=0:=by have:=z1.1;simp at this;omega
    have hj2:j - ts.length=0:=by omega
    rw [hj1] at h1;rw [hj2] at h2
    simp at h1 h2
    subst h1 h2
    rw [aq (Ne.symm hne),ay]
    show some (HO.tup [V.int k,V.int w,V.int m])=some (HO.tup [V.int (k.toNat:Nat),V.int (w.toNat:Nat),V.int m])
    rw [Int.toNat_of_nonneg hk,Int.toNat_of_nonneg hw]
 ·simp only [Bool.not_eq_true] at ha
  simp only [ha,if_true]
  exact q1 ha
def rA (t:Adr):Sp:=λvs H Q _=>∃ x p k dx,vs=[.ref x,.int p,.int k]/\H x=some (.ins t.bA dx []) /\
 ∀ H' ca la,H' x=some (.ins t.bA dx (dB (.int p) (.int k) (.int (-1)) (.ref ca) (.ref la)))->H' ca=some (.lst [])->H' la=some (.lst [])->ca≠la->H ca=none->H la=none->But x H H'->Q .non H'
theorem Wo {S:Sps} (T:Txt K mg t) {vs H Q E} (h:rA t vs H Q E):Dd K t S (fin Q) (L2.start ["self","parent","kind"] vs) H:=by
 obtain ⟨x,p,k,dx,rfl,hx,q⟩:=h
 unfold Dd
 dsimp! [hx,ay,T.i9,T.tw,T.zI,T.nD]
 refine ⟨by decide,by show 1 < 1000;decide,by show 2 < 1000;decide,Nat.zero_le _,λp1 hp1=>?_⟩
 have n1:x≠p1:=by intro e;subst e;rw [ay] at hp1;cases hp1
 dsimp? [aq n1,ay,T.i9,T.kK]
 refine ⟨by show 3 < 1000;decide,Nat.zero_le _,λp2 hp2=>?_⟩
 have n2:x≠p2:=by intro e;subst e;rw [ay] at hp2;cases hp2
 have n3:p1≠p2:=by intro e;subst e;rw [aq (Ne.symm n1),ay] at hp2;cases hp2
 dsimp? [aq n2,ay,T.i9,T.j6]
 refine ⟨by show 4 < 1000;decide,q _ p1 p2 (by rw [ay];rfl) ?_ ?_ n3 ?_ ?_ λb o hb e=>?_⟩
 ·rw [aq (Ne.symm n1),aq n3,aq (Ne.symm n1),ay]
 ·rw [aq (Ne.symm n2),ay]
 ·rw [aq (Ne.symm n1),aq (Ne.symm n1),aq (Ne.symm n1)] at hp1;exact hp1
 ·rw [aq (Ne.symm n2),aq (Ne.symm n3),aq (Ne.symm n2),aq (Ne.symm n2),aq (Ne.symm n2)] at hp2;exact hp2
 ·have m1:b≠p1:=by intro z;subst z;rw [aq hb,aq hb,aq hb] at hp1;rw [hp1] at e;cases e
  have m2:b≠p2:=by intro z;subst z;rw [aq hb,aq m1,aq hb,aq hb,aq hb] at hp2;rw [hp2] at e;cases e
  rw [aq hb,aq m2,aq hb,aq m1,aq hb,aq hb,aq hb];exact e
end SC
namespace SC
open Rc42
def Di (a:Act):Prop:=a.kind<=2/\(a.kind=0->1<=a.which/\a.which<=255)/\(a.kind≠0->a.which<=15)/\-2147483648<=a.much/\a.much<=2147483647
structure nS (c:Chart) (w:Way):Prop where
 s0:0 < w.source
 s1:w.source < c.states.length
 s2:(c.at_ w.source).kind≠2
 ev:w.event<=319
 ak:w.ask<=3
 wh:w.which<=15
 tg:∀ t,w.target=some t->0 < t/\t < c.states.length
 hs:3<=(c.at_ w.source).kind->∃ t,w.target=some t/\within c t (c.at_ w.source).parent=true/\(c.at_ t).kind < 3
 al:w.acts.length<=16
 ac:∀ a∈w.acts,Di a
structure Wf (c:Chart):Prop where
 n1:1<=c.states.length
 n2:c.states.length<=64
 k0:(c.at_ 0).kind=0
 p0:(c.at_ 0).parent=0
 par:∀ i,0 < i->i < c.states.length->(c.at_ i).parent < i/\(c.at_ (c.at_ i).parent).kind<=1
 kd:∀ i,i < c.states.length->(c.at_ i).kind<=4
 h0:∀ i,i < c.states.length->3<=(c.at_ i).kind->(c.at_ i).parent≠0
 en:∀ i,0 < i->i < c.states.length->(c.at_ i).kind=2->(c.at_ (c.at_ i).parent).kind=0
 bg:∀ i,i < c.states.length->∀ x,(c.at_ i).begins=some x->x∈parts c i
 ac:∀ i,i < c.states.length->(c.at_ i).come.length<=16/\(c.at_ i).leave.length<=16/\(∀ a∈(c.at_ i).come,Di a)/\∀ a∈(c.at_ i).leave,Di a
 w1:c.ways.length<=256
 wy:∀ w∈c.ways,nS c w
variable {c:Chart}
theorem aI {s x:Nat}:x∈parts c s↔x < c.states.length/\x≠0/\(c.at_ x).parent=s/\(c.at_ x).kind<=2:=by
 unfold parts Chart.all
 simp [List.mem_filter,List.mem_range]
theorem U5 (h:Wf c):∀ (f s:Nat),s<=f->s < c.states.length->above c (f+1) s=above c f s
 | 0,s,hs,hn=>by
  have:s=0:=by omega
  subst this
  simp [above]
 | f+1,s,hs,hn=>by
  by_cases e:s=0
  ·subst e;simp [above]
  ·have p:=(h.par s (by omega) hn).1
   have q:=U5 h f (c.at_ s).parent (by omega) (by omega)
   show (if s=0 then [] else (c.at_ s).parent::above c (f+1) (c.at_ s).parent)=if s=0 then [] else (c.at_ s).parent::above c f (c.at_ s).parent
   rw [if_neg e,if_neg e,q]
theorem nR (h:Wf c) {s:Nat} (hs:s < c.states.length):around c s=if s=0 then [] else (c.at_ s).parent::around c (c.at_ s).parent:=by
 unfold around
 by_cases e:s=0
 ·subst e;simp [above]
 ·have p:=(h.par s (by omega) hs).1
  have n2:=h.n2
  have q:=U5 h 63 (c.at_ s).parent (by omega) (by omega)
  show (if s=0 then [] else (c.at_ s).parent::above c 63 (c.at_ s).parent)=if s=0 then [] else (c.at_ s).parent::above c 64 (c.at_ s).parent
  rw [if_neg e,if_neg e,q]
theorem aH (h:Wf c) {s b:Nat} (hs:s < c.states.length):within c s b=true↔s≠0/\((c.at_ s).parent=b\/within c (c.at_ s).parent b=true):=by
 unfold within
 rw [nR h hs]
 by_cases e:s=0
 ·simp [e]
 ·rw [if_neg e,List.contains_iff_mem,List.mem_cons,List.contains_iff_mem]
  exact ⟨λz=>⟨e,z.imp Eq.symm id⟩,λz=>z.2.imp Eq.symm id⟩
theorem eG (h:Wf c):∀ {s b:Nat},s < c.states.length->within c s b=true->b < s:=by
 intro s
 induction s using Nat.strongRecOn with
 | ind s ih=>
  intro b hs w
  obtain ⟨e,q⟩:=(aH h hs).mp w
  have p:=(h.par s (by omega) hs).1
  rcases q with rfl | q
  ·exact p
  ·exact Nat.lt_trans (ih _ p (by omega) q) p
theorem bB (h:Wf c):∀ {s b d:Nat},s < c.states.length->within c s b=true->within c b d=true->within c s d=true:=by
 intro s
 induction s using Nat.strongRecOn with
 | ind s ih=>
  intro b d hs w w2
  obtain ⟨e,q⟩:=(aH h hs).mp w
  have p:=(h.par s (by omega) hs).1
  refine (aH h hs).mpr ⟨e,.inr ?_⟩
  rcases q with rfl | q
  ·exact w2
  ·exact ih _ p (by omega) q w2
theorem HW (h:Wf c):∀ {s:Nat},s < c.states.length->s≠0->within c s 0=true:=by
 intro s
 induction s using Nat.strongRecOn with
 | ind s ih=>
  intro hs e
  have p:=(h.par s (by omega) hs).1
  refine (aH h hs).mpr ⟨e,?_⟩
  by_cases z:(c.at_ s).parent=0
  ·exact .inl z
  ·exact .inr (ih _ p (by omega) z)
theorem mZ (h:Wf c):∀ {s a b:Nat},s < c.states.length->within c s a=true->within c s b=true->a=b\/within c a b=true\/within c b a=true:=by
 intro s
 induction s using Nat.strongRecOn with
 | ind s ih=>
  intro a b hs wa wb
  obtain ⟨e,qa⟩:=(aH h hs).mp wa
  obtain ⟨_,qb⟩:=(aH h hs).mp wb
  have p:=(h.par s (by omega) hs).1
  rcases qa with rfl | qa
  ·rcases qb with rfl | qb
   ·exact .inl rfl
   ·exact .inr (.inl qb)
  ·rcases qb with rfl | qb
   ·exact .inr (.inr qa)
   ·exact ih _ p (by omega) qa qb
theorem Gk (h:Wf c):∀ {s a:Nat},s < c.states.length->within c s a=true->(c.at_ a).kind<=1:=by
 intro s
 induction s using Nat.strongRecOn with
 | ind s ih=>
  intro a hs w
  obtain ⟨e,q⟩:=(aH h hs).mp w
  have p:=h.par s (by omega) hs
  rcases q with rfl | q
  ·exact p.2
  ·exact ih _ p.1 (by omega) q
theorem Wr (h:Wf c) {s:Nat} (hs:s < c.states.length):within c s s=false:=by
 cases e:within c s s with
 | false=>rfl
 | true=>exact absurd (eG h hs e) (Nat.lt_irrefl _)
theorem bO (h:Wf c) {s b:Nat} (hs:s < c.states.length) (e:beginning c s=some b):b∈parts c s:=by
 unfold beginning at e
 cases q:(c.at_ s).begins with
 | some x=>rw [q] at e;cases e;exact h.bg s hs _ q
 | none=>rw [q] at e;exact List.mem_of_mem_head? e
theorem kU (h:Wf c) {s:Nat} (hs:s < c.states.length):beginning c s=none↔parts c s=[]:=by
 unfold beginning
 cases q:(c.at_ s).begins with
 | some x=>
  have:=h.bg s hs _ q
  simp
  intro e;rw [e] at this;cases this
 | none=>simp
end SC
namespace SC
open PySem L2
variable {K:W.Frag} {mg:Str->Option Value} {t:Adr}
def GO (t:Adr):Sp:=λvs H Q _=>∃ x s e g dx,vs=[.ref x,.int s,.int e,.int g]/\H x=some (.ins t.eV dx []) /\
 ∀ H' wa,H' x=some (.ins t.eV dx (fR (.int s) (.int e) (.int g) (.int 0) (.int 0) (.int 0) (.ref wa)))->H' wa=some (.lst [])->H wa=none->But x H H'->Q .non H'
theorem aeU {S:Sps} (T:Txt K mg t) {vs H Q E} (h:GO t vs H Q E):J7 K t S (fin Q) (L2.start ["self","source","event","target"] vs) H:=by
 obtain ⟨x,s,e,g,dx,rfl,hx,q⟩:=h
 unfold J7
 simp! [hx,ay]
 refine ⟨by decide,by show 1 < 1000;decide,by show 2 < 1000;decide,by show 3 < 1000;decide,by show 4 < 1000;decide,by show 5 < 1000;decide,Nat.zero_le _,λp1 hp1=>?_⟩
 have n1:x≠p1:=by intro e;subst e;rw [ay] at hp1;cases hp1
 simp? [aq n1,ay]
 have f1:H p1=none:=by
  repeat rw [aq (Ne.symm n1)] at hp1
  exact hp1
 refine ⟨by show 6 < 1000;decide,q _ p1 (by rw [ay];rfl) ?_ f1 λb o hb e=>?_⟩
 ·rw [aq (Ne.symm n1),ay]
 ·have m1:b≠p1:=ao e f1
  rw [aq hb,aq m1]
  repeat rw [aq hb]
  exact e
def cV (t:Adr):Sp:=λvs H Q _=>∃ a dx x0 x2 x3 x4,∃ k:Nat,vs=[.ref a]/\H a=some (.ins t.bA dx (dB x0 (.int k) x2 x3 x4))/\k<=4/\Q (.bl (decide (3<=k))) H
theorem V4 {S:Sps} (T:Txt K mg t) {vs H Q E} (h:cV t vs H Q E):ni K t S (fin Q) (L2.start ["self"] vs) H:=by
 obtain ⟨a,dx,x0,x2,x3,x4,k,rfl,ha,hk,q⟩:=h
 unfold ni
 simp? [ha]
 have e:decide (3<=k)=if k=3 then true else decide ((k:Int)=4):=by
  split
  ·simp;omega
  ·congr 1;exact propext ⟨λ_=>by omega,λ_=>by omega⟩
 rw [e] at q
 split
 ·rw [if_pos (by omega)] at q;exact q
 ·rw [if_neg (by omega)] at q;exact q
theorem HC {H:Hp} {Q:VK} {E:XK} {a dx:Addr} {x0 x2 x3 x4:V} {k:Nat} (h:H a=some (.ins t.bA dx (dB x0 (.int k) x2 x3 x4))) (hk:k<=4) (q:Q (.bl (decide (3<=k))) H):cV t [.ref a] H Q E:=⟨a,dx,x0,x2,x3,x4,k,rfl,h,hk,q⟩
structure Ch (t:Adr) (lb:Addr->Lb) (H:Hp) (ca dx sl wl:Addr) (rv:V) (ss ws:List Addr) (c:Rc42.Chart):Prop where
 at_:H ca=some (.ins t.aE dx (bM (.ref sl) (.ref wl) rv))
 wf:Wf c
 ch:ChL t lb H sl wl ss ws c
theorem Ch.same {lb:Addr->Lb} {H H':Hp} {ca dx sl wl:Addr} {rv:V} {ss ws:List Addr} {c:Rc42.Chart} (h:Ch t lb H ca dx sl wl rv ss ws c) (e:aP H H'):Ch t lb H' ca dx sl wl rv ss ws c:=⟨e _ _ h.at_,h.wf,h.ch.same e⟩
def ChI (t:Adr) (H:Hp) (ca:Addr) (c:Rc42.Chart):Prop:=∃ lb dx sl wl rv ss ws,Ch t lb H ca dx sl wl rv ss ws c
theorem ChI.same {H H':Hp} {ca:Addr} {c:Rc42.Chart} (h:ChI t H ca c) (e:aP H H'):ChI t H' ca c:=by
 obtain ⟨lb,dx,sl,wl,rv,ss,ws,h⟩:=h
 exact ⟨lb,dx,sl,wl,rv,ss,ws,h.same e⟩
def jw (t:Adr):Sp:=λvs H Q _=>∃ ca i c,vs=[.ref ca,.int i]/\ChI t H ca c/\Q (.bl (Rc42.isState c i)) H
theorem ZH {S:Sps} (T:Txt K mg t) {vs H Q E} (h:jw t vs H Q E):pT K t S (fin Q) (L2.start ["self","state"] vs) H:=by
 obtain ⟨ca,i,c,rfl,⟨lb,dx,sl,wl,rv,ss,ws,h⟩,q⟩:=h
 unfold pT
 simp? [h.at_]
 unfold Rc42.isState at q
 split
 ·rename_i h0
  refine len h.ch.s1 ?_
  simp? [List.length_map,h.ch.s2]
  simpa [h0] using q
 ·rename_i h0
  have e:decide (0<=i/\i < (c.states.length:Int))=false:=by simp;omega
  rwa [e] at q
def wV (t:Adr):Sp:=λvs H Q _=>∃ ca i c,vs=[.ref ca,.int i]/\ChI t H ca c/\Q (.bl (decide (0<=i/\i < (c.ways.length:Int)))) H
theorem ahw {S:Sps} (T:Txt K mg t) {vs H Q E} (h:wV t vs H Q E):tD K t S (fin Q) (L2.start ["self","way"] vs) H:=by
 obtain ⟨ca,i,c,rfl,⟨lb,dx,sl,wl,rv,ss,ws,h⟩,q⟩:=h
 unfold tD
 simp? [h.at_]
 split
 ·rename_i h0
  refine len h.ch.w1 ?_
  simp? [List.length_map,h.ch.w2]
  simpa [h0] using q
 ·rename_i h0
  have e:decide (0<=i/\i < (c.ways.length:Int))=false:=by simp;omega
  rwa [e] at q
def nts (l:List Nat):List V:=l.map λ(x:Nat)=>V.int x
def vO (t:Adr):Sp:=λvs H Q _=>∃ ca,∃ s:Nat,∃ c,vs=[.ref ca,.int s]/\ChI t H ca c/\∀ H' l,aP H H'->H l=none->H' l=some (.lst (nts (Rc42.parts c s)))->Q (.ref l) H'
def ptK (c:Rc42.Chart) (s n:Nat):List Nat:=(List.range n).filter λx=>x != 0&&((c.at_ x).parent==s&&decide ((c.at_ x).kind<=2))
theorem K6 (c:Rc42.Chart) (s n:Nat):ptK c s (n+1)=ptK c s n ++
  if n != 0&&((c.at_ n).parent==s&&decide ((c.at_ n).kind<=2)) then [n] else []:=by
 unfold ptK
 rw [List.range_succ,List.filter_append]
 congr 1
 by_cases h:(n != 0&&((c.at_ n).parent==s&&decide ((c.at_ n).kind<=2)))=true
 ·rw [if_pos h,List.filter_cons,if_pos h];rfl
 ·rw [if_neg h,List.filter_cons,if_neg h];rfl
theorem aoC (c:Rc42.Chart) (s n:Nat):(ptK c s n).length<=n:=by
 have:(ptK c s n).length<=_:=List.length_filter_le (λx=>x != 0&&((c.at_ x).parent==s&&decide ((c.at_ x).kind<=2))) (List.range n)
 rwa [List.length_range] at this
theorem aj7 {S:Sps} (T:Txt K mg t) (hS:S.aL=cV t) {vs H Q E} (h:vO t vs H Q E):zH K t S (fin Q) (L2.start ["self","state","found","number","one"] vs) H:=by
 obtain ⟨ca,s,c,rfl,⟨lb,dx,sl,wl,rv,ss,ws,h⟩,q⟩:=h
 unfold zH
 simp? [h.at_]
 refine ⟨Nat.zero_le _,λl hl=>?_⟩
 have s1:=aT (o:=.lst []) hl
 have h1:=h.same s1
 simp? [h1.at_]
 refine ⟨ss.map V.ref,SqL.of h1.ch.s1,?_⟩
 obtain ⟨Pv,hP⟩:∃ Pv:Nat->St->Hp->Prop,∀ i σ H1,Pv i σ H1↔aP H H1/\H1 l=some (.lst (nts (ptK c s i)))/\∃ v3 v4,σ=[some (.ref ca),some (.int s),some (.ref l),v3,v4]:=⟨_,λ_ _ _=>Iff.rfl⟩
 refine VF (xs:=ss.map V.ref) Pv ((hP _ _ _).mpr ⟨s1,by rw [ay];rfl,_,_,rfl⟩) (λi σ H1 _ p=>((hP _ _ _).mp p).1 _ _ h.ch.s1) ?_ ?_
 ·intro i x σ H1 T1 hx hp hT
  obtain ⟨p1,p2,v3,v4,rfl⟩:=(hP _ _ _).mp hp
  have hi:i < c.states.length:=by rw [<-h.ch.s2];have:=(List.getElem?_eq_some_iff.mp hx).1;simpa using this
  obtain ⟨a,_,e2,ad,aca,ala,st1,_⟩:=h.ch.st hi
  rw [e2] at hx;cases hx
  have s2:=p1.trans (aT (o:=.tup [.int (i:Nat),.ref a]) hT)
  have kd:=h.wf.kd i hi
  refine gT (xs:=[.int (i:Nat),.ref a]) ay rfl ?_
  have l2:upd H1 T1 (.tup [.int (i:Nat),.ref a]) l=some (.lst (nts (ptK c s i))):=by rw [aq (ao p2 hT)];exact p2
  simp? [s2 _ _ st1]
  have nx:∀ {H2:Hp},aP H H2->H2 l=some (.lst (nts (ptK c s (i+1))))->Pv (i+1) [some (V.ref ca),some (.int s),some (.ref l),some (.int i),some (.ref a)] H2:=λa b=>(hP _ _ _).mpr ⟨a,b,_,_,rfl⟩
  have hp:kN i (c.at_ i)=(s:Int)↔i≠0/\(c.at_ i).parent=s:=by
   unfold kN
   by_cases z:i=0
   ·simp [z]
   ·simp [z];omega
  by_cases h1:i≠0/\(c.at_ i).parent=s
  ·rw [if_pos (hp.mpr h1)]
   rw [hS]
   refine HC (s2 _ _ st1) kd ?_
   simp?
   by_cases h3:3<=(c.at_ i).kind
   ·rw [if_neg (by simp [h3])]
    exact nx s2 (by rw [K6,if_neg (by simp;omega),List.append_nil];exact l2)
   ·rw [if_pos h3]
    refine ⟨tyL l2,app l2 (by unfold nts;rw [List.length_map,sizeLine_eq];have:=aoC c s i;have:=h.wf.n2;omega) (nx (λb o e=>?_) ?_)⟩
    ·rw [aq (ao e hl)];exact s2 b o e
    ·rw [ay,K6,if_pos (by simp [h1];omega)]
     unfold nts
     simp
  ·rw [if_neg (λz=>h1 (hp.mp z))]
   exact nx s2 (by rw [K6,if_neg (by simp;omega),List.append_nil];exact l2)
 ·intro σ H1 hp
  obtain ⟨p1,p2,v3,v4,rfl⟩:=(hP _ _ _).mp hp
  simp?
  refine q H1 l p1 hl ?_
  rw [p2,List.length_map,h.ch.s2]
  rfl
theorem L4 {H:Hp} {Q:VK} {E:XK} {ca:Addr} {s:Nat} {c:Rc42.Chart} (h:ChI t H ca c) (q:∀ H' l,aP H H'->H l=none->H' l=some (.lst (nts (Rc42.parts c s)))->Q (.ref l) H'):vO t [.ref ca,.int s] H Q E:=⟨ca,s,c,rfl,h,q⟩
def oY (t:Adr):Sp:=λvs H Q _=>∃ ca,∃ s:Nat,∃ c,vs=[.ref ca,.int s]/\ChI t H ca c/\s < c.states.length/\∀ H',aP H H'->Q (.int (ko (Rc42.beginning c s))) H'
theorem PB {H:Hp} {Q:VK} {E:XK} {ca:Addr} {s:Nat} {c:Rc42.Chart} (h:ChI t H ca c) (hs:s < c.states.length) (q:∀ H',aP H H'->Q (.int (ko (Rc42.beginning c s))) H'):oY t [.ref ca,.int s] H Q E:=⟨ca,s,c,rfl,h,hs,q⟩
theorem YQ (c:Rc42.Chart) (s:Nat):(Rc42.parts c s).Pairwise (· < ·):=by
 unfold Rc42.parts Rc42.Chart.all
 exact List.Pairwise.filter _ List.pairwise_lt_range
theorem ano {l:List Nat} (h:l.Pairwise (· < ·)) {x y:Nat} (hx:l.head?=some x) (hy:y∈l):x<=y:=by
 cases l with
 | nil=>cases hy
 | cons a r=>
  simp at hx;subst hx
  rcases List.mem_cons.mp hy with rfl | hy
  ·exact Nat.le_refl _
  ·exact Nat.le_of_lt ((List.pairwise_cons.mp h).1 _ hy)
theorem aas {S:Sps} (T:Txt K mg t) (hS:S.cB=vO t) {vs H Q E} (h:oY t vs H Q E):oU K t S (fin Q) (L2.start ["self","state"] vs) H:=by
 obtain ⟨ca,s,c,rfl,⟨lb,dx,sl,wl,rv,ss,ws,h⟩,hs,q⟩:=h
 unfold oU
 simp? [h.at_]
 obtain ⟨a,_,e2,ad,aca,ala,st1,_⟩:=h.ch.st hs
 refine ix h.ch.s1 rfl e2 ?_
 simp? [st1]
 have nn:∀ x:Nat,¬(x:Int)=-1:=λx=>by omega
 unfold Rc42.beginning at q
 cases eb:(c.at_ s).begins with
 | some x=>
  rw [eb] at q
  simp? [ko,nn,not_false_eq_true,h.at_]
  refine ix h.ch.s1 rfl e2 ?_
  simp? [st1,eb,ko]
  exact q H (aP.refl H)
 | none=>
  rw [eb] at q
  simp? [ko,not_true_eq_false,akZ,hS]
  refine ⟨_,_,h.at_,rfl,L4 ⟨lb,dx,sl,wl,rv,ss,ws,h⟩ λH' l s1 hl e1=>?_⟩
  simp?
  refine ⟨(Rc42.parts c s).map (λ(x:Nat)=>(x:Int)),SqL.of (by rw [e1];unfold nts;simp [List.map_map]),λe=>?_,λm hm hmin=>?_⟩
  ·have e':Rc42.parts c s=[]:=by simpa using e
   rw [e'] at q
   exact q H' s1
  ·obtain ⟨y,hy,rfl⟩:=List.mem_map.mp hm
   cases hh:(Rc42.parts c s).head? with
   | none=>rw [List.head?_eq_none_iff.mp hh] at hy;cases hy
   | some x=>
    have h1:=ano (YQ c s) hh hy
    have h2:=hmin (x:Int) (List.mem_map.mpr ⟨x,List.mem_of_mem_head? hh,rfl⟩)
    have e:y=x:=by omega
    simp only [hh] at q
    rw [e]
    exact q H' s1
def uq (t:Adr):Sp:=λvs H Q _=>∃ ca,∃ s o:Nat,∃ c,vs=[.ref ca,.int s,.int o]/\ChI t H ca c/\s < c.states.length/\Q (.bl (Rc42.within c s o)) H
theorem YF {S:Sps} (T:Txt K mg t) {vs H Q E} (h:uq t vs H Q E):pX K t S (fin Q) (L2.start ["self","state","outer","around"] vs) H:=by
 obtain ⟨ca,s,o,c,rfl,⟨lb,dx,sl,wl,rv,ss,ws,h⟩,hs,q⟩:=h
 unfold pX
 simp? [h.at_]
 obtain ⟨a,_,e2,ad,aca,ala,st1,_⟩:=h.ch.st hs
 refine ix h.ch.s1 rfl e2 ?_
 simp? [st1]
 have par:∀ x,x < c.states.length->(Rc42.within c x o=true↔kN x (c.at_ x)=(o:Int)\/∃ y:Nat,kN x (c.at_ x)=(y:Int)/\Rc42.within c y o=true):=λx hx=>by
  rw [aH h.wf hx]
  unfold kN
  by_cases z:x=0
  ·simp [z]
  ·rw [if_neg z]
   constructor
   ·rintro ⟨_,e | e⟩
    ·exact .inl (by omega)
    ·exact .inr ⟨_,rfl,e⟩
   ·rintro (e | ⟨y,e,w⟩)
    ·exact ⟨z,.inl (by omega)⟩
    ·have:(c.at_ x).parent=y:=by omega
     exact ⟨z,.inr (by rw [this];exact w)⟩
 refine ⟨λm σ H1=>H1=H/\∃ i:Int,σ=[some (.ref ca),some (.int s),some (.int o),some (.int i)]/\m=(i+1).toNat/\(i=-1\/0<=i/\i.toNat < c.states.length) /\
  (Rc42.within c s o=true↔i=(o:Int)\/∃ y:Nat,i=(y:Int)/\Rc42.within c y o=true),⟨_,rfl,kN s (c.at_ s),rfl,rfl,?_,par s hs⟩,?_⟩
 ·unfold kN
  by_cases z:s=0
  ·simp [z]
  ·rw [if_neg z]
   have:=(h.wf.par s (by omega) hs).1
   exact .inr ⟨by omega,by omega⟩
 ·rintro m σ H1 ⟨rfl,i,rfl,rfl,hi,hw⟩
  have done:(i=-1\/i=(o:Int))->Q (.bl (decide (i=(o:Int)))) H1:=λz=>by
   have e:decide (i=(o:Int))=Rc42.within c s o:=by
    cases w:Rc42.within c s o with
    | true=>
     rcases z with z | z
     ·rcases hw.mp w with z' | ⟨y,z',_⟩<;>omega
     ·simp [z]
    | false=>
     simp only [decide_eq_false_iff_not]
     intro z'
     rw [hw.mpr (.inl z')] at w;cases w
   rw [e];exact q
  by_cases h1:i=-1
  ·simp? [h1,not_true_eq_false]
   rw [h1] at done
   exact done (.inl rfl)
  ·by_cases h2:i=(o:Int)
   ·simp? [h1,h2,not_true_eq_false,not_false_eq_true]
    subst h2
    simp only [h1,not_false_eq_true,if_true,if_false,not_true_eq_false,Bool.false_eq_true]
    simpa using done (.inr rfl)
   ·simp? [h1,h2,not_true_eq_false,not_false_eq_true,h.at_]
    refine ⟨_,λ_ _ z=>z,?_⟩
    have h0:0<=i/\i.toNat < c.states.length:=hi.resolve_left h1
    clear done
    obtain ⟨y,rfl⟩:=Int.eq_ofNat_of_zero_le h0.1
    have hy:y < c.states.length:=by have:=h0.2;simpa using this
    obtain ⟨a',_,e2',ad',aca',ala',st1',_⟩:=h.ch.st hy
    refine ix h.ch.s1 rfl e2' ?_
    simp? [st1']
    refine ⟨(kN y (c.at_ y)+1).toNat,?_,rfl,?_,?_⟩
    ·unfold kN
     by_cases z:y=0
     ·simp [z]
     ·rw [if_neg z];have:=(h.wf.par y (by omega) hy).1;omega
    ·unfold kN
     by_cases z:y=0
     ·simp [z]
     ·rw [if_neg z]
      have:=(h.wf.par y (by omega) hy).1
      exact .inr ⟨by omega,by omega⟩
    ·rw [hw,<-par y hy]
     constructor
     ·rintro (z | ⟨y',z,w⟩)
      ·exact absurd z h2
      ·have:y'=y:=by omega
       rw [<-this];exact w
     ·intro w
      exact .inr ⟨y,rfl,w⟩
theorem kP {H:Hp} {Q:VK} {E:XK} {ca:Addr} {i:Int} {c:Rc42.Chart} (h:ChI t H ca c) (q:Q (.bl (Rc42.isState c i)) H):jw t [.ref ca,.int i] H Q E:=⟨ca,i,c,rfl,h,q⟩
theorem XM {H:Hp} {Q:VK} {E:XK} {ca:Addr} {i:Int} {c:Rc42.Chart} (h:ChI t H ca c) (q:Q (.bl (decide (0<=i/\i < (c.ways.length:Int)))) H):wV t [.ref ca,.int i] H Q E:=⟨ca,i,c,rfl,h,q⟩
theorem afC {H:Hp} {Q:VK} {E:XK} {ca:Addr} {s o:Nat} {c:Rc42.Chart} (h:ChI t H ca c) (hs:s < c.states.length) (q:Q (.bl (Rc42.within c s o)) H):uq t [.ref ca,.int s,.int o] H Q E:=⟨ca,s,o,c,rfl,h,hs,q⟩
theorem eK {c:Rc42.Chart} {i:Int}:Rc42.isState c i=true↔∃ n:Nat,i=n/\n < c.states.length:=by
 unfold Rc42.isState
 simp
 constructor
 ·rintro ⟨a,b⟩;exact ⟨i.toNat,by omega,by omega⟩
 ·rintro ⟨n,rfl,b⟩;exact ⟨by omega,by omega⟩
def mL (c:Rc42.Chart):Bool:=(Rc42.parts c 0).isEmpty||c.all.any λh=>decide (3<=(c.at_ h).kind)&&(Rc42.parts c (c.at_ h).parent).isEmpty
def tW (t:Adr):Sp:=λvs H Q _=>∃ ca c,vs=[.ref ca]/\ChI t H ca c/\∀ H',aP H H'->Q (.bl (!mL c)) H'
theorem XU {H:Hp} {l:Addr} {xs:List Nat} (h:H l=some (.lst (nts xs))):akv K (.ref l) H (!xs.isEmpty):=.inl ⟨_,SqL.of h,by unfold nts;simp⟩
theorem X8 {S:Sps} (T:Txt K mg t) (hP:S.cB=vO t) (hS:S.aL=cV t) {vs H Q E} (h:tW t vs H Q E):oZ K t S (fin Q) (L2.start ["self","one"] vs) H:=by
 obtain ⟨ca,c,rfl,hI,q⟩:=h
 obtain ⟨lb,dx,sl,wl,rv,ss,ws,h⟩:=id hI
 unfold oZ
 simp? [h.at_,Ag,hP]
 refine L4 (s:=0) hI λH1 l s1 hl e1=>?_
 refine ⟨_,XU e1,?_⟩
 unfold mL at q
 cases he:(Rc42.parts c 0).isEmpty with
 | true=>rw [he] at q;simpa [he] using q H1 s1
 | false=>
  rw [he,Bool.false_or] at q
  have h1:=h.same s1
  simp? [Bool.not_false,Bool.true_eq_false,h1.at_]
  refine ⟨⟨_,SqL.of h1.ch.s1⟩,?_⟩
  obtain ⟨Pv,hPv⟩:∃ Pv:Nat->St->Hp->Prop,∀ i σ H1,Pv i σ H1↔aP H H1/\(∀ j,j < i->¬(3<=(c.at_ j).kind/\(Rc42.parts c (c.at_ j).parent).isEmpty=true))/\∃ v,σ=[some (.ref ca),v]:=⟨_,λ_ _ _=>Iff.rfl⟩
  refine jL (xs:=ss.map V.ref) Pv ((hPv _ _ _).mpr ⟨s1,λj hj=>by omega,_,rfl⟩) (λi σ H2 _ p=>((hPv _ _ _).mp p).1 _ _ h.ch.s1) ?_ ?_
  ·intro i x σ H2 hx hp
   obtain ⟨p1,p2,v,rfl⟩:=(hPv _ _ _).mp hp
   have hi:i < c.states.length:=by rw [<-h.ch.s2];have:=(List.getElem?_eq_some_iff.mp hx).1;simpa using this
   obtain ⟨a,_,e2,ad,aca,ala,st1,_⟩:=h.ch.st hi
   rw [e2] at hx;cases hx
   have kd:=h.wf.kd i hi
   have st2:=p1 _ _ st1
   simp? [st2,hS]
   refine HC st2 kd ?_
   simp?
   have nx:∀ {H3:Hp},aP H H3->¬(3<=(c.at_ i).kind/\(Rc42.parts c (c.at_ i).parent).isEmpty=true)->Pv (i+1) [some (V.ref ca),some (.ref a)] H3:=λa b=>(hPv _ _ _).mpr ⟨a,λj hj=>by
    by_cases e:j=i
    ·subst e;exact b
    ·exact p2 j (by omega),_,rfl⟩
   by_cases h3:3<=(c.at_ i).kind
   ·rw [if_pos h3]
    have ch2:=h.same p1
    have i0:i≠0:=λz=>by rw [z,h.wf.k0] at h3;omega
    have pe:kN i (c.at_ i)=((c.at_ i).parent:Nat):=by unfold kN;rw [if_neg i0]
    simp? [ch2.at_,st2,pe]
    refine L4 (hI.same p1) λH3 l3 s3 hl3 e3=>?_
    refine ⟨_,XU e3,?_⟩
    cases hz:(Rc42.parts c (c.at_ i).parent).isEmpty with
    | true=>
     have e:(c.all.any λh=>decide (3<=(c.at_ h).kind)&&(Rc42.parts c (c.at_ h).parent).isEmpty)=true:=by
      rw [List.any_eq_true]
      exact ⟨i,by unfold Rc42.Chart.all;exact List.mem_range.mpr hi,by simp [h3];simpa using hz⟩
     rw [e] at q
     exact q H3 (p1.trans s3)
    | false=>exact nx (p1.trans s3) (λz=>by rw [hz] at z;cases z.2)
   ·rw [if_neg h3]
    exact nx p1 (λz=>h3 z.1)
  ·intro σ H2 hp
   obtain ⟨p1,p2,v,rfl⟩:=(hPv _ _ _).mp hp
   have e:(c.all.any λh=>decide (3<=(c.at_ h).kind)&&(Rc42.parts c (c.at_ h).parent).isEmpty)=false:=by
    rw [List.any_eq_false]
    intro x hx z
    have hx:x < c.states.length:=List.mem_range.mp hx
    refine p2 x (by rw [List.length_map,h.ch.s2];exact hx) ?_
    simp only [Bool.and_eq_true,decide_eq_true_eq] at z
    exact z
   rw [e] at q
   exact q H2 p1
def zh (c:Rc42.Chart) (p k:Int):Prop:=Rc42.isState c p=false\/k < 0\/4 < k\/2<=(c.at_ p.toNat).kind\/(p=0/\3<=k)\/(2<=k/\(c.at_ p.toNat).kind=1/\k=2)
def yP (t:Adr):Sp:=λvs H Q _=>∃ ca p k c,vs=[.ref ca,.int p,.int k]/\ChI t H ca c/\(zh c p k->Q (.bl false) H)/\(¬zh c p k->Q (.bl true) H)
theorem afx {S:Sps} (T:Txt K mg t) (hP:S.bx=jw t) (hS:S.aL=cV t) {vs H Q E} (h:yP t vs H Q E):qz K t S (fin Q) (L2.start ["self","parent","kind","holder"] vs) H:=by
 obtain ⟨ca,p,k,c,rfl,hI,q1,q2⟩:=h
 obtain ⟨lb,dx,sl,wl,rv,ss,ws,h⟩:=id hI
 unfold qz
 simp? [h.at_,hP]
 refine kP hI ?_
 cases hs:Rc42.isState c p with
 | false=>simp? [hs];exact q1 (.inl hs)
 | true=>
  obtain ⟨n,rfl,hn⟩:=eK.mp hs
  obtain ⟨a,_,e2,ad,aca,ala,st1,_⟩:=h.ch.st hn
  have kd:=h.wf.kd n hn
  simp! [hs,Bool.true_eq_false,h.at_]
  by_cases k0:0<=k
  ·by_cases k4:k<=4
   ·simp only [k0,k4,decide_true,Bool.true_eq_false,if_true,if_false,Bool.false_eq_true,decide_eq_false_iff_not,not_true_eq_false]
    refine ix h.ch.s1 rfl e2 ?_
    simp! [st1]
    by_cases a2:(c.at_ n).kind=2
    ·rw [if_pos (by omega)];exact q1 (.inr (.inr (.inr (.inl (by simp;omega)))))
    ·rw [if_neg (by omega)]
     rw [hS]
     refine HC st1 kd ?_
     simp! [st1]
     by_cases a3:3<=(c.at_ n).kind
     ·rw [if_pos a3];exact q1 (.inr (.inr (.inr (.inl (by simp;omega)))))
     ·rw [if_neg a3]
      by_cases b1:(n:Int)=0
      ·by_cases b2:3<=k
       ·simp only [b1,b2,if_true]
        exact q1 (.inr (.inr (.inr (.inr (.inl ⟨b1,b2⟩)))))
       ·simp only [b1,b2,if_true,if_false,Bool.false_eq_true]
        have n0:n=0:=by omega
        subst n0
        rw [h.wf.k0]
        simp only [Int.natCast_zero,show ¬((0:Int)=1) by decide,not_false_eq_true,if_true]
        refine q2 (λz=>?_)
        unfold zh at z
        rw [hs] at z
        simp [h.wf.k0] at z
        omega
      ·simp only [b1,if_false,Bool.false_eq_true]
       by_cases d1:(c.at_ n).kind=1
       ·simp only [d1,Int.natCast_one,not_true_eq_false,if_false]
        by_cases d2:k=2
        ·subst d2
         exact q1 (.inr (.inr (.inr (.inr (.inr ⟨by omega,by simpa using d1,rfl⟩)))))
        ·have e:(!decide (k=2))=true:=by simp [d2]
         rw [e]
         refine q2 (λz=>?_)
         unfold zh at z
         rw [hs] at z
         simp at z
         omega
       ·rw [if_pos (by omega)]
        refine q2 (λz=>?_)
        unfold zh at z
        rw [hs] at z
        simp at z
        omega
   ·simp only [k0,k4,decide_true,decide_false,if_true]
    exact q1 (.inr (.inr (.inl (by omega))))
  ·simp only [k0,if_false,if_true]
   exact q1 (.inr (.inl (by omega)))
def wX (c:Rc42.Chart) (p:Nat) (g:Int):Prop:=g=-1\/Rc42.within c g.toNat p=false\/3<=(c.at_ g.toNat).kind
def mD (t:Adr):Sp:=λvs H Q _=>∃ ca,∃ p:Nat,∃ g c,vs=[.ref ca,.int p,.int g]/\ChI t H ca c/\(g=-1\/Rc42.isState c g=true)/\(wX c p g->Q (.bl false) H)/\(¬wX c p g->Q (.bl true) H)
theorem Wu {S:Sps} (T:Txt K mg t) (hP:S.fQ=uq t) (hS:S.aL=cV t) {vs H Q E} (h:mD t vs H Q E):nc K t S (fin Q) (L2.start ["self","parent","target"] vs) H:=by
 obtain ⟨ca,p,g,c,rfl,hI,hg,q1,q2⟩:=h
 obtain ⟨lb,dx,sl,wl,rv,ss,ws,h⟩:=id hI
 unfold nc
 simp? [h.at_,hP,hS]
 by_cases g1:g=-1
 ·rw [if_pos g1];exact q1 (.inl g1)
 ·rw [if_neg g1]
  obtain ⟨n,rfl,hn⟩:=eK.mp (hg.resolve_left g1)
  obtain ⟨a,_,e2,ad,aca,ala,st1,_⟩:=h.ch.st hn
  have kd:=h.wf.kd n hn
  refine ix h.ch.s1 rfl e2 ?_
  simp? [st1]
  refine HC st1 kd ?_
  simp? [h.at_]
  by_cases a3:3<=(c.at_ n).kind
  ·rw [if_pos a3];exact q1 (.inr (.inr (by simpa using a3)))
  ·rw [if_neg a3]
   refine afC hI hn ?_
   cases w:Rc42.within c n p with
   | true=>exact q2 (λz=>by unfold wX at z;simp [w] at z;omega)
   | false=>exact q1 (.inr (.inl (by simpa using w)))
theorem abf {H:Hp} {Q:VK} {E:XK} {ca:Addr} {p:Nat} {g:Int} {c:Rc42.Chart} (h:ChI t H ca c) (hg:g=-1\/Rc42.isState c g=true) (q1:wX c p g->Q (.bl false) H) (q2:¬wX c p g->Q (.bl true) H):mD t [.ref ca,.int p,.int g] H Q E:=⟨ca,p,g,c,rfl,h,hg,q1,q2⟩
def Tq (c:Rc42.Chart) (s e g:Int):Prop:=Rc42.isState c s=false\/s=0\/Rc42.isEvent e=false\/(c.at_ s.toNat).kind=2\/¬(g=-1\/(Rc42.isState c g=true/\g≠0)) \/
 (3<=(c.at_ s.toNat).kind/\(g=-1\/Rc42.within c g.toNat (c.at_ s.toNat).parent=false\/3<=(c.at_ g.toNat).kind))\/(g=-1/\e=0)
def yU (t:Adr):Sp:=λvs H Q _=>∃ ca s e g c,vs=[.ref ca,.int s,.int e,.int g]/\ChI t H ca c/\(Tq c s e g->Q (.bl false) H)/\(¬Tq c s e g->Q (.bl true) H)
theorem afl {S:Sps} (T:Txt K mg t) (hH:S.bx=jw t) (hP:S.eU=mD t) (hS:S.aL=cV t) {vs H Q E} (h:yU t vs H Q E):qV K t S (fin Q) (L2.start ["self","source","event","target","start"] vs) H:=by
 obtain ⟨ca,s,e,g,c,rfl,hI,q1,q2⟩:=h
 obtain ⟨lb,dx,sl,wl,rv,ss,ws,h⟩:=id hI
 unfold qV
 simp? [h.at_,hP,hS,hH]
 by_cases s0:s=0
 ·rw [if_pos s0];exact q1 (.inr (.inl s0))
 rw [if_neg s0]
 refine kP hI ?_
 cases hs:Rc42.isState c s with
 | false=>simp? [hs];exact q1 (.inl hs)
 | true=>
 simp? [Bool.true_eq_false]
 by_cases g0:g=0
 ·rw [if_pos g0];exact q1 (.inr (.inr (.inr (.inr (.inl (λz=>by rcases z with z | z;omega;exact z.2 g0))))))
 rw [if_neg g0]
 obtain ⟨n,rfl,hn⟩:=eK.mp hs
 obtain ⟨a,_,e2,ad,aca,ala,st1,_⟩:=h.ch.st hn
 have kd:=h.wf.kd n hn
 have n0:n≠0:=by omega
 have ev:Rc42.isEvent e=true↔0<=e/\e<=319:=by unfold Rc42.isEvent;simp;omega
 have evf:¬(0<=e/\e<=319)->Q (.bl false) H:=λz=>q1 (.inr (.inr (.inl (by
  cases w:Rc42.isEvent e with
  | false=>rfl
  | true=>exact absurd (ev.mp w) z))))
 have pe:kN n (c.at_ n)=((c.at_ n).parent:Nat):=by unfold kN;rw [if_neg n0]
 have good:(g=-1\/Rc42.isState c g=true)->0<=e->e<=319->¬(g=-1/\e=0)->(Tq c n e g↔(c.at_ n).kind=2\/(3<=(c.at_ n).kind/\wX c (c.at_ n).parent g)):=λhg e0 e1 ge=>by
  unfold Tq wX
  rw [hs,ev.mpr ⟨e0,e1⟩]
  simp only [Int.toNat_natCast,Bool.true_eq_false,s0,false_or]
  constructor
  ·rintro (z | z | z | z)
   ·exact .inl z
   ·exact absurd (hg.imp id λq=>⟨q,g0⟩) z
   ·exact .inr z
   ·exact absurd z ge
  ·rintro (z | z)
   ·exact .inl z
   ·exact .inr (.inr (.inl z))
 have tail:(g=-1\/Rc42.isState c g=true)->0<=e->e<=319->¬(g=-1/\e=0)->bY K (V.ref sl) (V.int n) H λx H1=>∃ a,x=V.ref a/\∃ x_1 x_2,H1 a=some (HO.ins t.bA x_1 x_2)/\List.lookup (Str.ofString "is_history") x_2=none /\
   cV t [x] H1 (λx_1 H1=>∃ c,x_1=V.bl c/\if c=true then bD t.aE "may_recall" (mD t) [] E0 (aa 0) (aB (aN K (aa 4) "parent") (aB (aa 3) aJ)) [some (.ref ca),some (.int n),some (.int e),some (.int g),some x] H1 Q
    else tOp rNe (aN K (aa 4) "kind") (tC (.int (2))) [some (.ref ca),some (.int n),some (.int e),some (.int g),some x] H1 Q) E0:=λhg e0 e1 ge=>by
  have gd:=good hg e0 e1 ge
  refine ix h.ch.s1 rfl e2 ?_
  simp? [st1]
  refine HC st1 kd ?_
  simp? [h.at_,st1]
  by_cases a3:3<=(c.at_ n).kind
  ·rw [if_pos a3,pe]
   exact abf hI hg (λz=>q1 (gd.mpr (.inr ⟨a3,z⟩))) λz=>q2 λz'=>by
    rcases gd.mp z' with y | y
    ·omega
    ·exact z y.2
  ·rw [if_neg a3]
   by_cases a2:(c.at_ n).kind=2
   ·rw [a2]
    exact q1 (gd.mpr (.inl a2))
   ·have e:(!decide (((c.at_ n).kind:Int)=2))=true:=by simp;omega
    rw [e]
    exact q2 λz'=>by
     rcases gd.mp z' with y | y
     ·exact a2 y
     ·exact a3 y.1
 dsimp! at tail
 by_cases e0:0<=e
 ·by_cases e1:e<=319
  ·by_cases g1:g=-1
   ·by_cases z:e=0
    ·simp? [g1,e0,e1,z,not_true_eq_false]
     simp only [show ((0:Int)<=319) by decide,not_true_eq_false,if_false,if_true,show ((0:Int)<=0) by decide]
     exact q1 (.inr (.inr (.inr (.inr (.inr (.inr ⟨g1,z⟩))))))
    ·have tl:=tail (.inl g1) e0 e1 (λy=>z y.2)
     simp! [g1,e0,e1,z,not_true_eq_false,h.at_] at tl ⊢
     exact tl
   ·simp? [g1,not_false_eq_true,h.at_]
    refine kP hI ?_
    cases w:Rc42.isState c g with
    | false=>simp?;exact q1 (.inr (.inr (.inr (.inr (.inl λy=>by rcases y with y | y;exact g1 y;rw [w] at y;cases y.1)))))
    | true=>
     have tl:=tail (.inr w) e0 e1 (λy=>g1 y.1)
     simp! [g1,e0,e1,not_true_eq_false,h.at_,Bool.true_eq_false,ite_self] at tl ⊢
     exact tl
  ·by_cases g1:g=-1
   ·simp? [g1,e0,e1,not_true_eq_false,not_false_eq_true]
    exact evf λz=>e1 z.2
   ·simp? [g1,not_false_eq_true,h.at_]
    refine kP hI ?_
    cases w:Rc42.isState c g with
    | false=>simp?;exact q1 (.inr (.inr (.inr (.inr (.inl λy=>by rcases y with y | y;exact g1 y;rw [w] at y;cases y.1)))))
    | true=>
     simp? [g1,e0,e1,not_false_eq_true,Bool.true_eq_false]
     exact evf λz=>e1 z.2
 ·by_cases g1:g=-1
  ·simp? [g1,e0,not_true_eq_false,not_false_eq_true]
   exact evf λz=>e0 z.1
  ·simp? [g1,not_false_eq_true,h.at_]
   refine kP hI ?_
   cases w:Rc42.isState c g with
   | false=>simp?;exact q1 (.inr (.inr (.inr (.inr (.inl λy=>by rcases y with y | y;exact g1 y;rw [w] at y;cases y.1)))))
   | true=>
    simp? [g1,e0,not_false_eq_true,Bool.true_eq_false]
    exact evf λz=>e0 z.1
end SC
namespace SC
open Rc42
theorem afW {α:Type} (l:List α) (s:Nat) (f:α->α) (i:Nat):((l.zip (List.range l.length)).map λx=>if x.2=s then f x.1 else x.1)[i]?=(l[i]?).map λx=>if i=s then f x else x:=by
 rw [List.getElem?_map]
 by_cases h:i < l.length
 ·have e:(l.zip (List.range l.length))[i]?=some (l[i],i):=by
   rw [List.getElem?_eq_getElem (by simp [h])]
   simp
  rw [e,List.getElem?_eq_getElem h]
  rfl
 ·rw [List.getElem?_eq_none (by simp;omega),List.getElem?_eq_none (by omega)]
  rfl
theorem iD (c:Chart) (s:Nat) (f:State->State):(setState c s f).states.length=c.states.length:=by
 unfold setState;simp
theorem O2 {c:Chart} {i:Nat} (h:i < c.states.length):c.states[i]?=some (c.at_ i):=by
 unfold Chart.at_
 rw [List.getD_eq_getElem?_getD,List.getElem?_eq_getElem h]
 rfl
theorem Pd (c:Chart) (s:Nat) (f:State->State) (i:Nat) (h:i < c.states.length):(setState c s f).at_ i=if i=s then f (c.at_ i) else c.at_ i:=by
 have e:(setState c s f).states[i]?=some (if i=s then f (c.at_ i) else c.at_ i):=by
  show ((c.states.zip (List.range c.states.length)).map λx=>if x.2=s then f x.1 else x.1)[i]?=_
  rw [afW,O2 h]
  rfl
 show (setState c s f).states.getD i _=_
 rw [List.getD_eq_getElem?_getD,e]
 rfl
theorem Ks (c:Chart) (w:Nat) (f:Way->Way) (j:Nat):(setWay c w f).ways[j]?=(c.ways[j]?).map λx=>if j=w then f x else x:=afW c.ways w f j
theorem Km (c:Chart) (w:Nat) (f:Way->Way):(setWay c w f).ways.length=c.ways.length:=by unfold setWay;simp
theorem YS {c c':Chart} (h:c'.states=c.states) (i:Nat):c'.at_ i=c.at_ i:=by unfold Chart.at_;rw [h]
theorem Pq {c c':Chart} (hl:c'.states.length=c.states.length) (h:∀ i,i < c.states.length->(c'.at_ i).parent=(c.at_ i).parent/\(c'.at_ i).kind=(c.at_ i).kind) (s:Nat):parts c' s=parts c s:=by
 unfold parts Chart.all
 rw [hl]
 refine List.filter_congr λx hx=>?_
 obtain ⟨a,b⟩:=h x (List.mem_range.mp hx)
 rw [a,b]
theorem QL {c c':Chart} (n:Nat) (h:∀ i,i < n->(c'.at_ i).parent=(c.at_ i).parent) (hp:∀ i,0 < i->i < n->(c.at_ i).parent < i):∀ (f s:Nat),s < n->above c' f s=above c f s
 | 0,s,hs=>rfl
 | f+1,s,hs=>by
  show (if s=0 then [] else (c'.at_ s).parent::above c' f (c'.at_ s).parent)=if s=0 then [] else (c.at_ s).parent::above c f (c.at_ s).parent
  by_cases e:s=0
  ·rw [if_pos e,if_pos e]
  ·rw [if_neg e,if_neg e,h s hs,QL n h hp f _ (Nat.lt_trans (hp s (by omega) hs) hs)]
theorem B8 {c c':Chart} (h:Wf c) (e:∀ i,i < c.states.length->(c'.at_ i).parent=(c.at_ i).parent) {s b:Nat} (hs:s < c.states.length):within c' s b=within c s b:=by
 unfold within around
 rw [QL c.states.length e (λi a b=>(h.par i a b).1) 64 s hs]
theorem XA {c c':Chart} (h:Wf c) (hl:c'.states.length=c.states.length) (hw:c'.ways=c.ways) (e:∀ i,i < c.states.length->(c'.at_ i).parent=(c.at_ i).parent/\(c'.at_ i).kind=(c.at_ i).kind)
  (bg:∀ i,i < c.states.length->∀ x,(c'.at_ i).begins=some x->x∈parts c i)
  (ac:∀ i,i < c.states.length->(c'.at_ i).come.length<=16/\(c'.at_ i).leave.length<=16/\(∀ a∈(c'.at_ i).come,Di a)/\∀ a∈(c'.at_ i).leave,Di a):Wf c':=by
 have n1:=h.n1
 refine ⟨by omega,by rw [hl];exact h.n2,by rw [(e 0 (by omega)).2];exact h.k0,by rw [(e 0 (by omega)).1];exact h.p0,λi h0 hi=>?_,λi hi=>?_,λi hi=>?_,λi h0 hi=>?_,λi hi x hx=>?_,λi hi=>ac i (by omega),by rw [hw];exact h.w1,λw hm=>?_⟩
 ·rw [hl] at hi
  have p:=h.par i h0 hi
  rw [(e i hi).1,(e _ (by omega)).2]
  exact p
 ·rw [hl] at hi;rw [(e i hi).2];exact h.kd i hi
 ·rw [hl] at hi;rw [(e i hi).2,(e i hi).1];exact h.h0 i hi
 ·rw [hl] at hi
  have p:=h.par i h0 hi
  rw [(e i hi).2,(e i hi).1,(e _ (by omega)).2];exact h.en i h0 hi
 ·rw [hl] at hi;rw [Pq hl e];exact bg i hi x hx
 ·rw [hw] at hm
  have q:=h.wy w hm
  refine ⟨q.s0,by rw [hl];exact q.s1,by rw [(e _ q.s1).2];exact q.s2,q.ev,q.ak,q.wh,λt ht=>by rw [hl];exact q.tg t ht,λhk=>?_,q.al,q.ac⟩
  rw [(e _ q.s1).2] at hk
  obtain ⟨t,a,b,d⟩:=q.hs hk
  have ht:=(q.tg t a).2
  exact ⟨t,a,by rw [(e _ q.s1).1,B8 h (λi hi=>(e i hi).1) ht];exact b,by rw [(e t ht).2];exact d⟩
theorem ahL {c c':Chart} (h:Wf c) (hs:c'.states=c.states) (w1:c'.ways.length<=256) (wy:∀ w∈c'.ways,nS c w):Wf c':=by
 have e:=YS hs
 have hl:c'.states.length=c.states.length:=by rw [hs]
 have pe:∀ s,parts c' s=parts c s:=Pq hl λi _=>by rw [e];exact ⟨rfl,rfl⟩
 refine ⟨by rw [hl];exact h.n1,by rw [hl];exact h.n2,by rw [e];exact h.k0,by rw [e];exact h.p0,λi=>by rw [hl];simp only [e];exact h.par i,λi=>by rw [hl];simp only [e];exact h.kd i,λi=>by rw [hl];simp only [e];exact h.h0 i,λi=>by rw [hl];simp only [e];exact h.en i,
  λi=>by rw [hl];simp only [e,pe];exact h.bg i,λi=>by rw [hl];simp only [e];exact h.ac i,w1,λw hm=>?_⟩
 have q:=wy w hm
 refine ⟨q.s0,by rw [hl];exact q.s1,by rw [e];exact q.s2,q.ev,q.ak,q.wh,λt ht=>by rw [hl];exact q.tg t ht,λhk=>?_,q.al,q.ac⟩
 rw [e] at hk
 obtain ⟨t,a,b,d⟩:=q.hs hk
 exact ⟨t,a,by rw [e,B8 h (λi _=>by rw [e]) (q.tg t a).2];exact b,by rw [e];exact d⟩
def kG (c:Chart) (p k:Nat):Chart:={ c with states:=c.states++[⟨p,k,none,[],[]⟩] }
theorem Qe (c:Chart) (p k i:Nat):(kG c p k).at_ i=if i=c.states.length then ⟨p,k,none,[],[]⟩ else c.at_ i:=by
 unfold kG Chart.at_
 simp only [List.getD_eq_getElem?_getD]
 by_cases e:i=c.states.length
 ·subst e;simp
 ·rw [if_neg e]
  by_cases h:i < c.states.length
  ·rw [List.getElem?_append_left h]
  ·rw [List.getElem?_eq_none (by simp;omega),List.getElem?_eq_none (by omega)]
theorem NZ (c:Chart) (p k:Nat):(kG c p k).states.length=c.states.length+1:=by unfold kG;simp
theorem afb {c:Chart} (h:Wf c) {p k:Nat} (hn:c.states.length < 64) (hp:p < c.states.length) (hk:k<=4) (kp:(c.at_ p).kind<=1) (h0:p=0->k < 3) (h2:k=2->(c.at_ p).kind≠1):Wf (kG c p k):=by
 have n1:=h.n1
 have at1:∀ i,i < c.states.length->(kG c p k).at_ i=c.at_ i:=λi hi=>by rw [Qe,if_neg (by omega)]
 have atn:(kG c p k).at_ c.states.length=⟨p,k,none,[],[]⟩:=by rw [Qe,if_pos rfl]
 have hl:=NZ c p k
 have cs:∀ i,i < (kG c p k).states.length->i < c.states.length\/i=c.states.length:=λi hi=>by omega
 have pm:∀ s x,x∈parts c s->x∈parts (kG c p k) s:=λs x hx=>by
  obtain ⟨a,b,d,e⟩:=aI.mp hx
  exact aI.mpr ⟨by omega,b,by rw [at1 x a];exact d,by rw [at1 x a];exact e⟩
 refine ⟨by omega,by omega,by rw [at1 0 (by omega)];exact h.k0,by rw [at1 0 (by omega)];exact h.p0,λi z hi=>?_,λi hi=>?_,λi hi=>?_,λi z hi=>?_,λi hi x hx=>?_,λi hi=>?_,h.w1,λw hm=>?_⟩
 ·rcases cs i hi with a | rfl
  ·have q:=h.par i z a
   rw [at1 i a,at1 _ (by omega)];exact q
  ·rw [atn,at1 p hp];exact ⟨hp,kp⟩
 ·rcases cs i hi with a | rfl
  ·rw [at1 i a];exact h.kd i a
  ·rw [atn];exact hk
 ·rcases cs i hi with a | rfl
  ·rw [at1 i a];exact h.h0 i a
  ·rw [atn];intro z z';have:=h0 z';simp at z;omega
 ·rcases cs i hi with a | rfl
  ·have q:=h.par i z a
   rw [at1 i a,at1 _ (by omega)];exact h.en i z a
  ·rw [atn,at1 p hp];intro z';have:=h2 z';simp at *;omega
 ·rcases cs i hi with a | rfl
  ·rw [at1 i a] at hx;exact pm _ _ (h.bg i a x hx)
  ·rw [atn] at hx;cases hx
 ·rcases cs i hi with a | rfl
  ·rw [at1 i a];exact h.ac i a
  ·rw [atn];simp
 ·have q:=h.wy w hm
  refine ⟨q.s0,by have:=q.s1;omega,by rw [at1 _ q.s1];exact q.s2,q.ev,q.ak,q.wh,λt ht=>by have:=q.tg t ht;omega,λhk=>?_,q.al,q.ac⟩
  rw [at1 _ q.s1] at hk
  obtain ⟨t,a,b,d⟩:=q.hs hk
  have ht:=(q.tg t a).2
  exact ⟨t,a,by rw [at1 _ q.s1,B8 h (λi hi=>by rw [at1 i hi]) ht];exact b,by rw [at1 t ht];exact d⟩
theorem aoH:Wf {}:=by
 have e:∀ i,({}:Chart).at_ i=⟨0,0,none,[],[]⟩:=λi=>by
  unfold Chart.at_
  cases i with
  | zero=>rfl
  | succ i=>simp
 refine ⟨by decide,by decide,by rw [e],by rw [e],λi a b=>?_,λi _=>by rw [e];simp,λi _ z=>by rw [e] at z;simp at z,λi _ _ z=>by rw [e] at z;simp at z,λi _ x z=>by rw [e] at z;simp at z,λi _=>by rw [e];simp,by decide,λw hw=>by simp at hw⟩
 have:({}:Chart).states.length=1:=rfl
 omega
end SC
namespace SC
open PySem L2
variable {K:W.Frag} {mg:Str->Option Value} {t:Adr}
section
variable {lb lb':Addr->Lb} {H:Hp} {p l a:Addr} {xs ys:List V} {as:List Rc42.Act} {i j:Nat} {s:Rc42.State} {w:Rc42.Way}
theorem gG.ZL (h:gG H l as) (hp:H p=some (.lst xs)) (ne:l≠p):gG (upd H p (.lst ys)) l as:=by
 obtain ⟨ts,e1,e2,e3⟩:=h
 exact ⟨ts,by rw [aq ne];exact e1,e2,λk a x h1 h2=>by
  have q:=e3 k a x h1 h2
  rw [aq (fL q hp (by simp))];exact q⟩
theorem gG.Rg {C dx:Addr} {fs gs:List (Str×V)} (h:gG H l as) (hp:H p=some (.ins C dx fs)):gG (upd H p (.ins C dx gs)) l as:=by
 obtain ⟨ts,e1,e2,e3⟩:=h
 exact ⟨ts,by rw [aq (fL e1 hp (by simp))];exact e1,e2,λk a x h1 h2=>by
  have q:=e3 k a x h1 h2
  rw [aq (fL q hp (by simp))];exact q⟩
theorem qi {x y:Addr} {u v:Lb} (h1:lb x=u) (h2:lb y=v) (n:u≠v):x≠y:=λe=>n (by rw [<-h1,<-h2,e])
theorem StR.ZL (h:StR t lb H a i s) (hp:H p=some (.lst xs)) {v:Lb} (hv:lb p=v) (n1:Lb.co i≠v) (n2:Lb.le i≠v):StR t lb (upd H p (.lst ys)) a i s:=by
 obtain ⟨dx,ca,la,e1,e2,e3,e4,e5,e6⟩:=h
 exact ⟨dx,ca,la,by rw [aq (fL e1 hp (by simp))];exact e1,e2.ZL hp (qi e5 hv n1),e3.ZL hp (qi e6 hv n2),e4,e5,e6⟩
theorem WyR.ZL (h:WyR t lb H a j w) (hp:H p=some (.lst xs)) {v:Lb} (hv:lb p=v) (n1:Lb.ac j≠v):WyR t lb (upd H p (.lst ys)) a j w:=by
 obtain ⟨dx,wa,e1,e2,e3,e4⟩:=h
 exact ⟨dx,wa,by rw [aq (fL e1 hp (by simp))];exact e1,e2.ZL hp (qi e4 hv n1),e3,e4⟩
theorem StR.Rg {C dx:Addr} {fs gs:List (Str×V)} (h:StR t lb H a i s) (hp:H p=some (.ins C dx fs)) {v:Lb} (hv:lb p=v) (n1:Lb.st i≠v):StR t lb (upd H p (.ins C dx gs)) a i s:=by
 obtain ⟨dx',ca,la,e1,e2,e3,e4,e5,e6⟩:=h
 exact ⟨dx',ca,la,by rw [aq (qi e4 hv n1)];exact e1,e2.Rg hp,e3.Rg hp,e4,e5,e6⟩
theorem WyR.Rg {C dx:Addr} {fs gs:List (Str×V)} (h:WyR t lb H a j w) (hp:H p=some (.ins C dx fs)) {v:Lb} (hv:lb p=v) (n1:Lb.wy j≠v):WyR t lb (upd H p (.ins C dx gs)) a j w:=by
 obtain ⟨dx',wa,e1,e2,e3,e4⟩:=h
 exact ⟨dx',wa,by rw [aq (qi e3 hv n1)];exact e1,e2.Rg hp,e3,e4⟩
theorem gG.is (h:gG H l as):∃ ys,H l=some (.lst ys):=let ⟨ts,e,_⟩:=h;⟨_,e⟩
theorem StR.Sn (h:StR t lb H a i s) (e:∀ b o,H b=some o->lb' b=lb b):StR t lb' H a i s:=by
 obtain ⟨dx,ca,la,e1,e2,e3,e4,e5,e6⟩:=h
 obtain ⟨y1,z1⟩:=e2.is
 obtain ⟨y2,z2⟩:=e3.is
 exact ⟨dx,ca,la,e1,e2,e3,by rw [e _ _ e1];exact e4,by rw [e _ _ z1];exact e5,by rw [e _ _ z2];exact e6⟩
theorem WyR.Sn (h:WyR t lb H a j w) (e:∀ b o,H b=some o->lb' b=lb b):WyR t lb' H a j w:=by
 obtain ⟨dx,wa,e1,e2,e3,e4⟩:=h
 obtain ⟨y1,z1⟩:=e2.is
 exact ⟨dx,wa,e1,e2,by rw [e _ _ e1];exact e3,by rw [e _ _ z1];exact e4⟩
theorem StR.same {H':Hp} (h:StR t lb H a i s) (e:aP H H'):StR t lb H' a i s:=by
 obtain ⟨dx,ca,la,x1,x2,x3,x4⟩:=h
 exact ⟨dx,ca,la,e _ _ x1,x2.same e,x3.same e,x4⟩
theorem WyR.same {H':Hp} (h:WyR t lb H a j w) (e:aP H H'):WyR t lb H' a j w:=by
 obtain ⟨dx,wa,x1,x2,x4⟩:=h
 exact ⟨dx,wa,e _ _ x1,x2.same e,x4⟩
end
def xK (t:Adr) (F:Addr->Prop) (H:Hp) (ca:Addr) (c:Rc42.Chart):Prop:=∃ lb dx sl wl ss ws,Ch t lb H ca dx sl wl .non ss ws c/\lb ca=.ch/\∀ a,lb a≠.no->F a
theorem xK.chI {F:Addr->Prop} {H:Hp} {ca:Addr} {c:Rc42.Chart} (h:xK t F H ca c):ChI t H ca c:=let ⟨lb,dx,sl,wl,ss,ws,h,_⟩:=h;⟨lb,dx,sl,wl,_,ss,ws,h⟩
structure Nxt (F:Addr->Prop) (H:Hp) (F':Addr->Prop) (H':Hp):Prop where
 own:∀ a,F' a->F a\/H a=none
 stay:∀ a o,H a=some o->¬F a->H' a=some o
theorem Nxt.refl (F:Addr->Prop) (H:Hp):Nxt F H F H:=⟨λ_ h=>.inl h,λ_ _ h _=>h⟩
def w32 (z:Int):Prop:=-2147483648<=z/\z<=2147483647
def told (t:Adr) (ca:Addr) (q:Rc42.Call) (H:Hp) (Q:VK):Prop:=∃ F c,xK t F H ca c/\∀ F' H',xK t F' H' ca (Rc42.build c q).1->Nxt F H F' H'->Q (.int (Rc42.build c q).2.value) H'
def GH (t:Adr):Sp:=λvs H Q _=>∃ ca dx fs,vs=[.ref ca]/\H ca=some (.ins t.aE dx fs)/\(fs=[]\/∃ x y z,fs=bM x y z)/\∀ F' H',xK t F' H' ca {}->(∀ a,F' a->a=ca\/H a=none)->But ca H H'->Q (.int 0) H'
theorem ajL {S:Sps} (T:Txt K mg t) (hS:S.i6=rA t) {vs H Q E} (h:GH t vs H Q E):z7 K t S (fin Q) (L2.start ["self"] vs) H:=by
 obtain ⟨ca,dx,fs,rfl,hca,hfs,q⟩:=h
 unfold z7
 simp? [hS]
 refine λx dxs hx hdx hne=>⟨x,-1,0,dxs,rfl,ay,λH1 co le e1 e2 e3 n1 f1 f2 b1=>?_⟩
 simp?
 have fx:∀ {b o},H b=some o->b≠x/\b≠dxs:=λe=>⟨ao e hx,ao e hdx⟩
 have sm1:aP H H1:=λb o e=>b1 b o (fx e).1 (by rw [aq (fx e).1,aq (fx e).2];exact e)
 have hco:H co=none:=by
  have ne1:co≠x:=by intro z;subst z;rw [ay] at f1;cases f1
  have ne2:co≠dxs:=by intro z;subst z;rw [aq ne1,ay] at f1;cases f1
  rw [aq ne1,aq ne2] at f1;exact f1
 have hle:H le=none:=by
  have ne1:le≠x:=by intro z;subst z;rw [ay] at f2;cases f2
  have ne2:le≠dxs:=by intro z;subst z;rw [aq ne1,ay] at f2;cases f2
  rw [aq ne1,aq ne2] at f2;exact f2
 refine ⟨by decide,λsl hsl=>?_⟩
 have sm2:aP H1 (upd H1 sl (.lst [.ref x])):=aT hsl
 have c1:upd H1 sl (.lst [.ref x]) ca=some (.ins t.aE dx fs):=sm2 _ _ (sm1 _ _ hca)
 simp? [c1]
 have hl0:fs.length < 1000/\(cj "states" (.ref sl) fs).length < 1000:=by
  rcases hfs with rfl | ⟨x,y,z,rfl⟩
  ·exact ⟨by decide,by show 1 < 1000;decide⟩
  ·exact ⟨by show 3 < 1000;decide,by show 3 < 1000;decide⟩
 refine ⟨hl0.1,Nat.zero_le _,λwl hwl=>?_⟩
 have nwl:ca≠wl:=by intro z;subst z;rw [ay] at hwl;cases hwl
 simp! [aq nwl,ay]
 refine ⟨hl0.2,?_,?_⟩
 ·rcases hfs with rfl | ⟨x,y,z,rfl⟩
  ·show 2 < 1000;decide
  ·show 3 < 1000;decide
 have nsl:ca≠sl:=ao (sm1 _ _ hca) hsl
 have wl1:H1 wl=none/\wl≠sl:=by
  have a1:wl≠sl:=by intro z;subst z;rw [aq (Ne.symm nwl),ay] at hwl;cases hwl
  rw [aq (Ne.symm nwl),aq a1] at hwl
  exact ⟨hwl,a1⟩
 have fin3:∀ b,b≠ca->b≠wl->b≠sl->upd (upd (upd (upd (upd H1 sl (.lst [.ref x])) ca (.ins t.aE dx (cj "states" (.ref sl) fs))) wl (.lst [])) ca (.ins t.aE dx (cj "ways" (.ref wl) (cj "states" (.ref sl) fs)))) ca
   (.ins t.aE dx (cj "run" .non (cj "ways" (.ref wl) (cj "states" (.ref sl) fs)))) b=H1 b:=λb n1 n2 n3=>by
  rw [aq n1,aq n1,aq n2,aq n1,aq n3]
 have o1:∀ {b o},H1 b=some o->b≠sl/\b≠wl:=λe=>⟨ao e hsl,ao e wl1.1⟩
 have dca:∀ {b},H b=none->b≠ca:=λe z=>by subst z;rw [hca] at e;cases e
 refine q (λb=>b=ca\/H b=none) _ ⟨λb=>if b=ca then .ch else if b=sl then .sl else if b=wl then .wl else if b=x then .st 0 else if b=co then .co 0 else if b=le then .le 0 else .no,dx,sl,wl,[x],[],⟨?_,aoH,?_⟩,if_pos rfl,λb hb=>?_⟩ (λa h=>h) (λb o hb e=>?_)
 ·rw [ay]
  rcases hfs with rfl | ⟨x,y,z,rfl⟩<;>rfl
 ·have x1:=o1 e1
  have co1:=o1 e2
  have le1:=o1 e3
  have xco:x≠co:=fL e1 e2 (by simp)
  have xle:x≠le:=fL e1 e3 (by simp)
  refine ⟨?_,rfl,?_,?_,?_,rfl,λj w a h=>by simp at h,?_⟩
  ·rw [aq (Ne.symm nsl),aq (Ne.symm nsl),aq (Ne.symm wl1.2),aq (Ne.symm nsl),ay];rfl
  ·intro i s a h1 h2
   have i0:i=0:=by have:=(List.getElem?_eq_some_iff.mp h2).1;simpa using this
   subst i0
   simp at h2
   subst h2
   have hs:s=⟨0,0,none,[],[]⟩:=by have z:some (⟨0,0,none,[],[]⟩:Rc42.State)=some s:=h1;exact (Option.some.inj z).symm
   subst hs
   refine ⟨dxs,co,le,?_,⟨[],?_,rfl,λk a x h=>by simp at h⟩,⟨[],?_,rfl,λk a x h=>by simp at h⟩,?_,?_,?_⟩
   ·rw [fin3 x (dca hx) x1.2 x1.1];exact e1
   ·rw [fin3 co (dca hco) co1.2 co1.1];exact e2
   ·rw [fin3 le (dca hle) le1.2 le1.1];exact e3
   ·simp [dca hx,x1.1,x1.2]
   ·simp [dca hco,co1.1,co1.2,Ne.symm xco]
   ·simp [dca hle,le1.1,le1.2,Ne.symm xle,Ne.symm n1]
  ·show (if sl=ca then Lb.ch else if sl=sl then Lb.sl else _)=Lb.sl
   rw [if_neg (Ne.symm nsl),if_pos rfl]
  ·rw [aq (Ne.symm nwl),aq (Ne.symm nwl),ay];rfl
  ·show (if wl=ca then Lb.ch else if wl=sl then Lb.sl else if wl=wl then Lb.wl else _)=Lb.wl
   rw [if_neg (Ne.symm nwl),if_neg wl1.2,if_pos rfl]
 ·by_cases z0:b=ca
  ·exact .inl z0
  ·refine .inr ?_
   by_cases z1:b=sl
   ·subst z1;exact sm1.free hsl
   ·by_cases z2:b=wl
    ·subst z2;exact sm1.free wl1.1
    ·by_cases z3:b=x
     ·subst z3;exact hx
     ·by_cases z4:b=co
      ·subst z4;exact hco
      ·by_cases z5:b=le
       ·subst z5;exact hle
       ·simp only [z0,z1,z2,z3,z4,z5,if_false] at hb
        exact absurd rfl hb
 ·have q1:=sm1 b o e
  rw [fin3 b hb (o1 q1).2 (o1 q1).1];exact q1
theorem ail {H:Hp} {Q:VK} {E:XK} {ca dx:Addr} {fs:List (Str×V)} (h:H ca=some (.ins t.aE dx fs)) (hf:fs=[]\/∃ x y z,fs=bM x y z) (q:∀ F' H',xK t F' H' ca {}->(∀ a,F' a->a=ca\/H a=none)->But ca H H'->Q (.int 0) H'):GH t [.ref ca] H Q E:=⟨ca,dx,fs,rfl,h,hf,q⟩
def zO (t:Adr):Sp:=λvs H Q _=>∃ ca dx,vs=[.ref ca]/\H ca=some (.ins t.aE dx [])/\∀ F' H',xK t F' H' ca {}->(∀ a,F' a->a=ca\/H a=none)->But ca H H'->Q .non H'
theorem Wv {S:Sps} (hS:S.gw=GH t) {vs H Q E} (h:zO t vs H Q E):Bq K t S (fin Q) (L2.start ["self"] vs) H:=by
 obtain ⟨ca,dx,rfl,hca,q⟩:=h
 unfold Bq
 dsimp? [hS,hca]
 exact ⟨rfl,ail hca (.inl rfl) λF' H' a b d=>q F' H' a b d⟩
theorem ahm {H:Hp} {Q:VK} {E:XK} {ca:Addr} {p k:Int} {c:Rc42.Chart} (h:ChI t H ca c) (q1:zh c p k->Q (.bl false) H) (q2:¬zh c p k->Q (.bl true) H):yP t [.ref ca,.int p,.int k] H Q E:=⟨ca,p,k,c,rfl,h,q1,q2⟩
theorem ahc {H:Hp} {Q:VK} {E:XK} {ca:Addr} {s e g:Int} {c:Rc42.Chart} (h:ChI t H ca c) (q1:Tq c s e g->Q (.bl false) H) (q2:¬Tq c s e g->Q (.bl true) H):yU t [.ref ca,.int s,.int e,.int g] H Q E:=⟨ca,s,e,g,c,rfl,h,q1,q2⟩
theorem ago {H:Hp} {x dx a:Addr} {o o':HO} (h:upd (upd H dx o) x o' a=none):H a=none/\a≠x:=by
 have n1:a≠x:=by intro z;subst z;rw [ay] at h;cases h
 have n2:a≠dx:=by intro z;subst z;rw [aq n1,ay] at h;cases h
 rw [aq n1,aq n2] at h
 exact ⟨h,n1⟩
def TM (t:Adr):Sp:=λvs H Q _=>∃ ca p k,vs=[.ref ca,.int p,.int k]/\told t ca (.state p k) H Q
theorem alR {S:Sps} (T:Txt K mg t) (h1:S.gB=yP t) (h2:S.i6=rA t) {vs H Q E} (h:TM t vs H Q E):Aw K t S (fin Q) (L2.start ["self","parent","kind"] vs) H:=by
 obtain ⟨ca,p,k,rfl,F,c,hI,q⟩:=h
 obtain ⟨lb,dx,sl,wl,ss,ws,h,lca,hF⟩:=id hI
 unfold Aw
 simp? [h.at_,h1]
 refine ahm hI.chI (λno=>?_) λyes=>?_
 ·have e:Rc42.build c (.state p k)=(c,Rc42.refused):=if_pos no
  rw [e] at q
  simp?
  exact q F H hI (Nxt.refl F H)
 ·simp? [Bool.true_eq_false,h.at_]
  refine len h.ch.s1 ?_
  simp! [List.length_map,h.ch.s2,h.at_]
  have n2:=h.wf.n2
  by_cases full:c.states.length=64
  ·rw [if_pos (by omega)]
   have e:Rc42.build c (.state p k)=(c,Rc42.full):=(if_neg yes).trans (if_pos (by omega))
   rw [e] at q
   exact q F H hI (Nxt.refl F H)
  ·rw [if_neg (by omega)]
   have e:Rc42.build c (.state p k)=(kG c p.toNat k.toNat,{ value:=(c.states.length:Nat) }):=(if_neg yes).trans (if_neg (by omega))
   rw [e] at q
   have hs:Rc42.isState c p=true:=by cases z:Rc42.isState c p with | true=>rfl | false=>exact absurd (.inl z) yes
   obtain ⟨pn,rfl,hpn⟩:=eK.mp hs
   have k0:0<=k:=by
    rcases Int.lt_or_le k 0 with z | z
    ·exact absurd (.inr (.inl z)) yes
    ·exact z
   obtain ⟨kn,rfl⟩:=Int.eq_ofNat_of_zero_le k0
   simp only [Int.toNat_natCast] at q
   unfold zh at yes
   simp only [Int.toNat_natCast,not_or] at yes
   obtain ⟨_,_,y3,y4,y5,y6⟩:=yes
   have wf':Wf (kG c pn kn):=afb h.wf (by omega) hpn (by omega) (by omega) (λz=>by have:=λw=>y5 ⟨by omega,w⟩;omega) (λz z'=>y6 ⟨by omega,z',by omega⟩)
   refine ⟨tyL h.ch.s1,?_⟩
   rw [h2]
   refine λx dxs hx hdx hne=>⟨x,(pn:Nat),(kn:Nat),dxs,rfl,ay,λH1 co le e1 e2 e3 n1 f1 f2 b1=>?_⟩
   have hco:=ago f1
   have hle:=ago f2
   have sm1:aP H H1:=λb o e=>b1 b o (ao e hx) (by rw [aq (ao e hx),aq (ao e hdx)];exact e)
   simp!
   have sl1:=sm1 _ _ h.ch.s1
   refine app sl1 (by rw [List.length_map,h.ch.s2,sizeLine_eq];omega) ?_
   have ca1:=sm1 _ _ h.at_
   have ca2:upd H1 sl (.lst (ss.map V.ref++[.ref x])) ca=some _:=(aq (fL ca1 sl1 (by simp))).trans ca1
   simp! [ca2]
   refine len ay ?_
   simp! [List.length_append,List.length_map,h.ch.s2]
   have ev:((c.states.length+1:Nat):Int) - 1=(c.states.length:Nat):=by omega
   rw [ev]
   have xsl:x≠sl:=(ao h.ch.s1 hx).symm
   have cosl:co≠sl:=(ao h.ch.s1 hco.1).symm
   have lesl:le≠sl:=(ao h.ch.s1 hle.1).symm
   have xco:x≠co:=fL e1 e2 (by simp)
   have xle:x≠le:=fL e1 e3 (by simp)
   obtain ⟨lb',hlb⟩:∃ lb':Addr->Lb,∀ b,lb' b=if b=x then .st c.states.length else if b=co then .co c.states.length else if b=le then .le c.states.length else lb b:=⟨_,λ_=>rfl⟩
   have lold:∀ b o,H b=some o->lb' b=lb b:=λb o e=>by rw [hlb,if_neg (ao e hx),if_neg (ao e hco.1),if_neg (ao e hle.1)]
   have ch1:=h.ch.same sm1
   refine q (λb=>F b\/H b=none) _ ⟨lb',dx,sl,wl,ss++[x],ws,⟨ca2,wf',?_⟩,by rw [lold _ _ h.at_];exact lca,λb hb=>?_⟩ ⟨λa z=>z,λa o e nF=>?_⟩
   ·have lsl:lb' sl=.sl:=by rw [lold _ _ h.ch.s1];exact h.ch.s4
    refine ⟨by rw [ay];simp,by simp [NZ,h.ch.s2],λi s a g1 g2=>?_,lsl,by rw [aq (qi h.ch.w4 h.ch.s4 (by simp))];exact ch1.w1,h.ch.w2,λj w a g1 g2=>?_,by rw [lold _ _ h.ch.w1];exact h.ch.w4⟩
    ·have g1:(c.states++[⟨pn,kn,none,[],[]⟩])[i]?=some s:=g1
     by_cases hi:i < c.states.length
     ·rw [List.getElem?_append_left hi] at g1
      rw [List.getElem?_append_left (by rw [h.ch.s2];exact hi)] at g2
      exact (((h.ch.s3 i s a g1 g2).Sn lold).same sm1).ZL sl1 lsl (by simp) (by simp)
     ·have i1:i=c.states.length:=by have:=(List.getElem?_eq_some_iff.mp g1).1;simp at this;omega
      subst i1
      rw [List.getElem?_append_right (Nat.le_refl _)] at g1
      rw [List.getElem?_append_right (by rw [h.ch.s2];exact Nat.le_refl _),h.ch.s2] at g2
      simp at g1 g2
      subst g1 g2
      have nz:¬c.states.length=0:=by have:=h.wf.n1;omega
      refine ⟨dxs,co,le,?_,⟨[],by rw [aq cosl];exact e2,rfl,λk a x h=>by simp at h⟩,⟨[],by rw [aq lesl];exact e3,rfl,λk a x h=>by simp at h⟩,?_,?_,?_⟩
      ·rw [aq xsl,e1]
       simp [kN,nz,ko]
      ·rw [hlb,if_pos rfl]
      ·rw [hlb,if_neg (Ne.symm xco),if_pos rfl]
      ·rw [hlb,if_neg (Ne.symm xle),if_neg (Ne.symm n1),if_pos rfl]
    ·exact (((h.ch.w3 j w a g1 g2).Sn lold).same sm1).ZL sl1 lsl (by simp)
   ·rw [hlb] at hb
    by_cases z1:b=x
    ·subst z1;exact .inr hx
    ·by_cases z2:b=co
     ·subst z2;exact .inr hco.1
     ·by_cases z3:b=le
      ·subst z3;exact .inr hle.1
      ·rw [if_neg z1,if_neg z2,if_neg z3] at hb
       exact .inl (hF b hb)
   ·have:a≠sl:=λz=>nF (hF a (by rw [z,h.ch.s4];simp))
    rw [aq this]
    exact sm1 a o e
def OY (t:Adr):Sp:=λvs H Q _=>∃ ca s x,vs=[.ref ca,.int s,.int x]/\told t ca (.begins s x) H Q
theorem aik {x:Int} {l:List Nat}:inV (.int x) (nts l)=true↔0<=x/\x.toNat∈l:=by
 unfold inV nts
 rw [List.any_map,List.any_eq_true]
 constructor
 ·rintro ⟨y,hy,e⟩
  have e:((y:Int)==x)=true:=e
  have e:(y:Int)=x:=by simpa using e
  subst e
  exact ⟨by omega,by simpa using hy⟩
 ·rintro ⟨h0,h⟩
  refine ⟨x.toNat,h,?_⟩
  show (((x.toNat:Nat):Int)==x)=true
  simp;omega
theorem akH (l:List Nat):(nts l).all LP=true:=by
 rw [List.all_eq_true]
 intro v hv
 obtain ⟨x,_,rfl⟩:=List.mem_map.mp hv
 rfl
theorem ai8 {S:Sps} (T:Txt K mg t) (h1:S.bx=jw t) (h2:S.cB=vO t) {vs H Q E} (h:OY t vs H Q E):wB K t S (fin Q) (L2.start ["self","state","part"] vs) H:=by
 obtain ⟨ca,s,x,rfl,F,c,hI,q⟩:=h
 obtain ⟨lb,dx,sl,wl,ss,ws,h,lca,hF⟩:=id hI
 unfold wB
 simp? [h.at_,h1]
 have no:∀ H',aP H H'->((Rc42.isState c s&&Rc42.isState c x)=false\/(c.at_ s.toNat).kind≠0\/(Rc42.parts c s.toNat).contains x.toNat=false)->Q (.int (-1)) H':=λH' sm z=>by
  have e:Rc42.build c (.begins s x)=(c,Rc42.refused):=if_pos z
  rw [e] at q
  exact q F H' ⟨lb,dx,sl,wl,ss,ws,h.same sm,lca,hF⟩ ⟨λ_ h=>.inl h,λa o e _=>sm a o e⟩
 refine kP hI.chI ?_
 cases hs:Rc42.isState c s with
 | false=>simp?;exact no H (aP.refl H) (.inl (by rw [hs];rfl))
 | true=>
  obtain ⟨n,rfl,hn⟩:=eK.mp hs
  obtain ⟨a,e0,e2,ad,aca,ala,st1,st2,st3,l1,l2,l3⟩:=h.ch.st hn
  simp? [Bool.true_eq_false,h.at_]
  refine ix h.ch.s1 rfl e2 ?_
  simp? [st1]
  by_cases kz:(c.at_ n).kind=0
  ·rw [if_neg (by omega)]
   simp? [h.at_,h2]
   refine L4 hI.chI λH1 l sm hl el=>?_
   refine ⟨l,_,rfl,.inl (SqL.of el),rfl,akH _,?_⟩
   simp?
   cases hin:inV (.int x) (nts (Rc42.parts c n)) with
   | false=>
    simp?
    refine no H1 sm ?_
    by_cases hx:Rc42.isState c x=true
    ·refine .inr (.inr ?_)
     obtain ⟨xn,rfl,_⟩:=eK.mp hx
     cases z:(Rc42.parts c n).contains xn with
     | false=>simpa using z
     | true=>
      rw [aik.mpr ⟨by omega,by simpa using z⟩] at hin;cases hin
    ·simp only [Bool.not_eq_true] at hx
     exact .inl (by rw [hx,Bool.and_false])
   | true=>
    obtain ⟨x0,xm⟩:=aik.mp hin
    obtain ⟨xn,rfl⟩:=Int.eq_ofNat_of_zero_le x0
    simp only [Int.toNat_natCast] at xm
    have xl:=(aI.mp xm).1
    have hx:Rc42.isState c xn=true:=eK.mpr ⟨xn,rfl,xl⟩
    have h3:=h.same sm
    simp? [Bool.true_eq_false,h3.at_]
    refine ix h3.ch.s1 rfl e2 ?_
    simp? [sm _ _ st1]
    have e:Rc42.build c (.begins n xn)=(Rc42.setState c n λy=>{ y with begins:=some xn },{ value:=0 }):=by
     refine if_neg ?_
     rw [hs,hx]
     simp only [Int.toNat_natCast,Bool.and_self,Bool.true_eq_false,false_or,not_or]
     exact ⟨λz=>z kz,by simp [xm]⟩
    rw [e] at q
    have atn:=Pd c n λy=>{ y with begins:=some xn }
    have wf':Wf (Rc42.setState c n λy=>{ y with begins:=some xn }):=XA h.wf (iD ..) rfl (λi hi=>by rw [atn i hi];split<;>exact ⟨rfl,rfl⟩)
     (λi hi y hy=>by
      rw [atn i hi] at hy
      split at hy
      ·rename_i z;subst z;simp at hy;subst hy;exact xm
      ·exact h.wf.bg i hi y hy)
     (λi hi=>by rw [atn i hi];split<;>exact h.wf.ac i hi)
    have a1:=sm _ _ st1
    refine q F _ ⟨lb,dx,sl,wl,ss,ws,⟨by rw [aq (qi lca l1 (by simp))];exact h3.at_,wf',?_⟩,lca,hF⟩ ⟨λ_ z=>.inl z,λb o eb nF=>?_⟩
    ·refine ⟨by rw [aq (fL h3.ch.s1 a1 (by simp))];exact h3.ch.s1,by rw [iD];exact h.ch.s2,λi s' a' g1 g2=>?_,h.ch.s4,by rw [aq (fL h3.ch.w1 a1 (by simp))];exact h3.ch.w1,h.ch.w2,λj w a' g1 g2=>(h3.ch.w3 j w a' g1 g2).Rg a1 l1 (by simp),h.ch.w4⟩
     have hi:i < c.states.length:=by have:=(List.getElem?_eq_some_iff.mp g1).1;rwa [iD] at this
     have es:s'=if i=n then { c.at_ i with begins:=some xn } else c.at_ i:=by
      rw [O2 (by rw [iD];exact hi)] at g1
      rw [<-atn i hi]
      exact (Option.some.inj g1).symm
     by_cases z:i=n
     ·subst z
      rw [if_pos rfl] at es
      rw [e0] at g2
      cases g2
      subst es
      refine ⟨ad,aca,ala,by rw [ay];rfl,(st2.same sm).Rg a1,(st3.same sm).Rg a1,l1,l2,l3⟩
     ·rw [if_neg z] at es
      subst es
      exact (h3.ch.s3 i _ a' (O2 hi) g2).Rg a1 l1 (by simpa using z)
    ·have:b≠a:=λz=>nF (hF b (by rw [z,l1];simp))
     rw [aq this];exact sm b o eb
  ·rw [if_pos (by omega)]
   exact no H (aP.refl H) (.inr (.inl kz))
def agC (t:Adr):Sp:=λvs H Q _=>∃ ca s e g,vs=[.ref ca,.int s,.int e,.int g]/\told t ca (.way s e g) H Q
theorem aoT {S:Sps} (T:Txt K mg t) (h1:S.gJ=yU t) (h2:S.wK=GO t) {vs H Q E} (h:agC t vs H Q E):FQ K t S (fin Q) (L2.start ["self","source","event","target"] vs) H:=by
 obtain ⟨ca,s,e,g,rfl,F,c,hI,q⟩:=h
 obtain ⟨lb,dx,sl,wl,ss,ws,h,lca,hF⟩:=id hI
 unfold FQ
 simp! [h.at_,h1]
 refine ahc hI.chI (λno=>?_) λyes=>?_
 ·have e:Rc42.build c (.way s e g)=(c,Rc42.refused):=if_pos no
  rw [e] at q
  simp!
  exact q F H hI (Nxt.refl F H)
 ·simp! [Bool.true_eq_false,h.at_]
  refine len h.ch.w1 ?_
  simp! [List.length_map,h.ch.w2,h.at_]
  have n2:=h.wf.w1
  by_cases full:c.ways.length=256
  ·rw [if_pos (by omega)]
   have e:Rc42.build c (.way s e g)=(c,Rc42.full):=(if_neg yes).trans (if_pos (by omega))
   rw [e] at q
   exact q F H hI (Nxt.refl F H)
  ·rw [if_neg (by omega)]
   have eb:Rc42.build c (.way s e g)=({ c with ways:=c.ways++[⟨s.toNat,e.toNat,0,0,0,if g=-1 then none else some g.toNat,[]⟩] },{ value:=(c.ways.length:Nat) }):=(if_neg yes).trans (if_neg (by omega))
   rw [eb] at q
   unfold Tq at yes
   simp only [not_or] at yes
   obtain ⟨y1,y2,y3,y4,y5,y6,y7⟩:=yes
   have hs:Rc42.isState c s=true:=by simpa using y1
   obtain ⟨sn,rfl,hsn⟩:=eK.mp hs
   have ev:0<=e/\e < 320:=by unfold Rc42.isEvent at y3;simpa using y3
   obtain ⟨en,rfl⟩:=Int.eq_ofNat_of_zero_le ev.1
   have y5:g=-1\/(Rc42.isState c g=true/\g≠0):=Classical.byContradiction λz=>y5 (not_or.mp z)
   simp only [Int.toNat_natCast] at q y4 y6
   obtain ⟨tg,htg⟩:∃ tg:Option Nat,tg=if g=-1 then none else some g.toNat:=⟨_,rfl⟩
   rw [<-htg] at q
   have og:ko tg=g:=by
    rw [htg]
    by_cases z:g=-1
    ·simp [z,ko]
    ·obtain ⟨gn,rfl,_⟩:=eK.mp (y5.resolve_left z).1
     simp [z,ko]
   have wok:nS c ⟨sn,en,0,0,0,tg,[]⟩:=by
    refine ⟨by simp;omega,hsn,y4,by simp;omega,by simp,by simp,λt' ht=>?_,λhk=>?_,by simp,by simp⟩
    ·have ht:tg=some t':=ht
     rw [htg] at ht
     by_cases z:g=-1
     ·simp [z] at ht
     ·obtain ⟨gn,rfl,hgn⟩:=eK.mp (y5.resolve_left z).1
      simp [z] at ht
      subst ht
      exact ⟨by have:=(y5.resolve_left z).2;omega,hgn⟩
    ·have hk:3<=(c.at_ sn).kind:=hk
     have y6:=λz=>y6 ⟨hk,z⟩
     by_cases z:g=-1
     ·exact absurd (.inl z) y6
     ·have z2:=λw=>y6 (.inr (.inl w))
      have z3:=λw=>y6 (.inr (.inr w))
      refine ⟨g.toNat,by show tg=_;rw [htg,if_neg z],?_,by omega⟩
      show Rc42.within c g.toNat (c.at_ sn).parent=true
      cases w:Rc42.within c g.toNat (c.at_ sn).parent with
      | true=>rfl
      | false=>exact absurd w z2
   have wf':Wf { c with ways:=c.ways++[⟨sn,en,0,0,0,tg,[]⟩] }:=ahL h.wf rfl (by simp;omega) λw hw=>by
    rcases List.mem_append.mp hw with hw | hw
    ·exact h.wf.wy w hw
    ·rw [List.mem_singleton.mp hw];exact wok
   refine ⟨tyL h.ch.w1,?_⟩
   rw [h2]
   refine λx dxs hx hdx hne=>⟨x,(sn:Nat),(en:Nat),g,dxs,rfl,ay,λH1 wa e1 e2 f1 b1=>?_⟩
   have hwa:=ago f1
   have sm1:aP H H1:=λb o e=>b1 b o (ao e hx) (by rw [aq (ao e hx),aq (ao e hdx)];exact e)
   simp!
   have wl1:=sm1 _ _ h.ch.w1
   refine app wl1 (by rw [List.length_map,h.ch.w2,sizeLine_eq];omega) ?_
   have ca1:=sm1 _ _ h.at_
   have ca2:upd H1 wl (.lst (ws.map V.ref++[.ref x])) ca=some _:=(aq (fL ca1 wl1 (by simp))).trans ca1
   simp! [ca2]
   refine len ay ?_
   simp! [List.length_append,List.length_map,h.ch.w2]
   have ev:((c.ways.length+1:Nat):Int) - 1=(c.ways.length:Nat):=by omega
   rw [ev]
   have xwl:x≠wl:=(ao h.ch.w1 hx).symm
   have wawl:wa≠wl:=(ao h.ch.w1 hwa.1).symm
   have xwa:x≠wa:=fL e1 e2 (by simp)
   obtain ⟨lb',hlb⟩:∃ lb':Addr->Lb,∀ b,lb' b=if b=x then .wy c.ways.length else if b=wa then .ac c.ways.length else lb b:=⟨_,λ_=>rfl⟩
   have lold:∀ b o,H b=some o->lb' b=lb b:=λb o e=>by rw [hlb,if_neg (ao e hx),if_neg (ao e hwa.1)]
   have ch1:=h.ch.same sm1
   refine q (λb=>F b\/H b=none) _ ⟨lb',dx,sl,wl,ss,ws++[x],⟨ca2,wf',?_⟩,by rw [lold _ _ h.at_];exact lca,λb hb=>?_⟩ ⟨λa z=>z,λa o e nF=>?_⟩
   ·have lwl:lb' wl=.wl:=by rw [lold _ _ h.ch.w1];exact h.ch.w4
    refine ⟨by rw [aq (qi h.ch.s4 h.ch.w4 (by simp))];exact ch1.s1,h.ch.s2,λi s a g1 g2=>?_,by rw [lold _ _ h.ch.s1];exact h.ch.s4,by rw [ay];simp,by simp [h.ch.w2],λj w a g1 g2=>?_,lwl⟩
    ·exact (((h.ch.s3 i s a g1 g2).Sn lold).same sm1).ZL wl1 lwl (by simp) (by simp)
    ·have g1:(c.ways++[⟨sn,en,0,0,0,tg,[]⟩])[j]?=some w:=g1
     by_cases hj:j < c.ways.length
     ·rw [List.getElem?_append_left hj] at g1
      rw [List.getElem?_append_left (by rw [h.ch.w2];exact hj)] at g2
      exact (((h.ch.w3 j w a g1 g2).Sn lold).same sm1).ZL wl1 lwl (by simp)
     ·have i1:j=c.ways.length:=by have:=(List.getElem?_eq_some_iff.mp g1).1;simp at this;omega
      subst i1
      rw [List.getElem?_append_right (Nat.le_refl _)] at g1
      rw [List.getElem?_append_right (by rw [h.ch.w2];exact Nat.le_refl _),h.ch.w2] at g2
      simp at g1 g2
      subst g1 g2
      refine ⟨dxs,wa,?_,⟨[],by rw [aq wawl];exact e2,rfl,λk a x h=>by simp at h⟩,?_,?_⟩
      ·rw [aq xwl,e1]
       simp [og]
      ·rw [hlb,if_pos rfl]
      ·rw [hlb,if_neg (Ne.symm xwa),if_pos rfl]
   ·rw [hlb] at hb
    by_cases z1:b=x
    ·subst z1;exact .inr hx
    ·by_cases z2:b=wa
     ·subst z2;exact .inr hwa.1
     ·rw [if_neg z1,if_neg z2] at hb
      exact .inl (hF b hb)
   ·have:a≠wl:=λz=>nF (hF a (by rw [z,h.ch.w4];simp))
    rw [aq this]
    exact sm1 a o e
theorem XQ {c:Rc42.Chart} (h:Wf c) {j:Nat} {f:Rc42.Way->Rc42.Way} (hf:∀ w,c.ways[j]?=some w->nS c w->nS c (f w)):Wf (Rc42.setWay c j f):=by
 refine ahL h rfl (by rw [Km];exact h.w1) λw hw=>?_
 obtain ⟨i,hi⟩:=List.mem_iff_getElem?.mp hw
 rw [Ks] at hi
 obtain ⟨w0,e0,e1⟩:=Option.map_eq_some_iff.mp hi
 have ok:=h.wy w0 (List.mem_iff_getElem?.mpr ⟨i,e0⟩)
 by_cases z:i=j
 ·subst z
  rw [if_pos rfl] at e1
  rw [<-e1]
  exact hf w0 e0 ok
 ·rw [if_neg z] at e1
  rw [<-e1];exact ok
def S3 (t:Adr):Sp:=λvs H Q _=>∃ ca w a k m,vs=[.ref ca,.int w,.int a,.int k,.int m]/\told t ca (.guard w a k m) H Q
theorem akU {S:Sps} (T:Txt K mg t) (h1:S.dP=wV t) (h2:S.gz=ia) {vs H Q E} (h:S3 t vs H Q E):Ar K t S (fin Q) (L2.start ["self","way","ask","which","much","guarded"] vs) H:=by
 obtain ⟨ca,w,a,k,m,rfl,F,c,hI,q⟩:=h
 obtain ⟨lb,dx,sl,wl,ss,ws,h,lca,hF⟩:=id hI
 unfold Ar
 simp? [h.at_,h1]
 have no:(w < 0\/(c.ways.length:Int)<=w\/a < 0\/3 < a\/k < 0\/15 < k)->Q (.int (-1)) H:=λz=>by
  have e:Rc42.build c (.guard w a k m)=(c,Rc42.refused):=if_pos z
  rw [e] at q
  exact q F H hI (Nxt.refl F H)
 refine XM hI.chI ?_
 by_cases w1:0<=w/\w < (c.ways.length:Int)
 ·obtain ⟨wn,rfl⟩:=Int.eq_ofNat_of_zero_le w1.1
  have hwn:wn < c.ways.length:=by omega
  simp! [w1,decide_true,Bool.true_eq_false,h2,ia,h.at_,not_true_eq_false]
  by_cases a0:0<=a
  ·by_cases a3:a<=3
   ·by_cases k0:0<=k/\k<=15
    ·simp only [a0,a3,k0,and_self,not_true_eq_false,if_false,if_true]
     obtain ⟨an,rfl⟩:=Int.eq_ofNat_of_zero_le a0
     obtain ⟨kn,rfl⟩:=Int.eq_ofNat_of_zero_le k0.1
     obtain ⟨x,e0,e2,ad,wa,st1,st2,l1,l2⟩:=h.ch.wy (List.getElem?_eq_getElem hwn)
     refine ix h.ch.w1 rfl e2 ?_
     simp! [st1,ay]
     have e:Rc42.build c (.guard wn an kn m)=(Rc42.setWay c wn λy=>{ y with ask:=an,which:=kn,much:=m },{ value:=0 }):=by
      refine (if_neg (by omega)).trans ?_
      simp
     rw [e] at q
     have wf':Wf (Rc42.setWay c wn λy=>{ y with ask:=an,which:=kn,much:=m }):=XQ h.wf λw' _ ok=>⟨ok.s0,ok.s1,ok.s2,ok.ev,by simp;omega,by simp;omega,ok.tg,ok.hs,ok.al,ok.ac⟩
     have up:∀ {H:Hp} {p:Addr} {a b d:HO},upd (upd (upd H p a) p b) p d=upd H p d:=λ{H p a b d}=>by funext z;unfold upd;split<;>rfl
     rw [up]
     refine q F _ ⟨lb,dx,sl,wl,ss,ws,⟨by rw [aq (qi lca l1 (by simp))];exact h.at_,wf',?_⟩,lca,hF⟩ ⟨λ_ z=>.inl z,λb o eb nF=>?_⟩
     ·refine ⟨by rw [aq (fL h.ch.s1 st1 (by simp))];exact h.ch.s1,h.ch.s2,λi s' a' g1 g2=>(h.ch.s3 i s' a' g1 g2).Rg st1 l1 (by simp),h.ch.s4,by rw [aq (fL h.ch.w1 st1 (by simp))];exact h.ch.w1,by rw [Km];exact h.ch.w2,λj w a' g1 g2=>?_,h.ch.w4⟩
      rw [Ks] at g1
      obtain ⟨w0,z0,z1⟩:=Option.map_eq_some_iff.mp g1
      by_cases z:j=wn
      ·subst z
       rw [if_pos rfl] at z1
       rw [e0] at g2;cases g2
       rw [List.getElem?_eq_getElem hwn] at z0;cases z0
       subst z1
       exact ⟨ad,wa,ay,st2.Rg st1,l1,l2⟩
      ·rw [if_neg z] at z1
       subst z1
       exact (h.ch.w3 j w0 a' z0 g2).Rg st1 l1 (by simpa using z)
     ·have:b≠x:=λz=>nF (hF b (by rw [z,l1];simp))
      rw [aq this];exact eb
    ·simp only [a0,a3,k0,not_false_eq_true,not_true_eq_false,if_true,if_false]
     exact no (by omega)
   ·simp only [a0,a3,not_false_eq_true,if_true]
    exact no (by omega)
  ·simp only [a0,if_false,if_true]
   exact no (by omega)
 ·simp! [w1,not_false_eq_true]
  exact no (by omega)
theorem OP {H:Hp} {Q:VK} {E:XK} {l:Addr} {as:List Rc42.Act} {k w m:Int} (hA:gG H l as) (hl:as.length<=16) (q1:Rc42.isAct k w=false->Q (.int (-1)) H) (q2:Rc42.isAct k w=true->16<=as.length->Q (.int (-2)) H)
  (q3:Rc42.isAct k w=true->as.length < 16->∀ H',But l H H'->gG H' l (as++[⟨k.toNat,w.toNat,m⟩])->Q (.int 0) H'):u9 [.ref l,.int k,.int w,.int m] H Q E:=⟨l,as,k,w,m,rfl,hA,hl,q1,q2,q3⟩
theorem agd {k w m:Int} (h:Rc42.isAct k w=true) (hm:w32 m):Di ⟨k.toNat,w.toNat,m⟩:=by
 unfold Rc42.isAct at h
 simp at h
 refine ⟨?_,?_,?_,hm.1,hm.2⟩<;>(rcases h with ⟨rfl,h,_⟩ | ⟨h | h,h',_⟩<;>simp<;>omega)
theorem gG.but {H H':Hp} {l p:Addr} {as:List Rc42.Act} {xs:List V} (h:gG H l as) (hp:H p=some (.lst xs)) (ne:l≠p) (b:But p H H'):gG H' l as:=by
 obtain ⟨ts,e1,e2,e3⟩:=h
 exact ⟨ts,b _ _ ne e1,e2,λk a x h1 h2=>by
  have q:=e3 k a x h1 h2
  exact b _ _ (fL q hp (by simp)) q⟩
section
variable {lb:Addr->Lb} {H H':Hp} {p a:Addr} {xs:List V} {i j:Nat} {s:Rc42.State} {w:Rc42.Way}
theorem StR.but (h:StR t lb H a i s) (hp:H p=some (.lst xs)) {v:Lb} (hv:lb p=v) (n1:Lb.co i≠v) (n2:Lb.le i≠v) (b:But p H H'):StR t lb H' a i s:=by
 obtain ⟨dx,ca,la,e1,e2,e3,e4,e5,e6⟩:=h
 exact ⟨dx,ca,la,b _ _ (fL e1 hp (by simp)) e1,e2.but hp (qi e5 hv n1) b,e3.but hp (qi e6 hv n2) b,e4,e5,e6⟩
theorem WyR.but (h:WyR t lb H a j w) (hp:H p=some (.lst xs)) {v:Lb} (hv:lb p=v) (n1:Lb.ac j≠v) (b:But p H H'):WyR t lb H' a j w:=by
 obtain ⟨dx,wa,e1,e2,e3,e4⟩:=h
 exact ⟨dx,wa,b _ _ (fL e1 hp (by simp)) e1,e2.but hp (qi e4 hv n1) b,e3,e4⟩
end
def agg (t:Adr):Sp:=λvs H Q _=>∃ ca w k x m,vs=[.ref ca,.int w,.int k,.int x,.int m]/\w32 m/\told t ca (.act w k x m) H Q
theorem anW {S:Sps} (T:Txt K mg t) (h1:S.dP=wV t) (h2:S.rD=u9) {vs H Q E} (h:agg t vs H Q E):GG K t S (fin Q) (L2.start ["self","way","kind","which","much"] vs) H:=by
 obtain ⟨ca,w,k,x,m,rfl,hm,F,c,hI,q⟩:=h
 obtain ⟨lb,dx,sl,wl,ss,ws,h,lca,hF⟩:=id hI
 unfold GG
 simp? [h.at_,h1,h2]
 have no:(w < 0\/(c.ways.length:Int)<=w\/Rc42.isAct k x=false)->Q (.int (-1)) H:=λz=>by
  have e:Rc42.build c (.act w k x m)=(c,Rc42.refused):=if_pos z
  rw [e] at q
  exact q F H hI (Nxt.refl F H)
 refine XM hI.chI ?_
 by_cases w1:0<=w/\w < (c.ways.length:Int)
 ·obtain ⟨wn,rfl⟩:=Int.eq_ofNat_of_zero_le w1.1
  have hwn:wn < c.ways.length:=by omega
  simp? [w1,not_true_eq_false,h.at_]
  obtain ⟨p,e0,e2,ad,wa,st1,st2,l1,l2⟩:=h.ch.wy (List.getElem?_eq_getElem hwn)
  refine ix h.ch.w1 rfl e2 ?_
  simp? [st1]
  have ok:=h.wf.wy _ (List.getElem_mem hwn)
  have ew:((c.ways[wn]?).map λy=>y.acts.length).getD 0=(c.ways[wn]).acts.length:=by rw [List.getElem?_eq_getElem hwn];rfl
  refine OP st2 ok.al (λz=>no (.inr (.inr z))) (λz1 z2=>?_) λz1 z2 H' b hA=>?_
  ·have e:Rc42.build c (.act wn k x m)=(c,Rc42.full):=(if_neg (by rw [z1];simp;omega)).trans (if_pos (by rw [Int.toNat_natCast,ew];exact z2))
   rw [e] at q
   exact q F H hI (Nxt.refl F H)
  ·have e:Rc42.build c (.act wn k x m)=(Rc42.setWay c wn λy=>{ y with acts:=y.acts++[⟨k.toNat,x.toNat,m⟩] },{ value:=0 }):=(if_neg (by rw [z1];simp;omega)).trans (if_neg (by rw [Int.toNat_natCast,ew];omega))
   rw [e] at q
   have wf':Wf (Rc42.setWay c wn λy=>{ y with acts:=y.acts++[⟨k.toNat,x.toNat,m⟩] }):=XQ h.wf λw' ew ok'=>by
    rw [List.getElem?_eq_getElem hwn] at ew;cases ew
    refine ⟨ok'.s0,ok'.s1,ok'.s2,ok'.ev,ok'.ak,ok'.wh,ok'.tg,ok'.hs,by simp;omega,λa ha=>?_⟩
    rcases List.mem_append.mp ha with ha | ha
    ·exact ok'.ac a ha
    ·rw [List.mem_singleton.mp ha];exact agd z1 hm
   obtain ⟨ys,hwa⟩:=st2.is
   refine q F _ ⟨lb,dx,sl,wl,ss,ws,⟨b _ _ (fL h.at_ hwa (by simp)) h.at_,wf',?_⟩,lca,hF⟩ ⟨λ_ z=>.inl z,λa' o eb nF=>b _ _ (λz=>nF (hF a' (by rw [z,l2];simp))) eb⟩
   refine ⟨b _ _ (qi h.ch.s4 l2 (by simp)) h.ch.s1,h.ch.s2,λi s' a' g1 g2=>(h.ch.s3 i s' a' g1 g2).but hwa l2 (by simp) (by simp) b,h.ch.s4,b _ _ (qi h.ch.w4 l2 (by simp)) h.ch.w1,by rw [Km];exact h.ch.w2,λj w a' g1 g2=>?_,h.ch.w4⟩
   rw [Ks] at g1
   obtain ⟨w0,z0,z1⟩:=Option.map_eq_some_iff.mp g1
   by_cases z:j=wn
   ·subst z
    rw [if_pos rfl] at z1
    rw [e0] at g2;cases g2
    rw [List.getElem?_eq_getElem hwn] at z0;cases z0
    subst z1
    exact ⟨ad,wa,b _ _ (fL st1 hwa (by simp)) st1,hA,l1,l2⟩
   ·rw [if_neg z] at z1
    subst z1
    exact (h.ch.w3 j w0 a' z0 g2).but hwa l2 (by simpa using z) b
 ·simp? [w1,not_false_eq_true]
  exact no (by omega)
def akR (t:Adr):Sp:=λvs H Q _=>∃ ca s l k x m,vs=[.ref ca,.int s,.int l,.int k,.int x,.int m]/\w32 m/\told t ca (.onState s l k x m) H Q
theorem apf {S:Sps} (T:Txt K mg t) (h1:S.bx=jw t) (h2:S.rD=u9) (h3:S.aL=cV t) {vs H Q E} (h:akR t vs H Q E):Kg K t S (fin Q) (L2.start ["self","state","leaving","kind","which","much","one","acts"] vs) H:=by
 obtain ⟨ca,s,l,k,x,m,rfl,hm,F,c,hI,q⟩:=h
 obtain ⟨lb,dx,sl,wl,ss,ws,h,lca,hF⟩:=id hI
 unfold Kg
 simp? [h.at_,h1,h2,h3]
 have no:(Rc42.isState c s=false\/s=0\/3<=(c.at_ s.toNat).kind\/Rc42.isAct k x=false)->Q (.int (-1)) H:=λz=>by
  have e:Rc42.build c (.onState s l k x m)=(c,Rc42.refused):=if_pos z
  rw [e] at q
  exact q F H hI (Nxt.refl F H)
 by_cases s0:s=0
 ·rw [if_pos s0];exact no (.inr (.inl s0))
 rw [if_neg s0]
 refine kP hI.chI ?_
 cases hs:Rc42.isState c s with
 | false=>simp?;exact no (.inl hs)
 | true=>
 obtain ⟨n,rfl,hn⟩:=eK.mp hs
 obtain ⟨p,e0,e2,ad,aca,ala,st1,st2,st3,l1,l2,l3⟩:=h.ch.st hn
 have kd:=h.wf.kd n hn
 have ac:=h.wf.ac n hn
 simp? [Bool.true_eq_false,h.at_]
 refine ix h.ch.s1 rfl e2 ?_
 simp? [st1]
 refine HC st1 kd ?_
 simp! [h.at_]
 by_cases a3:3<=(c.at_ n).kind
 ·rw [if_pos a3];exact no (.inr (.inr (.inl (by simpa using a3))))
 rw [if_neg a3]
 refine ix h.ch.s1 rfl e2 ?_
 simp! [st1]
 have no2:¬(Rc42.isState c n=false\/(n:Int)=0\/3<=(c.at_ (n:Int).toNat).kind\/Rc42.isAct k x=false)↔Rc42.isAct k x=true:=by
  constructor
  ·intro z
   cases w:Rc42.isAct k x with
   | true=>rfl
   | false=>exact absurd (.inr (.inr (.inr w))) z
  ·rintro z (a | a | a | a)
   ·rw [hs] at a;cases a
   ·exact s0 a
   ·exact a3 (by simpa using a)
   ·rw [z] at a;cases a
 have fin4:∀ (f:Rc42.State->Rc42.State) (qa:Addr),(∃ ys,H qa=some (.lst ys))->(lb qa=.co n\/lb qa=.le n)->(∀ s,(f s).parent=s.parent/\(f s).kind=s.kind/\(f s).begins=s.begins) ->
   ((f (c.at_ n)).come.length<=16/\(f (c.at_ n)).leave.length<=16/\(∀ a∈(f (c.at_ n)).come,Di a)/\∀ a∈(f (c.at_ n)).leave,Di a)->Rc42.build c (.onState n l k x m)=(Rc42.setState c n f,{ value:=0 }) ->
   ∀ H',But qa H H'->gG H' aca (f (c.at_ n)).come->gG H' ala (f (c.at_ n)).leave->Q (.int 0) H':=λf qa hq lq hf hac eb H' b hA1 hA2=>by
  rw [eb] at q
  obtain ⟨ys,hq⟩:=hq
  have atn:=Pd c n f
  have wf':Wf (Rc42.setState c n f):=XA h.wf (iD ..) rfl (λi hi=>by rw [atn i hi];split;exact ⟨(hf _).1,(hf _).2.1⟩;exact ⟨rfl,rfl⟩)
   (λi hi y hy=>by
    rw [atn i hi] at hy
    split at hy
    ·rw [(hf _).2.2] at hy;exact h.wf.bg i hi y hy
    ·exact h.wf.bg i hi y hy)
   (λi hi=>by
    rw [atn i hi];split
    ·rename_i z;subst z;exact hac
    ·exact h.wf.ac i hi)
  have nq:lb qa≠.no:=by rcases lq with z | z<;>rw [z]<;>simp
  have nql:∀ v,v≠.co n->v≠.le n->∀ y,lb y=v->y≠qa:=λv v1 v2 y hy=>by rcases lq with z | z;exact qi hy z v1;exact qi hy z v2
  refine q F _ ⟨lb,dx,sl,wl,ss,ws,⟨b _ _ (fL h.at_ hq (by simp)) h.at_,wf',?_⟩,lca,hF⟩ ⟨λ_ z=>.inl z,λa' o e nF=>b _ _ (λz=>nF (hF a' (by rw [z];exact nq))) e⟩
  refine ⟨b _ _ (nql _ (by simp) (by simp) _ h.ch.s4) h.ch.s1,by rw [iD];exact h.ch.s2,λi s' a' g1 g2=>?_,h.ch.s4,b _ _ (nql _ (by simp) (by simp) _ h.ch.w4) h.ch.w1,h.ch.w2,λj w a' g1 g2=>?_,h.ch.w4⟩
  ·have hi:i < c.states.length:=by have:=(List.getElem?_eq_some_iff.mp g1).1;rwa [iD] at this
   have es:s'=if i=n then f (c.at_ i) else c.at_ i:=by
    rw [O2 (by rw [iD];exact hi)] at g1
    rw [<-atn i hi]
    exact (Option.some.inj g1).symm
   by_cases z:i=n
   ·subst z
    rw [if_pos rfl] at es
    rw [e0] at g2;cases g2
    subst es
    refine ⟨ad,aca,ala,?_,hA1,hA2,l1,l2,l3⟩
    have:=b _ _ (fL st1 hq (by simp)) st1
    rw [this]
    simp [kN,hf]
   ·rw [if_neg z] at es
    subst es
    rcases lq with y | y
    ·exact (h.ch.s3 i _ a' (O2 hi) g2).but hq y (by simpa using z) (by simp) b
    ·exact (h.ch.s3 i _ a' (O2 hi) g2).but hq y (by simp) (by simpa using z) b
  ·rcases lq with y | y
   ·exact (h.ch.w3 j w a' g1 g2).but hq y (by simp) b
   ·exact (h.ch.w3 j w a' g1 g2).but hq y (by simp) b
 have ok3:∀ {as:List Rc42.Act},(∀ a∈as,Di a)->Rc42.isAct k x=true->∀ a∈as++[⟨k.toNat,x.toNat,m⟩],Di a:=λha z a hm'=>by
  rcases List.mem_append.mp hm' with h' | h'
  ·exact ha a h'
  ·rw [List.mem_singleton.mp h'];exact agd z hm
 by_cases l0:l=0
 ·rw [if_pos l0]
  refine OP st2 ac.1 (λz=>no (.inr (.inr (.inr z)))) (λz1 z2=>?_) λz1 z2 H' b hA=>?_
  ·have e:Rc42.build c (.onState n l k x m)=(c,Rc42.full):=(if_neg (no2.mpr z1)).trans (if_pos (by rw [if_pos l0,Int.toNat_natCast];exact z2))
   rw [e] at q
   exact q F H hI (Nxt.refl F H)
  ·obtain ⟨ys,hy⟩:=st2.is
   refine fin4 (λy=>{ y with come:=y.come++[⟨k.toNat,x.toNat,m⟩] }) aca ⟨ys,hy⟩ (.inl l2) (λs=>⟨rfl,rfl,rfl⟩) ⟨by simp;omega,ac.2.1,ok3 ac.2.2.1 z1,ac.2.2.2⟩ ?_ H' b hA (st3.but hy (qi l3 l2 (by simp)) b)
   refine (if_neg (no2.mpr z1)).trans ((if_neg (by rw [if_pos l0,Int.toNat_natCast];omega)).trans ?_)
   simp [l0]
 ·rw [if_neg l0]
  refine OP st3 ac.2.1 (λz=>no (.inr (.inr (.inr z)))) (λz1 z2=>?_) λz1 z2 H' b hA=>?_
  ·have e:Rc42.build c (.onState n l k x m)=(c,Rc42.full):=(if_neg (no2.mpr z1)).trans (if_pos (by rw [if_neg l0,Int.toNat_natCast];exact z2))
   rw [e] at q
   exact q F H hI (Nxt.refl F H)
  ·obtain ⟨ys,hy⟩:=st3.is
   refine fin4 (λy=>{ y with leave:=y.leave++[⟨k.toNat,x.toNat,m⟩] }) ala ⟨ys,hy⟩ (.inr l3) (λs=>⟨rfl,rfl,rfl⟩) ⟨ac.1,by simp;omega,ac.2.2.1,ok3 ac.2.2.2 z1⟩ ?_ H' b (st2.but hy (qi l2 l3 (by simp)) b) hA
   refine (if_neg (no2.mpr z1)).trans ((if_neg (by rw [if_neg l0,Int.toNat_natCast];omega)).trans ?_)
   simp [l0]
theorem wM:∀ {l m:List Nat},l.Pairwise (· < ·)->m.Pairwise (· < ·)->(∀ x,x∈l↔x∈m)->l=m
 | [],[],_,_,_=>rfl
 | [],b::m,_,_,h=>absurd ((h b).mpr (List.mem_cons_self ..)) (by simp)
 | a::l,[],_,_,h=>absurd ((h a).mp (List.mem_cons_self ..)) (by simp)
 | a::l,b::m,h1,h2,h=>by
  obtain ⟨p1,p2⟩:=List.pairwise_cons.mp h1
  obtain ⟨q1,q2⟩:=List.pairwise_cons.mp h2
  have e:a=b:=by
   rcases List.mem_cons.mp ((h a).mp (List.mem_cons_self ..)) with z | z
   ·exact z
   ·rcases List.mem_cons.mp ((h b).mpr (List.mem_cons_self ..)) with y | y
    ·exact y.symm
    ·have:=q1 a z;have:=p1 b y;omega
  subst e
  rw [wM p2 q2 λx=>?_]
  constructor
  ·intro hx
   rcases List.mem_cons.mp ((h x).mp (List.mem_cons_of_mem _ hx)) with z | z
   ·have:=p1 x hx;omega
   ·exact z
  ·intro hx
   rcases List.mem_cons.mp ((h x).mpr (List.mem_cons_of_mem _ hx)) with z | z
   ·have:=q1 x hx;omega
   ·exact z
open Classical in
noncomputable def el (P:Nat->Prop):List Nat:=(List.range 64).filter λi=>decide (P i)
theorem qA {P:Nat->Prop} {i:Nat}:i∈el P↔i < 64/\P i:=by
 unfold el;simp [List.mem_filter]
theorem uF (P:Nat->Prop):(el P).Pairwise (· < ·):=List.Pairwise.filter _ List.pairwise_lt_range
theorem anV {P Q:Nat->Prop} (h:∀ i,i < 64->(P i↔Q i)):el P=el Q:=wM (uF P) (uF Q) λx=>by
 rw [qA,qA]
 exact ⟨λ⟨a,b⟩=>⟨a,(h x a).mp b⟩,λ⟨a,b⟩=>⟨a,(h x a).mpr b⟩⟩
theorem ahA {P:Nat->Prop} {l:List Nat} (h:l.Pairwise (· < ·)) (e:∀ x,x∈l↔x < 64/\P x):el P=l:=wM (uF P) h λx=>by rw [qA,e]
theorem amg {P:Nat->Prop} {m k:Nat} (hk:k < 64) (hm:m<=k) (pk:P k) (no:∀ i,m<=i->i < k->¬P i):el (λi=>P i/\i < k+1)=el (λi=>P i/\i < m)++[k]:=by
 refine ahA ?_ λx=>?_
 ·rw [List.pairwise_append]
  refine ⟨uF _,by simp,λa ha b hb=>?_⟩
  have:=(qA.mp ha).2.2
  simp at hb
  omega
 ·rw [List.mem_append,qA,List.mem_singleton]
  constructor
  ·rintro (⟨a,b,d⟩ | rfl)
   ·exact ⟨a,b,by omega⟩
   ·exact ⟨hk,pk,by omega⟩
  ·rintro ⟨a,b,d⟩
   by_cases e:x=k
   ·exact .inr e
   ·refine .inl ⟨a,b,?_⟩
    rcases Nat.lt_or_ge x m with z | z
    ·exact z
    ·exact absurd b (no x z (by omega))
theorem J9 (P:Nat->Prop):(el P).length<=64:=by
 have:(el P).length<=_:=List.length_filter_le _ (List.range 64)
 rwa [List.length_range] at this
def gP:Sp:=λvs H Q _=>∃ s:Nat,vs=[.int s]/\s < 64/\Q (.int (M λi=>i=s)) H
theorem amm {S:Sps} {vs H Q E} (h:gP vs H Q E):agI K t S (fin Q) (L2.start ["state"] vs) H:=by
 obtain ⟨s,rfl,hs,q⟩:=h
 unfold agI
 dsimp? [anQ]
 refine ⟨by omega,by omega,by decide,?_⟩
 rw [Int.toNat_natCast,aph hs]
 exact q
theorem j5 {H:Hp} {Q:VK} {E:XK} {s:Nat} (hs:s < 64) (q:Q (.int (M λi=>i=s)) H):gP [.int s] H Q E:=⟨s,rfl,hs,q⟩
def xX:Sp:=λvs H Q _=>∃ l xs,vs=[.ref l]/\H l=some (.lst (nts xs))/\(∀ x∈xs,x < 64)/\Q (.int (M λi=>i∈xs)) H
theorem aeB {S:Sps} (hS:S.mark=gP) {vs H Q E} (h:xX vs H Q E):Lj K t S (fin Q) (L2.start ["states","found","state"] vs) H:=by
 obtain ⟨l,xs,rfl,hl,hx,q⟩:=h
 unfold Lj
 dsimp? [hS]
 refine ⟨⟨_,SqL.of hl⟩,?_⟩
 obtain ⟨Pv,hP⟩:∃ Pv:Nat->St->Hp->Prop,∀ i σ H1,Pv i σ H1↔H1=H/\∃ v,σ=[some (.ref l),some (.int (M λj=>j∈xs.take i)),v]:=⟨_,λ_ _ _=>Iff.rfl⟩
 refine jL (xs:=nts xs) Pv ((hP _ _ _).mpr ⟨rfl,none,by simp [wk]⟩) (λi σ H1 _ p=>by rw [((hP _ _ _).mp p).1];exact hl) ?_ ?_
 ·intro i x σ H1 hx' hp
  obtain ⟨rfl,v,rfl⟩:=(hP _ _ _).mp hp
  unfold nts at hx'
  rw [List.getElem?_map] at hx'
  obtain ⟨y,ey,rfl⟩:=Option.map_eq_some_iff.mp hx'
  dsimp?
  refine j5 (hx y (List.mem_of_getElem? ey)) ?_
  dsimp?
  refine (hP _ _ _).mpr ⟨rfl,some (.int y),?_⟩
  rw [Sg]
  have e:M (λj=>j∈xs.take i\/j=y)=M (λj=>j∈xs.take (i+1)):=fD λj _=>by
   rw [List.take_add_one,ey];simp
  rw [e]
 ·intro σ H1 hp
  obtain ⟨rfl,v,rfl⟩:=(hP _ _ _).mp hp
  dsimp?
  have e:(nts xs).length=xs.length:=by unfold nts;simp
  rw [e,List.take_length]
  exact q
theorem K1 {H:Hp} {Q:VK} {E:XK} {l:Addr} {xs:List Nat} (hl:H l=some (.lst (nts xs))) (hx:∀ x∈xs,x < 64) (q:Q (.int (M λi=>i∈xs)) H):xX [.ref l] H Q E:=⟨l,xs,rfl,hl,hx,q⟩
def qQ:Sp:=λvs H Q _=>∃ P,vs=[.int (M P)]/\∀ H' l,aP H H'->H l=none->H' l=some (.lst (nts (el P)))->Q (.ref l) H'
theorem LM {H:Hp} {Q:VK} {E:XK} {P:Nat->Prop} (q:∀ H' l,aP H H'->H l=none->H' l=some (.lst (nts (el P)))->Q (.ref l) H'):qQ [.int (M P)] H Q E:=⟨P,rfl,q⟩
theorem ajl {S:Sps} {vs H Q E} (h:qQ vs H Q E):U3 K t S (fin Q) (L2.start ["found","states","rest","least"] vs) H:=by
 obtain ⟨P,rfl,q⟩:=h
 unfold U3
 dsimp!
 refine ⟨Nat.zero_le _,λl hl=>?_⟩
 obtain ⟨W,hW⟩:∃ W:Nat->St->Hp->Prop,∀ n σ H1,W n σ H1↔aP H H1/\∃ m v,m<=64/\n=64 - m/\H1 l=some (.lst (nts (el λi=>P i/\i < m)))/\σ=[some (.int (M P)),some (.ref l),some (.int (M λi=>P i/\m<=i)),v]:=⟨_,λ_ _ _=>Iff.rfl⟩
 refine ⟨W,⟨64,(hW _ _ _).mpr ⟨aT hl,0,none,by omega,rfl,?_,?_⟩⟩,?_⟩
 ·rw [ay]
  have e:el (λi=>P i/\i < 0)=[]:=ahA List.Pairwise.nil λx=>by simp
  rw [e];rfl
 ·have e:M (λi=>P i/\0<=i)=M P:=fD λi _=>by simp
  rw [e]
 ·intro n σ H1 hw
  obtain ⟨sm,m,v,hm,rfl,hl1,rfl⟩:=(hW _ _ _).mp hw
  dsimp?
  by_cases z:M (λi=>P i/\m<=i)=0
  ·dsimp? [z,not_true_eq_false]
   have e:el (λi=>P i/\i < m)=el P:=anV λi hi=>by
    have:=lY.mp z i hi
    constructor
    ·exact λw=>w.1
    ·intro w
     refine ⟨w,?_⟩
     rcases Nat.lt_or_ge i m with y | y
     ·exact y
     ·exact absurd ⟨w,y⟩ this
   rw [e] at hl1
   exact q H1 l sm hl hl1
  ·dsimp! [z,not_false_eq_true]
   refine ⟨_,λ_ _ w=>w,?_⟩
   obtain ⟨k,k1,k2,k3,k4,k5,k6⟩:=ahE z
   refine ⟨tyL hl1,?_⟩
   rw [k4,k5]
   refine app hl1 (by unfold nts;rw [List.length_map,sizeLine_eq];have:=J9 (λi=>P i/\i < m);omega) ?_
   rw [k6]
   have e1:el (λi=>P i/\i < k+1)=el (λi=>P i/\i < m)++[k]:=amg k1 k2.2 k2.1 λi a b p=>k3 i b ⟨p,a⟩
   refine ⟨64 - (k+1),?_,(hW _ _ _).mpr ⟨λb o e=>?_,k+1,some (.int (M λi=>i=k)),by omega,rfl,?_,?_⟩⟩
   ·have:=k2.2;omega
   ·rw [aq (ao e hl)];exact sm b o e
   ·rw [ay,e1];unfold nts;simp
   ·have e2:M (λi=>(P i/\m<=i)/\i≠k)=M (λi=>P i/\k+1<=i):=fD λi _=>by
     constructor
     ·rintro ⟨⟨a,b⟩,d⟩
      refine ⟨a,?_⟩
      rcases Nat.lt_or_ge i (k+1) with y | y
      ·exact absurd ⟨a,b⟩ (k3 i (by omega))
      ·exact y
     ·rintro ⟨a,b⟩;exact ⟨⟨a,by have:=k2.2;omega⟩,by omega⟩
    rw [e2]
noncomputable def msk (n:Nat) (P:Nat->Nat->Prop):List V:=(List.range n).map λs=>V.int (M (P s))
theorem gO {n s:Nat} {P:Nat->Nat->Prop} (h:s < n):(msk n P)[s]?=some (.int (M (P s))):=by
 unfold msk;rw [List.getElem?_map,List.getElem?_range h];rfl
theorem yi {n:Nat} {P:Nat->Nat->Prop}:(msk n P).length=n:=by unfold msk;simp
theorem Ip {n:Nat} {P Q:Nat->Nat->Prop} (h:∀ s,s < n->∀ i,i < 64->(P s i↔Q s i)):msk n P=msk n Q:=by
 unfold msk
 refine List.map_congr_left λs hs=>?_
 rw [fD (h s (List.mem_range.mp hs))]
theorem SK {n:Nat} {P:Nat->Nat->Prop}:msk (n+1) P=msk n P++[.int (M (P n))]:=by unfold msk;rw [List.range_succ,List.map_append];rfl
theorem aiJ (xs:List V):Ox xs (some 1) none=xs.drop 1:=by
 unfold Ox HT.sIx
 simp
 cases xs with
 | nil=>rfl
 | cons a r=>simp
def aeS (t:Adr) (H:Hp) (sl:Addr) (c:Rc42.Chart):Prop:=∃ lb wl ss ws,ChL t lb H sl wl ss ws c/\Wf c
theorem aeS.same {H H':Hp} {sl:Addr} {c:Rc42.Chart} (h:aeS t H sl c) (e:aP H H'):aeS t H' sl c:=let ⟨lb,wl,ss,ws,h,w⟩:=h;⟨lb,wl,ss,ws,h.same e,w⟩
def mH (t:Adr):Sp:=λvs H Q _=>∃ sl c,vs=[.ref sl]/\aeS t H sl c/\∀ H' l,aP H H'->H l=none->H' l=some (.lst (msk c.states.length λs i=>Rc42.within c s i=true))->Q (.ref l) H'
theorem Rk {S:Sps} (T:Txt K mg t) (hS:S.mark=gP) {vs H Q E} (h:mH t vs H Q E):wO K t S (fin Q) (L2.start ["states","around","one"] vs) H:=by
 obtain ⟨sl,c,rfl,⟨lb,wl,ss,ws,h,wf⟩,q⟩:=h
 unfold wO
 simp! [hS]
 refine ⟨by decide,λl hl=>?_⟩
 have s1:=aT (o:=.lst [.int 0]) hl
 refine ⟨sl,ss.map V.ref,rfl,SqL.of (s1 _ _ h.s1),λp hp=>?_⟩
 rw [aiJ]
 have s2:=s1.trans (aT (o:=.lst ((ss.map V.ref).drop 1)) hp)
 have nlp:l≠p:=by intro z;subst z;rw [ay] at hp;cases hp
 simp?
 refine ⟨⟨_,SqL.of ay⟩,?_⟩
 have n1:=wf.n1
 have n2:=wf.n2
 obtain ⟨Pv,hP⟩:∃ Pv:Nat->St->Hp->Prop,∀ i σ H1,Pv i σ H1↔aP H H1/\H1 p=some (.lst ((ss.map V.ref).drop 1))/\H1 l=some (.lst (msk (i+1) λs i=>Rc42.within c s i=true))/\∃ v,σ=[some (.ref sl),some (.ref l),v]:=⟨_,λ_ _ _=>Iff.rfl⟩
 refine jL (xs:=(ss.map V.ref).drop 1) Pv ((hP _ _ _).mpr ⟨s2,ay,?_,_,rfl⟩) (λi σ H1 _ p=>((hP _ _ _).mp p).2.1) ?_ ?_
 ·rw [aq nlp,ay]
  have e:M (λi=>Rc42.within c 0 i=true)=0:=by
   rw [<-wk]
   refine fD λi _=>?_
   rw [aH wf (by omega)];simp
  show some (HO.lst [V.int 0])=some (HO.lst (msk 1 _))
  unfold msk
  simp [e]
 ·intro i x σ H1 hx hp1
  obtain ⟨p1,p2,p3,v,rfl⟩:=(hP _ _ _).mp hp1
  rw [List.getElem?_drop] at hx
  have hi:1+i < c.states.length:=by rw [<-h.s2];have:=(List.getElem?_eq_some_iff.mp hx).1;simpa using this
  obtain ⟨a,_,e2,ad,aca,ala,st1,_⟩:=h.st hi
  rw [e2] at hx;cases hx
  have pa:=(wf.par (1+i) (by omega) hi).1
  have pe:kN (1+i) (c.at_ (1+i))=((c.at_ (1+i)).parent:Nat):=by unfold kN;rw [if_neg (by omega)]
  simp? [p1 _ _ st1,pe]
  refine ⟨tyL p3,ix p3 rfl (gO (by omega)) ?_⟩
  simp? [p1 _ _ st1,pe]
  refine j5 (by omega) ?_
  simp?
  refine app p3 (by rw [yi,sizeLine_eq];omega) ((hP _ _ _).mpr ⟨λb o e=>?_,?_,?_,_,rfl⟩)
  ·rw [aq (ao e hl)];exact p1 b o e
  ·rw [aq (Ne.symm nlp)];exact p2
  ·rw [ay,SK (n:=i+1),Sg]
   have e:M (λj=>Rc42.within c (c.at_ (1+i)).parent j=true\/j=(c.at_ (1+i)).parent)=M (λj=>Rc42.within c (i+1) j=true):=fD λj _=>by
    rw [aH wf (s:=i+1) (by omega),Nat.add_comm i 1]
    constructor
    ·rintro (z | z)
     ·exact ⟨by omega,.inr z⟩
     ·exact ⟨by omega,.inl z.symm⟩
    ·rintro ⟨_,z | z⟩
     ·exact .inr z.symm
     ·exact .inl z
   rw [e]
 ·intro σ H1 hp1
  obtain ⟨p1,p2,p3,v,rfl⟩:=(hP _ _ _).mp hp1
  simp?
  refine q H1 l p1 hl ?_
  rw [p3]
  have e:((ss.map V.ref).drop 1).length+1=c.states.length:=by simp [h.s2];omega
  rw [e]
theorem Vn {H:Hp} {Q:VK} {E:XK} {sl:Addr} {c:Rc42.Chart} (h:aeS t H sl c) (q:∀ H' l,aP H H'->H l=none->H' l=some (.lst (msk c.states.length λs i=>Rc42.within c s i=true))->Q (.ref l) H'):mH t [.ref sl] H Q E:=⟨sl,c,rfl,h,q⟩
def qc (t:Adr):Sp:=λvs H Q _=>∃ sl c,vs=[.ref sl]/\aeS t H sl c/\∀ H' l,aP H H'->H l=none->H' l=some (.lst (msk c.states.length λs i=>i < c.states.length/\Rc42.within c i s=true))->Q (.ref l) H'
theorem VR {H:Hp} {Q:VK} {E:XK} {sl:Addr} {c:Rc42.Chart} (h:aeS t H sl c) (q:∀ H' l,aP H H'->H l=none->H' l=some (.lst (msk c.states.length λs i=>i < c.states.length/\Rc42.within c i s=true))->Q (.ref l) H'):qc t [.ref sl] H Q E:=⟨sl,c,rfl,h,q⟩
def inK (c:Rc42.Chart) (m s i:Nat):Prop:=i < c.states.length/\∃ k,m<=k/\k < c.states.length/\k≠0/\(c.at_ k).parent=s/\(i=k\/Rc42.within c i k=true)
theorem ahG {c:Rc42.Chart} (wf:Wf c) {s i:Nat} (m:Nat) (hm:m<=s+1):inK c m s i↔i < c.states.length/\Rc42.within c i s=true:=by
 unfold inK
 constructor
 ·rintro ⟨hi,k,_,hk,k0,e,z⟩
  have ks:Rc42.within c k s=true:=(aH wf hk).mpr ⟨k0,.inl e⟩
  refine ⟨hi,?_⟩
  rcases z with rfl | z
  ·exact ks
  ·exact bB wf hi z ks
 ·rintro ⟨hi,w⟩
  refine ⟨hi,?_⟩
  induction i using Nat.strongRecOn with
  | ind i ih=>
   obtain ⟨i0,z⟩:=(aH wf hi).mp w
   have pa:=(wf.par i (by omega) hi).1
   rcases z with z | z
   ·exact ⟨i,by omega,hi,i0,z,.inl rfl⟩
   ·obtain ⟨k,k1,k2,k3,k4,k5⟩:=ih _ pa (by omega) z
    refine ⟨k,k1,k2,k3,k4,.inr ((aH wf hi).mpr ⟨i0,?_⟩)⟩
    rcases k5 with k5 | k5
    ·exact .inl k5
    ·exact .inr k5
theorem aim {n s:Nat} {P Q:Nat->Nat->Prop} (hs:s < n) (h:∀ r,r < n->r≠s->∀ i,i < 64->(P r i↔Q r i)):(msk n P).set s (.int (M (Q s)))=msk n Q:=by
 apply List.ext_getElem?
 intro r
 by_cases hr:r < n
 ·by_cases e:s=r
  ·subst e
   rw [List.getElem?_set_self (by rw [yi];exact hr),gO hr]
  ·rw [List.getElem?_set_ne e,gO hr,gO hr,fD (h r hr (λz=>e z.symm))]
 ·rw [List.getElem?_eq_none (by simp [yi];omega),List.getElem?_eq_none (by simp [yi];omega)]
theorem T6 {S:Sps} (T:Txt K mg t) (hS:S.mark=gP) {vs H Q E} (h:qc t vs H Q E):zV K t S (fin Q) (L2.start ["states","inner","number","one"] vs) H:=by
 obtain ⟨sl,c,rfl,⟨lb,wl,ss,ws,h,wf⟩,q⟩:=h
 have n1:=wf.n1
 have n2:=wf.n2
 unfold zV
 simp! [hS]
 refine ⟨⟨_,SqL.of h.s1⟩,λl hl=>?_⟩
 obtain ⟨Pv,hP⟩:∃ Pv:Nat->Hp->Prop,∀ i H1,Pv i H1↔aP H H1/\H1 l=some (.lst (List.replicate i (V.int 0))):=⟨_,λ_ _=>Iff.rfl⟩
 refine ZY (xs:=ss.map V.ref) Pv ((hP _ _).mpr ⟨aT hl,ay⟩) (λi H1 _ p=>((hP _ _).mp p).1 _ _ h.s1) ?_ ?_
 ·intro i x H1 hx hp
  obtain ⟨p1,p2⟩:=(hP _ _).mp hp
  have hi:i < ss.length:=by have:=(List.getElem?_eq_some_iff.mp hx).1;simpa using this
  simp? [wipe,abv]
  refine ⟨_,p2,by rw [List.length_replicate,sizeLine_eq];have:=h.s2;omega,(hP _ _).mpr ⟨λb o e=>?_,?_⟩⟩
  ·rw [aq (ao e hl)];exact p1 b o e
  ·rw [ay,List.replicate_succ']
 ·intro H1 hp
  obtain ⟨p1,p2⟩:=(hP _ _).mp hp
  refine len (p1 _ _ h.s1) ?_
  simp? [List.length_map,h.s2]
  refine ⟨_,RgC.neg (by omega) (by omega) (by omega) (by omega),?_⟩
  have en:((c.states.length:Int) - 1 - 0).toNat=c.states.length - 1:=by omega
  rw [en]
  have er:List.replicate (ss.map V.ref).length (V.int 0)=msk c.states.length (inK c c.states.length):=by
   rw [List.length_map,h.s2]
   unfold msk
   have e0:∀ s,M (inK c c.states.length s)=0:=λs=>by
    rw [<-wk];refine fD λi _=>⟨λz=>?_,False.elim⟩
    obtain ⟨_,k,a,b,_⟩:=z;omega
   simp only [e0]
   exact (List.map_const' ..).symm▸(by simp)
  rw [er] at p2
  obtain ⟨Pv2,hP2⟩:∃ Pv:Nat->St->Hp->Prop,∀ i σ H1,Pv i σ H1↔aP H H1/\H1 l=some (.lst (msk c.states.length (inK c (c.states.length - i))))/\∃ v w,σ=[some (.ref sl),some (.ref l),v,w]:=⟨_,λ_ _ _=>Iff.rfl⟩
  refine Tn (n:=c.states.length - 1) Pv2 ((hP2 _ _ _).mpr ⟨p1,p2,_,_,rfl⟩) ?_ ?_
  ·intro i σ H2 hi hp2
   obtain ⟨r1,r2,v,w,rfl⟩:=(hP2 _ _ _).mp hp2
   obtain ⟨j,hj⟩:∃ j,j=c.states.length - 1 - i:=⟨_,rfl⟩
   have ej:((c.states.length:Int) - 1+(i:Nat) * -1)=(j:Nat):=by omega
   rw [ej]
   obtain ⟨a,_,e2,ad,aca,ala,st1,_⟩:=h.st (show j < c.states.length by omega)
   have pa:=(wf.par j (by omega) (by omega)).1
   have pe:kN j (c.at_ j)=((c.at_ j).parent:Nat):=by unfold kN;rw [if_neg (by omega)]
   simp? [aki]
   refine ix (r1 _ _ h.s1) rfl e2 ?_
   simp? [r1 _ _ st1,pe]
   refine ⟨l,_,_,_,rfl,rfl,SqL.of r2,by omega,by rw [Int.toNat_natCast];exact gO (show (c.at_ j).parent < c.states.length by omega),?_⟩
   simp?
   refine ix r2 rfl (gO (show j < c.states.length by omega)) ?_
   simp?
   refine j5 (by omega) ?_
   simp?
   rw [Sg,Sg]
   refine ⟨l,_,_,(c.at_ j).parent,rfl,rfl,r2,?_,(hP2 _ _ _).mpr ⟨λb o e=>?_,?_,_,_,rfl⟩⟩
   ·rw [yi];unfold ixN;simp;omega
   ·rw [aq (ao e hl)];exact r1 b o e
   ·rw [ay]
    have e1:c.states.length - i=j+1:=by omega
    have e2:c.states.length - (i+1)=j:=by omega
    rw [e1,e2]
    have e3:M (λx=>inK c (j+1) (c.at_ j).parent x\/inK c (j+1) j x\/x=j)=M (inK c j (c.at_ j).parent):=fD λx _=>by
     rw [ahG wf (s:=j) (j+1) (Nat.le_refl _)]
     constructor
     ·rintro (⟨a,k,b,d⟩ | ⟨a,b⟩ | z)
      ·exact ⟨a,k,by omega,d⟩
      ·exact ⟨a,j,Nat.le_refl _,by omega,by omega,rfl,.inr b⟩
      ·exact ⟨by omega,j,Nat.le_refl _,by omega,by omega,rfl,.inl z⟩
     ·rintro ⟨a,k,b,k2,k3,k4,k5⟩
      by_cases z:k=j
      ·subst z
       rcases k5 with k5 | k5
       ·exact .inr (.inr k5)
       ·exact .inr (.inl ⟨a,k5⟩)
      ·exact .inl ⟨a,k,by omega,k2,k3,k4,k5⟩
    rw [e3]
    rw [aim (P:=inK c (j+1)) (Q:=inK c j) (by omega) λr hr ne x _=>?_]
    constructor
    ·rintro ⟨a,k,b,d⟩;exact ⟨a,k,by omega,d⟩
    ·rintro ⟨a,k,b,k2,k3,k4,k5⟩
     exact ⟨a,k,by
      by_cases z:k=j
      ·subst z;exact absurd k4.symm ne
      ·omega,k2,k3,k4,k5⟩
  ·intro σ H2 hp2
   obtain ⟨r1,r2,v,w,rfl⟩:=(hP2 _ _ _).mp hp2
   simp?
   refine q H2 l r1 hl ?_
   rw [r2]
   have e:c.states.length - (c.states.length - 1)=1:=by omega
   rw [e,Ip λs _ i _=>ahG wf 1 (by omega)]
def bu (c:Rc42.Chart) (j:Nat):Rc42.Way:=c.ways.getD j ⟨0,0,0,0,0,none,[]⟩
theorem xQ {c:Rc42.Chart} {j:Nat} (h:j < c.ways.length):c.ways[j]?=some (bu c j):=by
 unfold bu;rw [List.getD_eq_getElem?_getD,List.getElem?_eq_getElem h];rfl
theorem NK {c:Rc42.Chart} {j:Nat} (h:j < c.ways.length):bu c j∈c.ways:=List.mem_of_getElem? (xQ h)
def Wl (c:Rc42.Chart) (m s:Nat):List Nat:=(List.range m).filter λj=>(bu c j).source==s
def own (c:Rc42.Chart) (s:Nat):List Nat:=Wl c c.ways.length s
theorem ajE (c:Rc42.Chart) (m s:Nat):Wl c (m+1) s=Wl c m s++if (bu c m).source=s then [m] else []:=by
 unfold Wl
 rw [List.range_succ,List.filter_append]
 congr 1
 by_cases h:(bu c m).source=s
 ·rw [if_pos h,List.filter_cons,if_pos (by simpa using h)];rfl
 ·rw [if_neg h,List.filter_cons,if_neg (by simpa using h)];rfl
theorem af5 (c:Rc42.Chart) (m s:Nat):(Wl c m s).length<=m:=by
 have:(Wl c m s).length<=_:=List.length_filter_le (λj=>(bu c j).source==s) (List.range m)
 rwa [List.length_range] at this
theorem RJ {c:Rc42.Chart} {s j:Nat}:j∈own c s↔j < c.ways.length/\(bu c j).source=s:=by unfold own Wl;simp [List.mem_filter]
theorem dJ (l:List Nat):(nts l).length=l.length:=by unfold nts;simp
theorem yt {l:List Nat} {i:Nat} {x:V} (h:(nts l)[i]?=some x):∃ y,l[i]?=some y/\x=.int y:=by
 unfold nts at h
 rw [List.getElem?_map] at h
 obtain ⟨y,e,rfl⟩:=Option.map_eq_some_iff.mp h
 exact ⟨y,e,rfl⟩
theorem anS {l:List Nat} {i y:Nat} (h:l[i]?=some y):(nts l)[i]?=some (.int y):=by unfold nts;rw [List.getElem?_map,h];rfl
def Pj (H:Hp) (l:Addr) (n:Nat) (f:Nat->List Nat):Prop:=∃ as:List Addr,H l=some (.lst (as.map V.ref))/\as.length=n/\∀ (s:Nat) a,as[s]?=some a->H a=some (.lst (nts (f s)))
theorem Pj.same {H H':Hp} {l:Addr} {n:Nat} {f:Nat->List Nat} (h:Pj H l n f) (e:aP H H'):Pj H' l n f:=let ⟨as,a,b,d⟩:=h;⟨as,e _ _ a,b,λs x z=>e _ _ (d s x z)⟩
theorem Pj.at {H:Hp} {l:Addr} {n:Nat} {f:Nat->List Nat} (h:Pj H l n f) {s:Nat} (hs:s < n):∃ xs a,H l=some (.lst xs)/\xs[s]?=some (.ref a)/\H a=some (.lst (nts (f s))):=by
 obtain ⟨as,a,b,d⟩:=h
 have hs':s < as.length:=by omega
 exact ⟨_,as[s],a,by rw [List.getElem?_map,List.getElem?_eq_getElem hs'];rfl,d s _ (List.getElem?_eq_getElem hs')⟩
def oq (t:Adr):Sp:=λvs H Q _=>∃ ca c,vs=[.ref ca]/\ChI t H ca c/\∀ H' l,aP H H'->H l=none->Pj H' l c.states.length (own c)->Q (.ref l) H'
theorem QB {H:Hp} {Q:VK} {E:XK} {ca:Addr} {c:Rc42.Chart} (h:ChI t H ca c) (q:∀ H' l,aP H H'->H l=none->Pj H' l c.states.length (own c)->Q (.ref l) H'):oq t [.ref ca] H Q E:=⟨ca,c,rfl,h,q⟩
theorem Zr {S:Sps} (T:Txt K mg t) {vs H Q E} (h:oq t vs H Q E):E2 K t S (fin Q) (L2.start ["chart","numbers","number","way","one"] vs) H:=by
 obtain ⟨ca,c,rfl,⟨lb,dx,sl,wl,rv,ss,ws,h⟩,q⟩:=h
 have n1:=h.wf.n1
 have n2:=h.wf.n2
 have w1:=h.wf.w1
 unfold E2
 simp? [h.at_]
 refine ⟨⟨_,SqL.of h.ch.s1⟩,λl hl=>?_⟩
 obtain ⟨Pv,hP⟩:∃ Pv:Nat->Hp->Prop,∀ i H1,Pv i H1↔aP H H1/\∃ as:List Addr,H1 l=some (.lst (as.map V.ref))/\as.length=i/\as.Nodup/\(∀ a∈as,H1 a=some (.lst [])/\H a=none/\a≠l):=⟨_,λ_ _=>Iff.rfl⟩
 refine ZY (xs:=ss.map V.ref) Pv ((hP _ _).mpr ⟨aT hl,[],ay,rfl,List.nodup_nil,by simp⟩) (λi H1 _ p=>((hP _ _).mp p).1 _ _ h.ch.s1) ?_ ?_
 ·intro i x H1 hx hp
  obtain ⟨p1,as,p2,p3,p4,p5⟩:=(hP _ _).mp hp
  have hi:i < ss.length:=by have:=(List.getElem?_eq_some_iff.mp hx).1;simpa using this
  have:=h.ch.s2
  simp? [wipe,abv]
  refine ⟨Nat.zero_le _,λp hp=>⟨as.map V.ref,?_,by rw [List.length_map,p3,sizeLine_eq];omega,(hP _ _).mpr ⟨λb o e=>?_,as++[p],?_,by simp [p3],?_,λa ha=>?_⟩⟩⟩
  ·rw [aq (ao p2 hp)];exact p2
  ·rw [aq (ao e hl),aq (ao (p1 b o e) hp)];exact p1 b o e
  ·rw [ay];simp
  ·rw [List.nodup_append]
   refine ⟨p4,by simp,λa ha b hb=>?_⟩
   simp at hb
   subst hb
   exact ao (p5 a ha).1 hp
  ·rcases List.mem_append.mp ha with ha | ha
   ·obtain ⟨z1,z2,z3⟩:=p5 a ha
    refine ⟨by rw [aq z3,aq (ao z1 hp)];exact z1,z2,z3⟩
   ·rw [List.mem_singleton.mp ha]
    have z:p≠l:=(ao p2 hp).symm
    exact ⟨by rw [aq z,ay],p1.free hp,z⟩
 ·intro H1 hp
  obtain ⟨p1,as,p2,p3,p4,p5⟩:=(hP _ _).mp hp
  rw [List.length_map,h.ch.s2] at p3
  have h1:=h.same p1
  simp? [h1.at_]
  refine ⟨ws.map V.ref,SqL.of h1.ch.w1,?_⟩
  obtain ⟨Pv2,hP2⟩:∃ Pv:Nat->St->Hp->Prop,∀ i σ H1,Pv i σ H1↔aP H H1/\H1 l=some (.lst (as.map V.ref))/\(∀ (s:Nat) a,as[s]?=some a->H1 a=some (.lst (nts (Wl c i s))))/\∃ v w x,σ=[some (.ref ca),some (.ref l),v,w,x]:=⟨_,λ_ _ _=>Iff.rfl⟩
  refine VF (xs:=ws.map V.ref) Pv2 ((hP2 _ _ _).mpr ⟨p1,p2,λs a z=>(p5 a (List.mem_of_getElem? z)).1,_,_,_,rfl⟩) (λi σ H1 _ p=>((hP2 _ _ _).mp p).1 _ _ h.ch.w1) ?_ ?_
  ·intro i x σ H2 T1 hx hp2 hT
   obtain ⟨r1,r2,r3,v,w,x',rfl⟩:=(hP2 _ _ _).mp hp2
   have hi:i < c.ways.length:=by rw [<-h.ch.w2];have:=(List.getElem?_eq_some_iff.mp hx).1;simpa using this
   obtain ⟨a,_,e2,ad,wa,st1,_⟩:=h.ch.wy (xQ hi)
   rw [e2] at hx;cases hx
   have ok:=h.wf.wy _ (NK hi)
   refine gT (xs:=[.int (i:Nat),.ref a]) ay rfl ?_
   have s2:aP H2 (upd H2 T1 (.tup [.int (i:Nat),.ref a])):=aT hT
   simp? [s2 _ _ (r1 _ _ st1)]
   have so:(bu c i).source < as.length:=by rw [p3];exact ok.s1
   obtain ⟨la,hla⟩:∃ la,as[(bu c i).source]?=some la:=⟨_,List.getElem?_eq_getElem so⟩
   refine ix (s2 _ _ r2) rfl (j:=(bu c i).source) (v:=.ref la) (by rw [List.getElem?_map,hla];rfl) ?_
   have hl1:=s2 _ _ (r3 _ _ hla)
   have z:=p5 la (List.mem_of_getElem? hla)
   refine ⟨tyL hl1,?_⟩
   simp?
   refine app hl1 (by rw [dJ,sizeLine_eq];have:=af5 c i (bu c i).source;omega) ((hP2 _ _ _).mpr ⟨λb o e=>?_,?_,λs b hb=>?_,_,_,_,rfl⟩)
   ·rw [aq (ao e z.2.1)];exact s2 _ _ (r1 b o e)
   ·rw [aq (Ne.symm z.2.2)];exact s2 _ _ r2
   ·rw [ajE]
    by_cases e:(bu c i).source=s
    ·subst e
     rw [hla] at hb;cases hb
     rw [ay,if_pos rfl]
     unfold nts;simp
    ·have ne:b≠la:=λy=>e (ao8 p4 hla (y▸hb))
     rw [aq ne,if_neg e,List.append_nil]
     exact s2 _ _ (r3 s b hb)
  ·intro σ H2 hp2
   obtain ⟨r1,r2,r3,v,w,x',rfl⟩:=(hP2 _ _ _).mp hp2
   simp?
   refine q H2 l r1 hl ⟨as,r2,p3,λs a z=>?_⟩
   rw [r3 s a z,List.length_map,h.ch.w2];rfl
def jP (c:Rc42.Chart) (s:Nat):Nat:=if (c.at_ s).kind < 3 then s else match (c.ways.find? λw=>w.source==s) with
 | some w=>w.target.getD 0
 | none=>(Rc42.beginning c (c.at_ s).parent).getD 0
theorem ajT {c:Rc42.Chart} {s:Nat}:(c.ways.find? λw=>w.source==s)=(own c s).head?.map (bu c):=by
 have e:c.ways=(List.range c.ways.length).map (bu c):=by
  apply List.ext_getElem?
  intro j
  by_cases h:j < c.ways.length
  ·rw [xQ h,List.getElem?_map,List.getElem?_range h];rfl
  ·rw [List.getElem?_eq_none (by omega),List.getElem?_eq_none (by simp;omega)]
 conv=>lhs;rw [e]
 rw [List.find?_map]
 unfold own Wl
 rw [List.head?_filter]
 rfl
structure Rdy (c:Rc42.Chart):Prop where
 wf:Wf c
 no:mL c=false
theorem Rdy.hist {c:Rc42.Chart} (h:Rdy c) {s:Nat} (hs:s < c.states.length) (hk:3<=(c.at_ s).kind):∃ b,Rc42.beginning c (c.at_ s).parent=some b/\b∈Rc42.parts c (c.at_ s).parent:=by
 have no:=h.no
 have s0:0 < s:=by
  rcases Nat.eq_zero_or_pos s with z | z
  ·rw [z,h.wf.k0] at hk;omega
  ·exact z
 have pa:=(h.wf.par s s0 hs).1
 have ne:Rc42.parts c (c.at_ s).parent≠[]:=λz=>by
  unfold mL at no
  rw [Bool.or_eq_false_iff,List.any_eq_false] at no
  refine no.2 s (List.mem_range.mpr hs) ?_
  rw [z];simp [hk]
 cases e:Rc42.beginning c (c.at_ s).parent with
 | none=>exact absurd ((kU h.wf (by omega)).mp e) ne
 | some b=>exact ⟨b,rfl,bO h.wf (by omega) e⟩
theorem Rdy.lead {c:Rc42.Chart} (h:Rdy c) {s:Nat} (hs:s < c.states.length) (s0:s≠0):jP c s < c.states.length/\jP c s≠0/\(c.at_ (jP c s)).kind<=2/\(3<=(c.at_ s).kind->Rc42.within c (jP c s) (c.at_ s).parent=true):=by
 unfold jP
 by_cases k:(c.at_ s).kind < 3
 ·rw [if_pos k];exact ⟨hs,s0,by omega,λz=>by omega⟩
 ·rw [if_neg k]
  cases e:c.ways.find? λw=>w.source==s with
  | some w=>
   have hm:=List.mem_of_find?_eq_some e
   have es:w.source=s:=by simpa using List.find?_some e
   have ok:=h.wf.wy w hm
   obtain ⟨t,a,b,d⟩:=ok.hs (by rw [es];omega)
   have:=ok.tg t a
   simp only [a,Option.getD_some]
   rw [es] at b
   exact ⟨this.2,by omega,by omega,λ_=>b⟩
  | none=>
   obtain ⟨b,e1,e2⟩:=h.hist hs (by omega)
   obtain ⟨m1,m2,m3,m4⟩:=aI.mp e2
   simp only [e1,Option.getD_some]
   exact ⟨m1,m2,m4,λ_=>(aH h.wf m1).mpr ⟨m2,.inl m3⟩⟩
theorem n9 {c:Rc42.Chart} (h:Rdy c) (r:Rc42.Run) {s:Nat} (hs:s < c.states.length):Rc42.leads c r 64 s=if (c.at_ s).kind < 3 then [s] else match r.kept.find? λx=>x.1==s with
  | some x=>x.2
  | none=>[jP c s]:=by
 show Rc42.leads c r (63+1) s=_
 unfold Rc42.leads
 by_cases k:(c.at_ s).kind < 3
 ·rw [if_pos k,if_pos k]
 ·rw [if_neg k,if_neg k]
  cases ek:r.kept.find? λx=>x.1==s with
  | some x=>rfl
  | none=>
   have s0:s≠0:=λz=>by rw [z,h.wf.k0] at k;omega
   have ld:=h.lead hs s0
   unfold jP at ld ⊢
   rw [if_neg k] at ld ⊢
   cases e:c.ways.find? λw=>w.source==s with
   | some w=>
    have hm:=List.mem_of_find?_eq_some e
    have es:w.source=s:=by simpa using List.find?_some e
    obtain ⟨t,a,b,d⟩:=(h.wf.wy w hm).hs (by rw [es];omega)
    simp only [Option.bind_some,a,Option.getD_some]
    show Rc42.leads c r (62+1) t=_
    unfold Rc42.leads
    rw [if_pos d]
   | none=>
    obtain ⟨b,e1,e2⟩:=h.hist hs (by omega)
    obtain ⟨m1,m2,m3,m4⟩:=aI.mp e2
    simp only [Option.bind_none,e1,Option.getD_some,Option.toList_some,List.flatMap_cons,List.flatMap_nil,List.append_nil]
    rw [if_neg (λz=>by rw [z] at m4;omega)]
    show Rc42.leads c r (62+1) b=_
    unfold Rc42.leads
    rw [if_pos (by omega)]
def pF (t:Adr):Sp:=λvs H Q _=>∃ ca c,vs=[.ref ca]/\ChI t H ca c/\Rdy c/\∀ H' l,aP H H'->H l=none->H' l=some (.lst (msk c.states.length λs i=>i=jP c s))->Q (.ref l) H'
theorem WD {H:Hp} {Q:VK} {E:XK} {ca:Addr} {c:Rc42.Chart} (h:ChI t H ca c) (r:Rdy c) (q:∀ H' l,aP H H'->H l=none->H' l=some (.lst (msk c.states.length λs i=>i=jP c s))->Q (.ref l) H'):pF t [.ref ca] H Q E:=⟨ca,c,rfl,h,r,q⟩
theorem UU {S:Sps} (T:Txt K mg t) (g1:S.j3=oq t) (g2:S.aL=cV t) (g3:S.mark=gP) (g4:S.cU=oY t) {vs H Q E} (h:pF t vs H Q E) :
  zw K t S (fin Q) (L2.start ["chart","own","leads","number","one"] vs) H:=by
 obtain ⟨ca,c,rfl,hI,rdy,q⟩:=h
 obtain ⟨lb,dx,sl,wl,rv,ss,ws,h⟩:=id hI
 have n1:=h.wf.n1
 have n2:=h.wf.n2
 unfold zw
 simp? [g1]
 refine QB hI λH1 ow s1 how lw=>?_
 simp?
 refine ⟨Nat.zero_le _,λl hl=>?_⟩
 have s2:=s1.trans (aT (o:=.lst []) hl)
 have h2:=h.same s2
 have lw2:=lw.same (aT (o:=.lst []) hl)
 simp? [h2.at_]
 refine ⟨ss.map V.ref,SqL.of h2.ch.s1,?_⟩
 obtain ⟨Pv,hP⟩:∃ Pv:Nat->St->Hp->Prop,∀ i σ H2,Pv i σ H2↔aP H1 H2/\H2 l=some (.lst (msk i λs i=>i=jP c s))/\∃ v3 v4,σ=[some (.ref ca),some (.ref ow),some (.ref l),v3,v4]:=⟨_,λ_ _ _=>Iff.rfl⟩
 refine VF (xs:=ss.map V.ref) Pv ((hP _ _ _).mpr ⟨aT hl,by rw [ay];rfl,_,_,rfl⟩) (λi σ H2 _ p=>((hP _ _ _).mp p).1 _ _ (s1 _ _ h.ch.s1)) ?_ ?_
 ·intro i x σ H2 T1 hx hp hT
  obtain ⟨p1,p2,v3,v4,rfl⟩:=(hP _ _ _).mp hp
  have hi:i < c.states.length:=by rw [<-h.ch.s2];have:=(List.getElem?_eq_some_iff.mp hx).1;simpa using this
  obtain ⟨a,_,e2,ad,aca,ala,st1,_⟩:=h.ch.st hi
  rw [e2] at hx;cases hx
  have kd:=h.wf.kd i hi
  obtain ⟨H3,hH3⟩:∃ H3,H3=upd H2 T1 (.tup [.int (i:Nat),.ref a]):=⟨_,rfl⟩
  refine gT (xs:=[.int (i:Nat),.ref a]) ay rfl ?_
  rw [<-hH3]
  have t3:aP H2 H3:=by rw [hH3];exact aT hT
  have sm3:aP H H3:=(s1.trans p1).trans t3
  have a3:=sm3 _ _ st1
  have l3:=t3 _ _ p2
  have h3:=h.same sm3
  have lw3:=lw.same (p1.trans t3)
  have nx:∀ {H4:Hp},aP H3 H4->H4 l=some (.lst (msk i λs i=>i=jP c s))->∀ k,k=jP c i->eX (.ref l) [.int (M λj=>j=k)] H4 λ_ H5=>Pv (i+1) [some (V.ref ca),some (.ref ow),some (.ref l),some (.int i),some (.ref a)] H5:=λ{H4} s4 l4 k ek=>by
   refine app l4 (by rw [yi,sizeLine_eq];omega) ((hP _ _ _).mpr ⟨λb o e=>?_,?_,_,_,rfl⟩)
   ·rw [aq (ao e hl)];exact s4 _ _ (t3 _ _ (p1 b o e))
   ·rw [ay,SK,ek]
  simp? [a3,g2]
  refine HC a3 kd ?_
  simp? [g3]
  by_cases k3:3<=(c.at_ i).kind
  ·rw [if_neg (by simp [k3])]
   have i0:i≠0:=λz=>by rw [z,h.wf.k0] at k3;omega
   obtain ⟨xs,la,o1,o2,o3⟩:=lw3.at hi
   simp? [Ag]
   refine ix o1 rfl o2 ?_
   refine ⟨_,XU o3,?_⟩
   have ld:=rdy.lead hi i0
   have el1:jP c i=match (c.ways.find? λw=>w.source==i) with
    | some w=>w.target.getD 0
    | none=>(Rc42.beginning c (c.at_ i).parent).getD 0:=by unfold jP;rw [if_neg (by omega)]<;>rfl
   rw [ajT] at el1
   cases eo:own c i with
   | cons j0 rest=>
    rw [eo] at o3 el1
    have hj:j0∈own c i:=by rw [eo];exact List.mem_cons_self ..
    obtain ⟨j1,j2⟩:=RJ.mp hj
    obtain ⟨b,_,f2,bd,wa,bt1,_⟩:=h.ch.wy (xQ j1)
    obtain ⟨tg,t1,_⟩:=(h.wf.wy _ (NK j1)).hs (by rw [j2];exact k3)
    simp only [List.isEmpty_cons,Bool.not_false,if_true]
    simp? [h3.at_]
    refine ⟨tyL l3,ix o1 rfl o2 (ix o3 rfl (j:=0) (v:=.int j0) rfl ?_)⟩
    refine ix (h3.ch.w1) rfl f2 ?_
    simp? [sm3 _ _ bt1,t1,ko]
    have e:jP c i=tg:=by rw [el1];simp [t1]
    refine j5 (by omega) ?_
    simp?
    exact nx (aP.refl H3) l3 tg e.symm
   | nil=>
    rw [eo] at el1
    obtain ⟨b,e1,m2⟩:=rdy.hist hi k3
    have m1:=(aI.mp m2).1
    have pe:kN i (c.at_ i)=((c.at_ i).parent:Nat):=by unfold kN;rw [if_neg i0]
    have pa:=(h.wf.par i (by omega) hi).1
    simp only [List.isEmpty_nil,Bool.not_true,Bool.false_eq_true,if_false]
    simp? [h3.at_,a3,pe,g4]
    refine ⟨tyL l3,PB ⟨lb,dx,sl,wl,rv,ss,ws,h3⟩ (by omega) λH4 s4=>?_⟩
    simp? [e1,ko]
    refine j5 (by omega) ?_
    simp?
    refine nx s4 (s4 _ _ l3) b ?_
    rw [el1];simp [e1]
  ·rw [if_pos (by simp [k3])]
   refine ⟨tyL l3,j5 (by omega) ?_⟩
   simp?
   refine nx (aP.refl H3) l3 i ?_
   unfold jP;rw [if_pos (by omega)]
 ·intro σ H2 hp
  obtain ⟨p1,p2,v3,v4,rfl⟩:=(hP _ _ _).mp hp
  simp?
  refine q H2 l (s1.trans p1) (s1.free hl) ?_
  rw [p2,List.length_map,h.ch.s2]
def evL (c:Rc42.Chart) (e:Nat) (l:List Nat):List Nat:=l.filter λj=>(bu c j).event==e
def xM (s:Nat) (l:List Nat):List (Nat×List Nat):=if l=[] then [] else [(s,l)]
def chain (c:Rc42.Chart) (s:Nat):List Nat:=(s::Rc42.around c s).flatMap (own c)
def ly (c:Rc42.Chart) (done:List Nat) (e:Nat):List (Nat×List Nat):=done.flatMap λs=>xM s (evL c e (chain c s))
def RH (c:Rc42.Chart) (done:List Nat) (s:Nat) (P:List Nat) (e:Nat):List (Nat×List Nat):=ly c done e++xM s (evL c e P)
theorem UG {c:Rc42.Chart} (wf:Wf c) {s:Nat} (hs:s < c.states.length):chain c s=own c s++if s=0 then [] else chain c (c.at_ s).parent:=by
 unfold chain
 rw [List.flatMap_cons,nR wf hs]
 by_cases z:s=0
 ·rw [if_pos z,if_pos z];rfl
 ·rw [if_neg z,if_neg z]
theorem aiz (c:Rc42.Chart) (done:List Nat) (s e:Nat):ly c (done++[s]) e=RH c done s (chain c s) e:=by
 unfold ly RH;rw [List.flatMap_append];simp [ly]
theorem aj9 (c:Rc42.Chart) (done:List Nat) (s e:Nat):RH c done s [] e=ly c done e:=by
 unfold RH xM evL;simp
theorem WT {c:Rc42.Chart} {done:List Nat} {e s:Nat} {l:List Nat} (h:(s,l)∈ly c done e):s∈done:=by
 unfold ly at h
 obtain ⟨x,hx,h⟩:=List.mem_flatMap.mp h
 unfold xM at h
 split at h
 ·cases h
 ·simp at h;rw [h.1];exact hx
noncomputable def kM (s:Nat):Key:=Sum.inl (M λi=>i=s)
theorem akK {s s':Nat} (h:s < 64) (e:kM s=kM s'):s=s':=by
 unfold kM at e
 have:=anE (Sum.inl.inj e) h
 exact this.mp rfl
noncomputable def dOf:List (Nat×List Nat)->List Addr->List (Key×V)
 | (s,_)::r,l::ls=>(kM s,V.ref l)::dOf r ls
 | _,_=>[]
theorem aae:∀ {tl:List (Nat×List Nat)} {ls:List Addr},ls.length=tl.length->(dOf tl ls).length=tl.length
 | [],[],_=>rfl
 | [],_::_,h=>by simp at h
 | _::_,[],h=>by simp at h
 | (s,ns)::r,l::ls,h=>by
  show (dOf r ls).length+1=r.length+1
  rw [aae (by simpa using h)]
theorem ahY:∀ {tl:List (Nat×List Nat)} {ls:List Addr} {k:Nat},ls.length=tl.length->(dOf tl ls)[k]?=(tl[k]?).bind λp=>(ls[k]?).map λl=>(kM p.1,V.ref l)
 | [],[],k,_=>by simp [dOf]
 | [],_::_,_,h=>by simp at h
 | _::_,[],_,h=>by simp at h
 | (s,ns)::r,l::ls,0,h=>by simp [dOf]
 | (s,ns)::r,l::ls,k+1,h=>by
  simp only [dOf,List.getElem?_cons_succ]
  exact ahY (by simpa using h)
theorem afk:∀ {tl:List (Nat×List Nat)} {ls:List Addr} (s:Nat) (ns:List Nat) (l:Addr),ls.length=tl.length->dOf (tl++[(s,ns)]) (ls++[l])=dOf tl ls++[(kM s,V.ref l)]
 | [],[],_,_,_,_=>rfl
 | [],_::_,_,_,_,h=>by simp at h
 | _::_,[],_,_,_,h=>by simp at h
 | (s',ns')::r,l'::ls,s,ns,l,h=>by
  show (kM s',V.ref l')::dOf (r++[(s,ns)]) (ls++[l])=_
  rw [afk s ns l (by simpa using h)]
  rfl
theorem alF:∀ {tl:List (Nat×List Nat)} {ls:List Addr} (s:Nat) (ns ns':List Nat),dOf (tl++[(s,ns)]) ls=dOf (tl++[(s,ns')]) ls
 | [],[],_,_,_=>rfl
 | [],_::_,_,_,_=>rfl
 | _::_,[],_,_,_=>rfl
 | (s',ns')::r,l'::ls,s,n1,n2=>by
  show (kM s',V.ref l')::dOf (r++[(s,n1)]) ls=(kM s',V.ref l')::dOf (r++[(s,n2)]) ls
  rw [alF]
theorem ae9 {tl:List (Nat×List Nat)} {s:Nat}:∀ {tl:List (Nat×List Nat)} {ls:List Addr},(∀ p∈tl,p.1 < 64/\p.1≠s)->iN (dOf tl ls) (kM s)=none
 | [],_,_=>rfl
 | _::_,[],_=>rfl
 | (s',ns)::r,l::ls,h=>by
  have z:=h (s',ns) (List.mem_cons_self ..)
  rw [show dOf ((s',ns)::r) (l::ls)=(kM s',V.ref l)::dOf r ls from rfl,iC (λe=>z.2 (akK z.1 e))]
  exact ae9 (tl:=tl) λp hp=>h p (List.mem_cons_of_mem _ hp)
theorem S1 {tl:List (Nat×List Nat)} {s:Nat} {ns:List Nat}:∀ {tl:List (Nat×List Nat)} {ls:List Addr} {l:Addr},ls.length=tl.length->(∀ p∈tl,p.1 < 64/\p.1≠s)->iN (dOf (tl++[(s,ns)]) (ls++[l])) (kM s)=some (.ref l)
 | [],[],_,_,_=>jj rfl
 | [],_::_,_,h,_=>by simp at h
 | _::_,[],_,h,_=>by simp at h
 | (s',ns')::r,l'::ls,l,h,hk=>by
  have z:=hk (s',ns') (List.mem_cons_self ..)
  rw [show dOf ((s',ns')::r++[(s,ns)]) (l'::ls++[l])=(kM s',V.ref l')::dOf (r++[(s,ns)]) (ls++[l]) from rfl,iC (λe=>z.2 (akK z.1 e))]
  exact S1 (tl:=tl) (by simpa using h) λp hp=>hk p (List.mem_cons_of_mem _ hp)
def EvR (lab:Addr->Option (Nat×Option Nat)) (H:Hp) (e:Nat) (d:Addr) (tl:List (Nat×List Nat)):Prop:=lab d=some (e,none)/\∃ ls:List Addr,H d=some (.dK (dOf tl ls))/\ls.length=tl.length /\
 ∀ (k:Nat) s ns l,tl[k]?=some (s,ns)->ls[k]?=some l->H l=some (.lst (nts ns))/\lab l=some (e,some s)
structure Wh (lab:Addr->Option (Nat×Option Nat)) (H0 H:Hp) (fo:Addr) (tab:Nat->List (Nat×List Nat)) (kvs:List (Key×V)):Prop where
 at_:H fo=some (.dK kvs)
 nd:(kvs.map (·.1)).Nodup
 ks:∀ k∈kvs.map (·.1),∃ e:Nat,e < 320/\k=Sum.inl (e:Int)
 lf:lab fo=none
 nf:H0 fo=none
 nw:∀ a,lab a≠none->H0 a=none
 ev:∀ e:Nat,(iN kvs (Sum.inl (e:Int))=none/\tab e=[])\/∃ d,iN kvs (Sum.inl (e:Int))=some (.ref d)/\EvR lab H e d (tab e)
theorem WQ {l:List Nat}:∀ {n:Nat} {l:List Nat},l.Nodup->(∀ x∈l,x < n)->l.length<=n:=by
 intro n
 induction n with
 | zero=>intro l _ h;cases l with
  | nil=>simp
  | cons a r=>exact absurd (h a (List.mem_cons_self ..)) (by omega)
 | succ n ih=>
  intro l nd h
  by_cases m:n∈l
  ·have e:=List.length_erase_of_mem m
   have:=ih (l:=l.erase n) (nd.erase n) λx hx=>by
    have z:=(nd.mem_erase_iff).mp hx
    have:=h x z.2
    have:=z.1
    omega
   have:0 < l.length:=List.length_pos_of_mem m
   omega
  ·have:=ih nd λx hx=>by
    have:=h x hx
    have:x≠n:=λe=>m (e▸hx)
    omega
   omega
theorem Wh.few {lab:Addr->Option (Nat×Option Nat)} {H0 H:Hp} {fo:Addr} {tab:Nat->List (Nat×List Nat)} {kvs:List (Key×V)} (h:Wh lab H0 H fo tab kvs):kvs.length<=320:=by
 have inj:∀ k∈kvs.map (·.1),∃ e:Nat,e < 320/\k=Sum.inl (e:Int):=h.ks
 let f:Key->Nat:=λk=>match k with
  | .inl i=>i.toNat
  | .inr _=>0
 have e1:((kvs.map (·.1)).map f).length=kvs.length:=by simp
 rw [<-e1]
 refine WQ (l:=[]) ?_ λx hx=>?_
 ·have nd:=h.nd
  generalize kvs.map (·.1)=l at nd inj
  clear e1
  induction l with
  | nil=>exact List.nodup_nil
  | cons a r ih=>
   obtain ⟨n1,n2⟩:=List.nodup_cons.mp nd
   refine List.nodup_cons.mpr ⟨λm=>?_,ih n2 λk hk=>inj k (List.mem_cons_of_mem _ hk)⟩
   obtain ⟨b,hb,eb⟩:=List.mem_map.mp m
   obtain ⟨ea,_,za⟩:=inj a (List.mem_cons_self ..)
   obtain ⟨ebn,_,zb⟩:=inj b (List.mem_cons_of_mem _ hb)
   subst za zb
   have:ebn=ea:=by simpa [f] using eb
   subst this
   exact n1 hb
 ·obtain ⟨k,hk,rfl⟩:=List.mem_map.mp hx
  obtain ⟨e,he,rfl⟩:=inj k hk
  simpa [f] using he
theorem U8 {kvs:List (Key×V)} {k k':Key} {v:V} (h:iN kvs k=none):iN (putK kvs k v) k'=if k'=k then some v else iN kvs k':=by
 rw [HV v h]
 unfold iN
 rw [List.find?_append]
 by_cases e:k'=k
 ·subst e
  have h':kvs.find? (λkv=>decide (kv.1=k'))=none:=by unfold iN at h;simpa using h
  rw [if_pos rfl,h']
  simp
 ·rw [if_neg e]
  cases q:kvs.find? (λkv=>decide (kv.1=k')) with
  | some p=>rfl
  | none=>simp [Ne.symm e,List.find?_cons]
def aoV (a:Addr) (y z:V) (H3:Hp) (Q:VK):Prop:=∃ kvs k,H3 a=some (.dK kvs)/\y=kV k/\kvs.length < sizeLine/\(∀ v,iN kvs k=some v->Q v H3)/\(iN kvs k=none->Q z (upd H3 a (.dK (putK kvs k z))))
theorem ajj {td ty tx:TE} {σ:St} {H:Hp} {Q:VK}:abT td ty tx σ H Q↔td σ H λx H1=>∃ a,x=.ref a/\IsD H1 a/\ty σ H1 λy H2=>tx σ H2 λz H3=>aoV a y z H3 Q:=Iff.rfl
theorem apm {lab:Addr->Option (Nat×Option Nat)} {H0 H1:Hp} {fo:Addr} {tab:Nat->List (Nat×List Nat)} {kvs:List (Key×V)} (h:Wh lab H0 H1 fo tab kvs) (s0:aP H0 H1) {e:Nat} (he:e < 320) {Q:VK}
  (q:∀ lab' H' kvs' d,Wh lab' H0 H' fo tab kvs'->aP H0 H'->(∀ a o,H1 a=some o->a≠fo->H' a=some o)->iN kvs' (Sum.inl (e:Int))=some (.ref d)->EvR lab' H' e d (tab e)->Q (.ref d) H') :
  ∀ p,H1 p=none->aoV fo (.int (e:Nat)) (.ref p) (upd H1 p (.dK [])) Q:=by
 intro p hp
 have sp:aP H1 (upd H1 p (.dK [])):=aT hp
 have pf:p≠fo:=(ao h.at_ hp).symm
 refine ⟨kvs,Sum.inl (e:Int),sp _ _ h.at_,rfl,by have:=h.few;rw [sizeLine_eq];omega,λv hv=>?_,λhn=>?_⟩
 ·rcases h.ev e with ⟨a,_⟩ | ⟨d,a,b⟩
  ·rw [a] at hv;cases hv
  ·rw [a] at hv;cases hv
   have mono:∀ e' d' tl,EvR lab H1 e' d' tl->EvR lab (upd H1 p (.dK [])) e' d' tl:=λe' d' tl ⟨l1,ls,z1,z2,z3⟩=>⟨l1,ls,sp _ _ z1,z2,λk s ns l g1 g2=>⟨sp _ _ (z3 k s ns l g1 g2).1,(z3 k s ns l g1 g2).2⟩⟩
   exact q lab _ kvs d ⟨sp _ _ h.at_,h.nd,h.ks,h.lf,h.nf,h.nw,λe'=>(h.ev e').imp id λ⟨d',x,y⟩=>⟨d',x,mono _ _ _ y⟩⟩ (s0.trans sp) (λa o z _=>sp a o z) a (mono _ _ _ b)
 ·have te:tab e=[]:=by
   rcases h.ev e with ⟨_,b⟩ | ⟨d,a,_⟩
   ·exact b
   ·rw [a] at hn;cases hn
  obtain ⟨lab',hlab⟩:∃ lab':Addr->Option (Nat×Option Nat),∀ a,lab' a=if a=p then some (e,none) else lab a:=⟨_,λ_=>rfl⟩
  have lold:∀ a o,H1 a=some o->lab' a=lab a:=λa o z=>by rw [hlab,if_neg (ao z hp)]
  have hH:∀ b o,H1 b=some o->b≠fo->upd (upd H1 p (.dK [])) fo (.dK (putK kvs (Sum.inl (e:Int)) (.ref p))) b=some o:=λb o z nb=>by rw [aq nb];exact sp b o z
  have evp:EvR lab' (upd (upd H1 p (.dK [])) fo (.dK (putK kvs (Sum.inl (e:Int)) (.ref p)))) e p []:=⟨by rw [hlab,if_pos rfl],[],by rw [aq pf,ay];rfl,rfl,λk s ns l g=>by simp at g⟩
  refine q lab' _ _ p ⟨ay,?_,λk hk=>?_,by rw [lold _ _ h.at_];exact h.lf,h.nf,λa ha=>?_,λe'=>?_⟩ (λb o z=>?_) hH (by rw [U8 hn,if_pos rfl]) (by rw [te];exact evp)
  ·exact amU _ h.nd hn
  ·rw [HV _ hn,List.map_append] at hk
   rcases List.mem_append.mp hk with hk | hk
   ·exact h.ks k hk
   ·simp at hk;exact ⟨e,he,hk⟩
  ·rw [hlab] at ha
   by_cases z:a=p
   ·subst z;exact s0.free hp
   ·rw [if_neg z] at ha;exact h.nw a ha
  ·rw [U8 hn]
   by_cases z:e'=e
   ·subst z
    rw [if_pos rfl,te]
    exact .inr ⟨p,rfl,evp⟩
   ·rw [if_neg (λy=>z (by have:=Sum.inl.inj y;omega))]
    refine (h.ev e').imp id λ⟨d',x,l1,ls,z1,z2,z3⟩=>⟨d',x,by rw [lold _ _ z1];exact l1,ls,hH _ _ z1 (λy=>?_),z2,λk s ns l g1 g2=>⟨hH _ _ (z3 k s ns l g1 g2).1 (fL (z3 k s ns l g1 g2).1 h.at_ (by simp)),by rw [lold _ _ (z3 k s ns l g1 g2).1];exact (z3 k s ns l g1 g2).2⟩⟩
    rw [y,h.lf] at l1;cases l1
  ·exact hH b o (s0 b o z) (ao z h.nf)
theorem api {lab:Addr->Option (Nat×Option Nat)} {H0 H:Hp} {fo d:Addr} {tab tab':Nat->List (Nat×List Nat)} {kvs:List (Key×V)} (h:Wh lab H0 H fo tab kvs) (s0:aP H0 H) {e s j:Nat} {tl:List (Nat×List Nat)} {ns:List Nat} (hs:s < 64)
  (ed:iN kvs (Sum.inl (e:Int))=some (.ref d)) (hE:EvR lab H e d (tab e)) (ht:tab e=tl++xM s ns) (ht':tab' e=tl++[(s,ns++[j])]) (hto:∀ e',e'≠e->tab' e'=tab e') (hk:∀ p∈tl,p.1 < 64/\p.1≠s) (hlen:tl.length<=64) (hns:ns.length < 1000000) {Q:VK}
  (q:∀ lab' H' kvs',Wh lab' H0 H' fo tab' kvs'->aP H0 H'->(∀ a o,H a=some o->lab a=none->H' a=some o)->Q .non H') :
  ∀ p,H p=none->aoV d (.int (M λi=>i=s)) (.ref p) (upd H p (.lst [])) λv H3=>tyV K "list" v H3/\eX v [.int (j:Nat)] H3 Q:=by
 intro p hp
 have sp:aP H (upd H p (.lst [])):=aT hp
 obtain ⟨ld,ls,z1,z2,z3⟩:=hE
 have pd:p≠d:=(ao z1 hp).symm
 refine ⟨dOf (tab e) ls,kM s,sp _ _ z1,rfl,?_,λv hv=>?_,λhn=>?_⟩
 ·rw [aae z2,ht,List.length_append,sizeLine_eq]
  have:(xM s ns).length<=1:=by unfold xM;split<;>simp
  omega
 ·-- the list is there
  by_cases hn:ns=[]
  ·rw [ht,hn] at hv
   unfold xM at hv
   rw [if_pos rfl,List.append_nil,ae9 (tl:=[]) hk] at hv
   cases hv
  ·have e1:xM s ns=[(s,ns)]:=by unfold xM;rw [if_neg hn]
   rw [e1] at ht
   rw [ht] at z2 hv z3
   obtain ⟨ls0,l,rfl⟩:∃ ls0 l,ls=ls0++[l]:=by
    rcases List.eq_nil_or_concat ls with z | ⟨a,b,z⟩
    ·rw [z] at z2;simp at z2
    ·exact ⟨a,b,by rw [z,List.concat_eq_append]⟩
   have hl0:ls0.length=tl.length:=by simpa using z2
   rw [S1 (tl:=[]) hl0 hk] at hv
   cases hv
   have zl:=z3 tl.length s ns l (by simp) (by rw [<-hl0];simp)
   have zl1:=sp _ _ zl.1
   refine ⟨tyL zl1,app zl1 (by rw [dJ,sizeLine_eq];omega) ?_⟩
   have keep:∀ a o,H a=some o->a≠l->upd (upd H p (.lst [])) l (.lst (nts ns++[.int j])) a=some o:=λa o x nl=>by rw [aq nl];exact sp a o x
   have lne:∀ a v,lab a=v->v≠some (e,some s)->a≠l:=λa v x y z=>y (by rw [<-x,z,zl.2])
   refine q lab _ kvs ⟨keep _ _ h.at_ (lne fo _ h.lf (by simp)),h.nd,h.ks,h.lf,h.nf,h.nw,λe'=>?_⟩ (λb o x=>keep b o (s0 b o x) (λz=>by rw [z] at x;rw [h.nw l (by rw [zl.2];simp)] at x;cases x)) λa o x y=>keep a o x (lne a _ y (by simp))
   by_cases ee:e'=e
   ·subst ee
    refine .inr ⟨d,ed,ld,ls0++[l],?_,by rw [ht'];simp [hl0],λk s' ns' l' g1 g2=>?_⟩
    ·rw [keep _ _ z1 (lne d _ ld (by simp)),ht',ht]
     rw [alF]
    ·rw [ht'] at g1
     by_cases hkk:k < tl.length
     ·rw [List.getElem?_append_left hkk] at g1
      have y:=z3 k s' ns' l' (by rw [List.getElem?_append_left hkk];exact g1) g2
      refine ⟨keep _ _ y.1 (lne l' _ y.2 ?_),y.2⟩
      have:=(hk _ (List.mem_of_getElem? g1)).2
      simp;exact this
     ·have hke:k=tl.length:=by have:=(List.getElem?_eq_some_iff.mp g1).1;simp at this;omega
      subst hke
      rw [List.getElem?_append_right (Nat.le_refl _)] at g1
      rw [List.getElem?_append_right (by omega)] at g2
      simp [hl0] at g1 g2
      obtain ⟨rfl,rfl⟩:=g1
      subst g2
      refine ⟨?_,zl.2⟩
      rw [ay];unfold nts;simp
   ·rw [hto e' ee]
    refine (h.ev e').imp id λ⟨d',x,l1,ls',y1,y2,y3⟩=>⟨d',x,l1,ls',keep _ _ y1 (lne d' _ l1 (by simp)),y2,λk s' ns' l' g1 g2=>?_⟩
    have y:=y3 k s' ns' l' g1 g2
    exact ⟨keep _ _ y.1 (lne l' _ y.2 (by simp;intro z;exact absurd z ee)),y.2⟩
 ·-- it is new
  have hn0:ns=[]:=by
   by_cases z:ns=[]
   ·exact z
   ·exfalso
    have e1:xM s ns=[(s,ns)]:=by unfold xM;rw [if_neg z]
    rw [ht,e1] at hn z2
    obtain ⟨ls0,l,rfl⟩:∃ ls0 l,ls=ls0++[l]:=by
     rcases List.eq_nil_or_concat ls with z | ⟨a,b,z⟩
     ·rw [z] at z2;simp at z2
     ·exact ⟨a,b,by rw [z,List.concat_eq_append]⟩
    rw [S1 (tl:=[]) (by simpa using z2) hk] at hn
    cases hn
  subst hn0
  have e1:xM s []=[]:=rfl
  rw [e1,List.append_nil] at ht
  have ep:upd (upd H p (.lst [])) d (.dK (putK (dOf (tab e) ls) (kM s) (.ref p))) p=some (.lst []):=by rw [aq pd,ay]
  refine ⟨tyL ep,app ep (by decide) ?_⟩
  rw [List.nil_append]
  obtain ⟨lab',hlab⟩:∃ lab':Addr->Option (Nat×Option Nat),∀ a,lab' a=if a=p then some (e,some s) else lab a:=⟨_,λ_=>rfl⟩
  have lold:∀ a o,H a=some o->lab' a=lab a:=λa o z=>by rw [hlab,if_neg (ao z hp)]
  have keep:∀ a o,H a=some o->a≠d->upd (upd (upd H p (.lst [])) d (.dK (putK (dOf (tab e) ls) (kM s) (.ref p)))) p (.lst [.int j]) a=some o:=λa o x nd=>by
   rw [aq (ao x hp),aq nd];exact sp a o x
  have lne:∀ a v,lab a=v->v≠some (e,none)->a≠d:=λa v x y z=>y (by rw [<-x,z,ld])
  refine q lab' _ kvs ⟨keep _ _ h.at_ (lne fo _ h.lf (by simp)),h.nd,h.ks,by rw [lold _ _ h.at_];exact h.lf,h.nf,λa ha=>?_,λe'=>?_⟩ (λb o x=>keep b o (s0 b o x) (λz=>by rw [z] at x;rw [h.nw d (by rw [ld];simp)] at x;cases x)) λa o x y=>keep a o x (lne a _ y (by simp))
  ·rw [hlab] at ha
   by_cases z:a=p
   ·subst z;exact s0.free hp
   ·rw [if_neg z] at ha;exact h.nw a ha
  ·by_cases ee:e'=e
   ·subst ee
    refine .inr ⟨d,ed,by rw [lold _ _ z1];exact ld,ls++[p],?_,by rw [ht'];rw [ht] at z2;simp [z2],λk s' ns' l' g1 g2=>?_⟩
    ·rw [aq (Ne.symm pd),ay,HV _ hn,ht',afk _ _ _ (by rw [<-ht];exact z2),ht]
    ·rw [ht'] at g1
     rw [ht] at z2
     by_cases hkk:k < tl.length
     ·rw [List.getElem?_append_left hkk] at g1
      rw [List.getElem?_append_left (by omega)] at g2
      have y:=z3 k s' ns' l' (by rw [ht];exact g1) g2
      exact ⟨keep _ _ y.1 (lne l' _ y.2 (by simp)),by rw [lold _ _ y.1];exact y.2⟩
     ·have hke:k=tl.length:=by have:=(List.getElem?_eq_some_iff.mp g1).1;simp at this;omega
      subst hke
      rw [List.getElem?_append_right (Nat.le_refl _)] at g1
      rw [List.getElem?_append_right (by omega)] at g2
      simp [z2] at g1 g2
      obtain ⟨rfl,rfl⟩:=g1
      subst g2
      exact ⟨by rw [ay];rfl,by rw [hlab,if_pos rfl]⟩
   ·rw [hto e' ee]
    refine (h.ev e').imp id λ⟨d',x,l1,ls',y1,y2,y3⟩=>⟨d',x,by rw [lold _ _ y1];exact l1,ls',keep _ _ y1 (lne d' _ l1 (by simp;exact ee)),y2,λk s' ns' l' g1 g2=>?_⟩
    have y:=y3 k s' ns' l' g1 g2
    exact ⟨keep _ _ y.1 (lne l' _ y.2 (by simp)),by rw [lold _ _ y.1];exact y.2⟩
def wo (x:Addr) (H:Hp):Hp:=λa=>if a=x then none else H a
theorem xN {x:Addr} {H:Hp}:wo x H x=none:=by unfold wo;rw [if_pos rfl]
theorem iB {x a:Addr} {H:Hp} {o:HO} (e:H a=some o) (n:a≠x):wo x H a=some o:=by unfold wo;rw [if_neg n];exact e
theorem lB {x:Addr} {H:Hp}:aP (wo x H) H:=λa o e=>by unfold wo at e;split at e;cases e;exact e
theorem MC {x:Addr} {G H:Hp} (hx:G x=none) (s:aP G H):aP G (wo x H):=λa o e=>iB (s a o e) (ao e hx)
def OffI (H:Hp) (fo:Addr) (tab:Nat->List (Nat×List Nat)):Prop:=∃ lab H0 kvs,Wh lab H0 H fo tab kvs
theorem OffI.same {H H':Hp} {fo:Addr} {tab:Nat->List (Nat×List Nat)} (h:OffI H fo tab) (e:aP H H'):OffI H' fo tab:=by
 obtain ⟨lab,H0,kvs,h⟩:=h
 refine ⟨lab,H0,kvs,e _ _ h.at_,h.nd,h.ks,h.lf,h.nf,h.nw,λev=>(h.ev ev).imp id λ⟨d,x,l1,ls,y1,y2,y3⟩=>⟨d,x,l1,ls,e _ _ y1,y2,λk s ns l g1 g2=>⟨e _ _ (y3 k s ns l g1 g2).1,(y3 k s ns l g1 g2).2⟩⟩⟩
def Iv (t:Adr):Sp:=λvs H Q _=>∃ ca c pl ps,vs=[.ref ca,.ref pl]/\ChI t H ca c/\H pl=some (.lst (nts ps))/\ps.Pairwise (· < ·)/\(∀ s∈ps,s < c.states.length)/\∀ H' l,aP H H'->H l=none->OffI H' l (ly c ps)->(∀ p,H p≠none->OffI (wo p H') l (ly c ps))->Q (.ref l) H'
theorem aky {H:Hp} {Q:VK} {E:XK} {ca pl:Addr} {c:Rc42.Chart} {ps:List Nat} (h:ChI t H ca c) (hp:H pl=some (.lst (nts ps))) (so:ps.Pairwise (· < ·)) (hl:∀ s∈ps,s < c.states.length) (q:∀ H' l,aP H H'->H l=none->OffI H' l (ly c ps)->(∀ p,H p≠none->OffI (wo p H') l (ly c ps))->Q (.ref l) H'):Iv t [.ref ca,.ref pl] H Q E:=⟨ca,c,pl,ps,rfl,h,hp,so,hl,q⟩
theorem Mg (c:Rc42.Chart) (e:Nat):∀ done:List Nat,(ly c done e).length<=done.length
 | []=>by simp [ly]
 | s::r=>by
  have ih:=Mg c e r
  have e1:ly c (s::r) e=xM s (evL c e (chain c s))++ly c r e:=by unfold ly;rw [List.flatMap_cons]
  rw [e1,List.length_append,List.length_cons]
  have:(xM s (evL c e (chain c s))).length<=1:=by unfold xM;split<;>simp
  omega
theorem ajC {c:Rc42.Chart} (wf:Wf c) {s:Nat} (hs:s < c.states.length):(chain c s).length<=(s+1) * 256:=by
 induction s using Nat.strongRecOn with
 | ind s ih=>
  rw [UG wf hs,List.length_append]
  have l1:(own c s).length<=256:=Nat.le_trans (af5 c _ s) wf.w1
  by_cases z:s=0
  ·rw [if_pos z];simp;omega
  ·have pa:=(wf.par s (by omega) hs).1
   rw [if_neg z]
   have:=ih _ pa (by omega)
   have:((c.at_ s).parent+1) * 256+256<=(s+1) * 256:=by omega
   omega
theorem ajy {S:Sps} (T:Txt K mg t) (g1:S.j3=oq t) (g3:S.mark=gP) {vs H Q E} (h:Iv t vs H Q E):Tz K t S (fin Q) (L2.start ["chart","plain","found","own","state","at","number","by_place"] vs) H:=by
 obtain ⟨ca,c,pl,ps,rfl,hI,hpl,hso,hlt,q⟩:=h
 have hI':=hI
 obtain ⟨lb,dx,sl,wl,rv,ss,ws,h⟩:=hI'
 have wf:=h.wf
 have n1:=h.wf.n1
 have n2:=h.wf.n2
 have w1:=h.wf.w1
 unfold Tz
 simp? [BL]
 intro fo hfo
 simp? [g1]
 refine QB (hI.same (aT hfo)) λH2 ow s1 how lw=>?_
 have sH:aP H H2:=(aT hfo).trans s1
 have fo2:H2 fo=some (.dK []):=s1 _ _ ay
 obtain ⟨H0,hH0⟩:∃ H0:Hp,∀ a,H0 a=if a=fo then none else H2 a:=⟨_,λ_=>rfl⟩
 have H0s:aP H0 H2:=λa o e=>by rw [hH0] at e;split at e;cases e;exact e
 have H00:aP H H0:=λa o e=>by rw [hH0,if_neg (ao e hfo)];exact sH a o e
 have lw0:Pj H0 ow c.states.length (own c):=by
  obtain ⟨as,a1,a2,a3⟩:=lw
  have nl:∀ {a xs},H2 a=some (.lst xs)->H0 a=some (.lst xs):=λ{a xs} z=>by rw [hH0,if_neg (fL z fo2 (by simp))];exact z
  exact ⟨as,nl a1,a2,λs a z=>nl (a3 s a z)⟩
 have h0:=h.same H00
 have nl0:∀ (s:Nat) (P:List Nat),(∀ x∈P,x < c.ways.length)->True:=λ_ _ _=>trivial
 simp?
 refine ⟨⟨_,SqL.of (sH _ _ hpl)⟩,?_⟩
 obtain ⟨Pv,hP⟩:∃ Pv:Nat->St->Hp->Prop,∀ i σ H3,Pv i σ H3↔aP H0 H3/\(∃ lab kvs,Wh lab H0 H3 fo (ly c (ps.take i)) kvs)/\∃ v4 v5 v6 v7,σ=[some (.ref ca),some (.ref pl),some (.ref fo),some (.ref ow),v4,v5,v6,v7]:=⟨_,λ_ _ _=>Iff.rfl⟩
 refine jL (xs:=nts ps) Pv ((hP _ _ _).mpr ⟨H0s,⟨λ_=>none,[],?_⟩,_,_,_,_,rfl⟩) (λi σ H3 _ p=>((hP _ _ _).mp p).1 _ _ (H00 _ _ hpl)) ?_ ?_
 ·exact ⟨fo2,List.nodup_nil,by simp,rfl,by rw [hH0,if_pos rfl],λa z=>absurd rfl z,λe=>.inl ⟨rfl,rfl⟩⟩
 ·intro i x σ H3 hx hp
  obtain ⟨p1,⟨lab3,kvs3,p2⟩,v4,v5,v6,v7,rfl⟩:=(hP _ _ _).mp hp
  obtain ⟨s,es,rfl⟩:=yt hx
  have hs:s < c.states.length:=hlt s (List.mem_of_getElem? es)
  have hi:i < ps.length:=(List.getElem?_eq_some_iff.mp es).1
  have tk:ps.take (i+1)=ps.take i++[s]:=by rw [List.take_add_one,es];rfl
  have dn:∀ p∈ps.take i,p < 64/\p≠s:=λp hp=>by
   have:=hlt p (List.mem_of_mem_take hp)
   obtain ⟨k,hk⟩:=List.mem_iff_getElem?.mp hp
   rw [List.getElem?_take] at hk
   split at hk
   ·have:=List.pairwise_iff_getElem.mp hso k i (by omega) hi (by omega)
    obtain ⟨_,ek⟩:=List.getElem?_eq_some_iff.mp hk
    obtain ⟨_,ei⟩:=List.getElem?_eq_some_iff.mp es
    omega
   ·cases hk
  have plen:ps.length<=64:=by
   have nd:ps.Nodup:=hso.imp λz=>by omega
   exact WQ (l:=[]) nd λx hx=>by have:=hlt x hx;omega
  simp?
  obtain ⟨W,hW⟩:∃ W:Nat->St->Hp->Prop,∀ n σ H4,W n σ H4↔aP H0 H4/\∃ (a:Int) (Pre:List Nat),n=(a+1).toNat/\((a=-1/\chain c s=Pre)\/∃ an:Nat,a=an/\an < c.states.length/\chain c s=Pre++chain c an) /\
   (∃ lab kvs,Wh lab H0 H4 fo (RH c (ps.take i) s Pre) kvs)/\∃ v6 v7,σ=[some (.ref ca),some (.ref pl),some (.ref fo),some (.ref ow),some (.int s),some (.int a),v6,v7]:=⟨_,λ_ _ _=>Iff.rfl⟩
  refine ⟨W,⟨_,(hW _ _ _).mpr ⟨p1,(s:Nat),[],rfl,.inr ⟨s,rfl,hs,rfl⟩,⟨lab3,kvs3,?_⟩,_,_,rfl⟩⟩,?_⟩
  ·have e:RH c (ps.take i) s []=ly c (ps.take i):=funext λe=>aj9 c _ s e
   rw [e];exact p2
  ·intro n σ H4 hw
   obtain ⟨q1,a,Pre,rfl,qa,⟨lab4,kvs4,q2⟩,v6,v7,rfl⟩:=(hW _ _ _).mp hw
   simp?
   rcases qa with ⟨rfl,ec⟩ | ⟨an,rfl,han,ec⟩
   ·simp? [not_true_eq_false]
    refine (hP _ _ _).mpr ⟨q1,⟨lab4,kvs4,?_⟩,_,_,_,_,rfl⟩
    have e:ly c (ps.take (i+1))=RH c (ps.take i) s Pre:=funext λe=>by rw [tk,aiz,ec]
    rw [e];exact q2
   ·have na:¬(an:Int)=-1:=by omega
    simp! [na,not_false_eq_true]
    refine ⟨_,λ_ _ z=>z,?_⟩
    have ob:∀ j∈own c an,j < c.ways.length:=λj hj=>(RJ.mp hj).1
    obtain ⟨xs,la,o1,o2,o3⟩:=lw0.at han
    refine ix (q1 _ _ o1) rfl o2 ?_
    refine ⟨la,rfl,⟨_,SqL.of (q1 _ _ o3)⟩,?_⟩
    have chl:(chain c s).length < 1000000:=by have:=ajC wf hs;omega
    obtain ⟨Pv2,hP2⟩:∃ Pv:Nat->St->Hp->Prop,∀ k σ H5,Pv k σ H5↔aP H0 H5/\(∃ lab kvs,Wh lab H0 H5 fo (RH c (ps.take i) s (Pre++(own c an).take k)) kvs)/\∃ v6 v7,σ=[some (.ref ca),some (.ref pl),some (.ref fo),some (.ref ow),some (.int s),some (.int (an:Nat)),v6,v7]:=⟨_,λ_ _ _=>Iff.rfl⟩
    refine jL (xs:=nts (own c an)) Pv2 ((hP2 _ _ _).mpr ⟨q1,⟨lab4,kvs4,by simpa using q2⟩,_,_,rfl⟩) (λk σ H5 _ p=>((hP2 _ _ _).mp p).1 _ _ o3) ?_ ?_
    ·intro k y σ H5 hy hp5
     obtain ⟨r1,⟨lab5,kvs5,r2⟩,v6,v7,rfl⟩:=(hP2 _ _ _).mp hp5
     obtain ⟨j,ej,rfl⟩:=yt hy
     have hj:=ob j (List.mem_of_getElem? ej)
     obtain ⟨b,_,f2,bd,wa,bt1,_⟩:=h0.ch.wy (xQ hj)
     have ok:=wf.wy _ (NK hj)
     have hev:(bu c j).event < 320:=by have:=ok.ev;omega
     have h5:=h0.same r1
     simp! [h5.at_,ajj]
     refine ⟨.inl ⟨kvs5,.inl r2.at_⟩,ix h5.ch.w1 rfl f2 ?_⟩
     simp! [r1 _ _ bt1,BL]
     refine apm r2 r1 hev λlab6 H6 kvs6 d u2 u1 u3 u4 u5=>?_
     simp! [g3]
     refine ⟨.inl ⟨_,.inl u5.2.choose_spec.1⟩,j5 (by omega) ?_⟩
     simp!
     refine ⟨Nat.zero_le _,?_⟩
     have tk2:(own c an).take (k+1)=(own c an).take k++[j]:=by rw [List.take_add_one,ej];rfl
     have ht:RH c (ps.take i) s (Pre++(own c an).take k) (bu c j).event=ly c (ps.take i) (bu c j).event++xM s (evL c (bu c j).event (Pre++(own c an).take k)):=rfl
     have evs:∀ e,evL c e (Pre++(own c an).take (k+1))=evL c e (Pre++(own c an).take k)++if (bu c j).event=e then [j] else []:=λe=>by
      rw [tk2,<-List.append_assoc]
      unfold evL
      rw [List.filter_append]
      congr 1
      by_cases z:(bu c j).event=e
      ·rw [if_pos z,List.filter_cons,if_pos (by simpa using z)];rfl
      ·rw [if_neg z,List.filter_cons,if_neg (by simpa using z)];rfl
     refine api (tab':=RH c (ps.take i) s (Pre++(own c an).take (k+1))) u2 u1 (by omega) u4 u5 ht ?_ (λe' ne=>?_) (λp hp=>dn p.1 (WT (l:=p.2) hp)) ?_ ?_ λlab7 H7 kvs7 x2 x1 _=>(hP2 _ _ _).mpr ⟨x1,⟨lab7,kvs7,x2⟩,_,_,rfl⟩
     ·unfold RH
      rw [evs,if_pos rfl]
      congr 1
      unfold xM
      rw [if_neg (by simp)]
     ·unfold RH
      rw [evs,if_neg (λz=>ne z.symm),List.append_nil]
     ·have:=Mg c (bu c j).event (ps.take i)
      have:(ps.take i).length<=ps.length:=by simp;omega
      omega
     ·have e1:(evL c (bu c j).event (Pre++(own c an).take k)).length<=_:=List.length_filter_le _ _
      have e2:(Pre++(own c an).take k).length<=(chain c s).length:=by
       rw [ec,UG wf han]
       simp only [List.length_append,List.length_take]
       omega
      omega
    ·intro σ H5 hp5
     obtain ⟨r1,⟨lab5,kvs5,r2⟩,v6,v7,rfl⟩:=(hP2 _ _ _).mp hp5
     rw [dJ,List.take_length] at r2
     have h5:=h0.same r1
     obtain ⟨a',_,f2,ad,aca,ala,st1,_⟩:=h0.ch.st han
     simp! [h5.at_]
     refine ix h5.ch.s1 rfl f2 ?_
     simp! [r1 _ _ st1]
     refine ⟨(kN an (c.at_ an)+1).toNat,?_,(hW _ _ _).mpr ⟨r1,kN an (c.at_ an),Pre++own c an,rfl,?_,⟨lab5,kvs5,r2⟩,_,_,rfl⟩⟩
     ·unfold kN
      by_cases z:an=0
      ·simp [z]
      ·rw [if_neg z];have:=(wf.par an (by omega) han).1;omega
     ·rw [UG wf han] at ec
      unfold kN
      by_cases z:an=0
      ·rw [if_pos z]
       rw [if_pos z,List.append_nil] at ec
       exact .inl ⟨rfl,ec⟩
      ·rw [if_neg z]
       rw [if_neg z,<-List.append_assoc] at ec
       have:=(wf.par an (by omega) han).1
       exact .inr ⟨_,rfl,by omega,ec⟩
 ·intro σ H3 hp
  obtain ⟨p1,⟨lab3,kvs3,p2⟩,v4,v5,v6,v7,rfl⟩:=(hP _ _ _).mp hp
  rw [dJ,List.take_length] at p2
  simp!
  refine q H3 fo (H00.trans p1) hfo ⟨lab3,H0,kvs3,p2⟩ λp hp=>?_
  have nz:∀ a,H a=none->a≠p:=λa e z=>hp (z▸e)
  have nl:∀ a,lab3 a≠none->a≠p:=λa e=>nz a (H00.free (p2.nw a e))
  exact ⟨lab3,H0,kvs3,iB p2.at_ (nz fo hfo),p2.nd,p2.ks,p2.lf,p2.nf,p2.nw,λev=>(p2.ev ev).imp id λ⟨d,x,l1,ls,y1,y2,y3⟩=>⟨d,x,l1,ls,iB y1 (nl d (by rw [l1];simp)),y2,λk s ns l g1 g2=>⟨iB (y3 k s ns l g1 g2).1 (nl l (by rw [(y3 k s ns l g1 g2).2];simp)),(y3 k s ns l g1 g2).2⟩⟩⟩
end SC
namespace SC
open PySem L2
def Ls:List (Str×V):=[]
def SI (x0:V):List (Str×V):=[("states",x0)]
def U9 (x0 x1:V):List (Str×V):=[("states",x0),("ways",x1)]
def Vv (x0 x1 x2:V):List (Str×V):=[("states",x0),("ways",x1),("around",x2)]
def Tw (x0 x1 x2 x3:V):List (Str×V):=[("states",x0),("ways",x1),("around",x2),("inner",x3)]
def SN (x0 x1 x2 x3 x4:V):List (Str×V):=[("states",x0),("ways",x1),("around",x2),("inner",x3),("inner_parts",x4)]
def Sv (x0 x1 x2 x3 x4 x5:V):List (Str×V):=[("states",x0),("ways",x1),("around",x2),("inner",x3),("inner_parts",x4),("firsts",x5)]
def Mr (x0 x1 x2 x3 x4 x5 x6:V):List (Str×V):=[("states",x0),("ways",x1),("around",x2),("inner",x3),("inner_parts",x4),("firsts",x5),("ends",x6)]
def SD (x0 x1 x2 x3 x4 x5 x6 x7:V):List (Str×V):=[("states",x0),("ways",x1),("around",x2),("inner",x3),("inner_parts",x4),("firsts",x5),("ends",x6),("plain",x7)]
def LY (x0 x1 x2 x3 x4 x5 x6 x7 x8:V):List (Str×V):=[("states",x0),("ways",x1),("around",x2),("inner",x3),("inner_parts",x4),("firsts",x5),("ends",x6),("plain",x7),("histories",x8)]
def Iz (x0 x1 x2 x3 x4 x5 x6 x7 x8 x9:V):List (Str×V):=[("states",x0),("ways",x1),("around",x2),("inner",x3),("inner_parts",x4),("firsts",x5),("ends",x6),("plain",x7),("histories",x8),("first_leads",x9)]
def Xz (x0 x1 x2 x3 x4 x5 x6 x7 x8 x9 x10:V):List (Str×V):=[("states",x0),("ways",x1),("around",x2),("inner",x3),("inner_parts",x4),("firsts",x5),("ends",x6),("plain",x7),("histories",x8),("first_leads",x9),("offers",x10)]
section
variable {x0 x1 x2 x3 x4 x5 x6 x7 x8 x9 x10 v:V}
theorem alP:cj "states" v (Ls )=SI  v:=rfl
theorem ako:(Ls ).length < 1000:=by show 0 < 1000;decide
theorem akN:cj "ways" v (SI x0)=U9 x0 v:=rfl
theorem ajY:(SI x0).length < 1000:=by show 1 < 1000;decide
theorem aku:cj "around" v (U9 x0 x1)=Vv x0 x1 v:=rfl
theorem akQ:(U9 x0 x1).length < 1000:=by show 2 < 1000;decide
theorem ak1:cj "inner" v (Vv x0 x1 x2)=Tw x0 x1 x2 v:=rfl
theorem alT:(Vv x0 x1 x2).length < 1000:=by show 3 < 1000;decide
theorem akl:cj "inner_parts" v (Tw x0 x1 x2 x3)=SN x0 x1 x2 x3 v:=rfl
theorem ajS:(Tw x0 x1 x2 x3).length < 1000:=by show 4 < 1000;decide
theorem aj3:cj "firsts" v (SN x0 x1 x2 x3 x4)=Sv x0 x1 x2 x3 x4 v:=rfl
theorem alQ:(SN x0 x1 x2 x3 x4).length < 1000:=by show 5 < 1000;decide
theorem aj1:cj "ends" v (Sv x0 x1 x2 x3 x4 x5)=Mr x0 x1 x2 x3 x4 x5 v:=rfl
theorem ak9:(Sv x0 x1 x2 x3 x4 x5).length < 1000:=by show 6 < 1000;decide
theorem akb:cj "plain" v (Mr x0 x1 x2 x3 x4 x5 x6)=SD x0 x1 x2 x3 x4 x5 x6 v:=rfl
theorem akk:(Mr x0 x1 x2 x3 x4 x5 x6).length < 1000:=by show 7 < 1000;decide
theorem Q5:(Mr x0 x1 x2 x3 x4 x5 x6).lookup ("firsts":Str)=some x5:=rfl
theorem alu:cj "histories" v (SD x0 x1 x2 x3 x4 x5 x6 x7)=LY x0 x1 x2 x3 x4 x5 x6 x7 v:=rfl
theorem akd:(SD x0 x1 x2 x3 x4 x5 x6 x7).length < 1000:=by show 8 < 1000;decide
theorem akL:cj "first_leads" v (LY x0 x1 x2 x3 x4 x5 x6 x7 x8)=Iz x0 x1 x2 x3 x4 x5 x6 x7 x8 v:=rfl
theorem alA:(LY x0 x1 x2 x3 x4 x5 x6 x7 x8).length < 1000:=by show 9 < 1000;decide
theorem aiG:cj "offers" v (Iz x0 x1 x2 x3 x4 x5 x6 x7 x8 x9)=Xz x0 x1 x2 x3 x4 x5 x6 x7 x8 x9 v:=rfl
theorem aje:(Iz x0 x1 x2 x3 x4 x5 x6 x7 x8 x9).length < 1000:=by show 10 < 1000;decide
theorem Ro:(Iz x0 x1 x2 x3 x4 x5 x6 x7 x8 x9).lookup ("plain":Str)=some x7:=rfl
theorem am0:Xz x0 x1 x2 x3 x4 x5 x6 x7 x8 x9 x10=bJ x0 x1 x2 x3 x4 x5 x6 x7 x8 x9 x10:=rfl
theorem anp:([]:List (Str×V))=Ls:=rfl
end
def aaG:List (Str×V):=[]
def aba (x0:V):List (Str×V):=[("plan",x0)]
def RZ (x0 x1:V):List (Str×V):=[("plan",x0),("numbers",x1)]
def Zq (x0 x1 x2:V):List (Str×V):=[("plan",x0),("numbers",x1),("leads",x2)]
def XX (x0 x1 x2 x3:V):List (Str×V):=[("plan",x0),("numbers",x1),("leads",x2),("active",x3)]
def aaH (x0 x1 x2 x3 x4:V):List (Str×V):=[("plan",x0),("numbers",x1),("leads",x2),("active",x3),("over",x4)]
def RN (x0 x1 x2 x3 x4 x5:V):List (Str×V):=[("plan",x0),("numbers",x1),("leads",x2),("active",x3),("over",x4),("raised",x5)]
def YT (x0 x1 x2 x3 x4 x5 x6:V):List (Str×V):=[("plan",x0),("numbers",x1),("leads",x2),("active",x3),("over",x4),("raised",x5),("heard",x6)]
def ain (x0 x1 x2 x3 x4 x5 x6 x7:V):List (Str×V):=[("plan",x0),("numbers",x1),("leads",x2),("active",x3),("over",x4),("raised",x5),("heard",x6),("trail",x7)]
section
variable {x0 x1 x2 x3 x4 x5 x6 x7 v:V}
theorem amD:cj "plan" v (aaG )=aba  v:=rfl
theorem anj:(aaG ).length < 1000:=by show 0 < 1000;decide
theorem amt:cj "numbers" v (aba x0)=RZ x0 v:=rfl
theorem ana:(aba x0).length < 1000:=by show 1 < 1000;decide
theorem amT:cj "leads" v (RZ x0 x1)=Zq x0 x1 v:=rfl
theorem anf:(RZ x0 x1).length < 1000:=by show 2 < 1000;decide
theorem aaa:(RZ x0 x1).lookup ("plan":Str)=some x0:=rfl
theorem al3:cj "active" v (Zq x0 x1 x2)=XX x0 x1 x2 v:=rfl
theorem amr:(Zq x0 x1 x2).length < 1000:=by show 3 < 1000;decide
theorem ani:cj "over" v (XX x0 x1 x2 x3)=aaH x0 x1 x2 x3 v:=rfl
theorem amS:(XX x0 x1 x2 x3).length < 1000:=by show 4 < 1000;decide
theorem ams:cj "raised" v (aaH x0 x1 x2 x3 x4)=RN x0 x1 x2 x3 x4 v:=rfl
theorem amc:(aaH x0 x1 x2 x3 x4).length < 1000:=by show 5 < 1000;decide
theorem amF:cj "heard" v (RN x0 x1 x2 x3 x4 x5)=YT x0 x1 x2 x3 x4 x5 v:=rfl
theorem amw:(RN x0 x1 x2 x3 x4 x5).length < 1000:=by show 6 < 1000;decide
theorem amj:cj "trail" v (YT x0 x1 x2 x3 x4 x5 x6)=ain x0 x1 x2 x3 x4 x5 x6 v:=rfl
theorem am6:(YT x0 x1 x2 x3 x4 x5 x6).length < 1000:=by show 7 < 1000;decide
theorem an0:ain x0 x1 x2 x3 x4 x5 x6 x7=bF x0 x1 x2 x3 x4 x5 x6 x7:=rfl
theorem anY:([]:List (Str×V))=aaG:=rfl
end
end SC
namespace SC
open PySem L2
variable {K:W.Frag} {mg:Str->Option Value} {t:Adr}
noncomputable def ang (c:Rc42.Chart):List V:=(List.range c.states.length).map λs=>V.int (ko (Rc42.beginning c s))
theorem U6 {c:Rc42.Chart} {s:Nat} (h:s < c.states.length):(ang c)[s]?=some (.int (ko (Rc42.beginning c s))):=by unfold ang;rw [List.getElem?_map,List.getElem?_range h];rfl
def V8 (c:Rc42.Chart):List Nat:=(List.range c.states.length).filter λs=>decide (3<=(c.at_ s).kind)
def plP (c:Rc42.Chart) (i:Nat):Prop:=i < c.states.length/\Rc42.plain c i=true
def enP (c:Rc42.Chart) (i:Nat):Prop:=i < c.states.length/\(c.at_ i).kind=2
structure lZ (t:Adr) (H:Hp) (pa:Addr) (c:Rc42.Chart):Prop where
 rdy:Rdy c
 ex:∃ dx sl wl a1 a2 a3 a4 a5 a6 a7 lb ss ws,H pa=some (.ins t.bz dx (bJ (.ref sl) (.ref wl) (.ref a1) (.ref a2) (.ref a3) (.ref a4) (.int (M (enP c))) (.int (M (plP c))) (.ref a5) (.ref a6) (.ref a7)))/\ChL t lb H sl wl ss ws c /\
  H a1=some (.lst (msk c.states.length λs i=>Rc42.within c s i=true))/\H a2=some (.lst (msk c.states.length λs i=>i < c.states.length/\Rc42.within c i s=true))/\H a3=some (.lst (msk c.states.length λs i=>i∈Rc42.parts c s)) /\
  H a4=some (.lst (ang c))/\H a5=some (.lst (nts (V8 c)))/\H a6=some (.lst (msk c.states.length λs i=>i=jP c s))/\OffI H a7 (ly c (el (plP c)))
theorem lZ.same {H H':Hp} {pa:Addr} {c:Rc42.Chart} (h:lZ t H pa c) (e:aP H H'):lZ t H' pa c:=by
 obtain ⟨r,dx,sl,wl,a1,a2,a3,a4,a5,a6,a7,lb,ss,ws,h0,hc,h1,h2,h3,h4,h5,h6,h7⟩:=h
 exact ⟨r,dx,sl,wl,a1,a2,a3,a4,a5,a6,a7,lb,ss,ws,e _ _ h0,hc.same e,e _ _ h1,e _ _ h2,e _ _ h3,e _ _ h4,e _ _ h5,e _ _ h6,h7.same e⟩
theorem uD (n:Nat) (p:Nat->Bool):(List.range (n+1)).filter p=(List.range n).filter p++if p n=true then [n] else []:=by
 rw [List.range_succ,List.filter_append]
 congr 1
 by_cases h:p n=true
 ·rw [if_pos h,List.filter_cons,if_pos h];rfl
 ·rw [if_neg h,List.filter_cons,if_neg h];rfl
theorem SQ (n:Nat) (p:Nat->Bool):((List.range n).filter p).length<=n:=by
 have:=List.length_filter_le p (List.range n)
 rwa [List.length_range] at this
def N8 (n:Nat):List V:=(List.range n).map λi=>V.int (i:Nat)
theorem ajQ {n i:Nat} {x:V} (h:(N8 n)[i]?=some x):i < n/\x=.int i:=by
 unfold N8 at h
 rw [List.getElem?_map] at h
 obtain ⟨y,e,rfl⟩:=Option.map_eq_some_iff.mp h
 obtain ⟨a,b⟩:=List.getElem?_eq_some_iff.mp e
 simp at a b
 exact ⟨a,by rw [b]⟩
theorem akm (n:Nat):(N8 n).length=n:=by unfold N8;simp
def BF (t:Adr):Sp:=λvs H Q _=>∃ x dx ca c H0,vs=[.ref x,.ref ca]/\H x=some (.ins t.bz dx [])/\H0 x=none/\aP H0 H/\ChI t H0 ca c/\Rdy c/\∀ H',lZ t H' x c->aP H0 H'->But x H H'->(∀ p,H p≠none->H0 p=none->p≠x->lZ t (wo p H') x c)->Q .non H'
theorem Tf {g:TG} {tt:TT} {te:TE} {σ:St} {H:Hp} {D nu:Addr} {n:Nat} {vs:List Nat} {Qd:Hp->Prop} (acc:Nat->List V) (hn:n<=64) (h0:acc 0=[]) (hl:H nu=some (.lst (N8 n))) (hD:H D=none) (ha:∀ i,i<=n->(acc i).length<=i)
  (hs:∀ i H1 (N:Hp->Prop),i < n->aP H H1->H1 D=some (.lst (acc i))->(∀ H3,aP H1 H3->acc (i+1)=acc i->N H3)->(∀ H4 y,aP H1 H4->acc (i+1)=acc i++[y]->∃ a,H4 D=some (.lst a)/\a.length < sizeLine/\N (upd H4 D (.lst (a++[y])))) ->
   g (.int i) (wipe σ vs) H1 λσ2 H2=>wipe σ2 vs=wipe σ vs/\tt σ2 H2 λb H3=>if b=true then te σ2 H3 λy H4=>∃ a,H4 D=some (.lst a)/\a.length < sizeLine/\N (upd H4 D (.lst (a++[y]))) else N H3)
  (hd:∀ H1,aP H H1->H1 D=some (.lst (acc n))->Qd H1):anC (Itl K nu) g tt te vs σ H D Qd:=by
 obtain ⟨Pv,hP⟩:∃ Pv:Nat->Hp->Prop,∀ i H1,Pv i H1↔i<=n/\aP H H1/\H1 D=some (.lst (acc i)):=⟨_,λ_ _=>Iff.rfl⟩
 refine ZY (xs:=N8 n) Pv ((hP _ _).mpr ⟨by omega,aT hD,by rw [ay,h0]⟩) (λi H1 _ p=>((hP _ _).mp p).2.1 _ _ hl) (λi x H1 hx hp=>?_) λH1 hp=>?_
 ·obtain ⟨_,p1,p2⟩:=(hP _ _).mp hp
  obtain ⟨hi,rfl⟩:=ajQ hx
  refine hs i H1 (Pv (i+1)) hi p1 p2 (λH3 z1 z2=>(hP _ _).mpr ⟨hi,p1.trans z1,by rw [z2];exact z1 _ _ p2⟩) λH4 y z1 z2=>⟨acc i,z1 _ _ p2,by have:=ha i (by omega);rw [sizeLine_eq];omega,(hP _ _).mpr ⟨hi,λb o e=>?_,?_⟩⟩
  ·rw [aq (ao e hD)];exact z1 _ _ (p1 b o e)
  ·rw [ay,z2]
 ·obtain ⟨_,p1,p2⟩:=(hP _ _).mp hp
  rw [akm] at p2
  exact hd H1 p1 p2
theorem F3 {H':Hp} {x C dx:Addr} {fs:List (Str×V)} {f:Str} {y:V} {R:Hp->Prop} (q:∀ H2,H2 x=some (.ins C dx (cj f y fs))->But x H' H2->R H2):R (upd H' x (.ins C dx (cj f y fs))):=q _ ay λa o n e=>by rw [aq n];exact e
theorem Gs {a b:TS} {D:Ends} {σ:St} {H:Hp} (h:a { D with nx:=b D } σ H):aK a b D σ H:=h
theorem bU {x:Addr} {G H1 H2:Hp} (hx:G x=none) (s:aP G H1) (b:But x H1 H2):aP G H2:=λa o e=>b a o (ao e hx) (s a o e)
theorem X7 {S:Sps} (T:Txt K mg t) (g1:S.jE=mH t) (g2:S.kO=qc t) (g3:S.oX=xX) (g4:S.cB=vO t) (g5:S.cU=oY t) (g6:S.aL=cV t)
  (g7:S.jm=pF t) (g8:S.Gf=Iv t) (g9:S.marked=qQ) {vs H Q E} (h:BF t vs H Q E):F5 K t S (fin Q) (L2.start ["self","chart","numbers","number"] vs) H:=by
 obtain ⟨x,dx,ca,c,H0,rfl,hx,hx0,s0,hI,rdy,q⟩:=h
 rw [anp] at hx
 obtain ⟨lb,dc,sl,wl,rv,ss,ws,h⟩:=id hI
 have wf:=h.wf
 have n1:=wf.n1
 have n2:=wf.n2
 have sts:aeS t H0 sl c:=⟨lb,wl,ss,ws,h.ch,wf⟩
 unfold F5
 refine Gs ?_
 simp_arith [(h.same s0).at_,tLR]
 refine len (h.same s0).ch.s1 ?_
 simp_arith [List.length_map,h.ch.s2]
 refine ⟨_,rfl,by rw [sizeLine_eq];omega,λnu hnu=>?_⟩
 obtain ⟨G1,hG1⟩:∃ G,G=upd H nu (.lst (N8 c.states.length)):=⟨_,rfl⟩
 rw [show upd H nu (.lst ((List.range c.states.length).map λi=>V.int (i:Nat)))=G1 from hG1.symm]
 have x1:G1 x=some (.ins t.bz dx Ls):=by rw [hG1,aq (ao hx hnu)];exact hx
 have k1:aP H0 G1:=by rw [hG1];exact s0.trans (aT hnu)
 have nu1:wo x G1 nu=some (.lst (N8 c.states.length)):=iB (by rw [hG1,ay]) (ao hx hnu).symm
 have A1:aP H0 (wo x G1):=MC hx0 k1
 refine Gs ?_
 simp_arith [(h.same k1).at_,x1]
 refine ⟨ako,F3 λG2 x2 b2=>?_⟩
 rw [alP] at x2
 have k2:aP (wo x G1) G2:=bU xN lB b2
 refine Gs ?_
 simp_arith [(h.same (A1.trans k2)).at_,x2]
 refine ⟨ajY,F3 λG3 x3 b3=>?_⟩
 rw [akN] at x3
 have k3:aP (wo x G1) G3:=bU xN k2 b3
 refine Gs ?_
 simp_arith [(h.same (A1.trans k3)).at_,g1]
 refine Vn (sts.same (A1.trans k3)) λH4 a1 s4 f4 e4=>?_
 simp_arith [s4 _ _ x3]
 refine ⟨akQ,F3 λG4 x4 b4=>?_⟩
 rw [aku] at x4
 have w4:aP (wo x H4) G4:=bU xN lB b4
 have v4:aP (wo x G1) (wo x H4):=MC xN (k3.trans s4)
 have e4':=iB e4 (ao x3 f4).symm
 have C4:aP H0 G4:=A1.trans (v4.trans w4)
 refine Gs ?_
 simp_arith [(h.same C4).at_,g2]
 refine VR (sts.same C4) λH5 a2 s5 f5 e5=>?_
 simp_arith [s5 _ _ x4]
 refine ⟨alT,F3 λG5 x5 b5=>?_⟩
 rw [ak1] at x5
 have w5:aP (wo x H5) G5:=bU xN lB b5
 have v5:aP (wo x H4) (wo x H5):=MC xN (w4.trans s5)
 have e5':=iB e5 (ao x4 f5).symm
 have C5:aP H0 G5:=C4.trans (s5.trans (λ_ _ e=>e)) |>.trans (aP.refl _) |> λ_=>A1.trans (v4.trans (v5.trans w5))
 have nu5:G5 nu=some (.lst (N8 c.states.length)):=w5 _ _ (v5 _ _ (v4 _ _ nu1))
 refine Gs ?_
 simp_arith
 refine ⟨⟨_,SqL.of nu5⟩,λa3 f6=>Tf (λi=>msk i λs i=>i∈Rc42.parts c s) n2 rfl nu5 f6 (λi _=>by rw [yi];exact Nat.le_refl _) (λi H6 N hi s6 _ _ hN=>?_) λH6 s6 e6=>?_⟩
 ·simp? [wipe,abv,(h.same (C5.trans s6)).at_,g4,g3]
  refine L4 ⟨lb,dc,sl,wl,rv,ss,ws,h.same (C5.trans s6)⟩ λH7 l s7 _ e7=>?_
  simp?
  refine K1 e7 (λy hy=>by have:=(aI.mp hy).1;omega) ?_
  exact hN H7 _ s7 SK
 simp_arith [s6 _ _ x5]
 refine ⟨ajS,F3 λG6 x6 b6=>?_⟩
 rw [akl] at x6
 have w6:aP (wo x H6) G6:=bU xN lB b6
 have v6:aP (wo x H5) (wo x H6):=MC xN (w5.trans s6)
 have e6':=iB e6 (ao x5 f6).symm
 have C6:aP H0 G6:=A1.trans (v4.trans (v5.trans (v6.trans w6)))
 have nu6:G6 nu=some (.lst (N8 c.states.length)):=w6 _ _ (v6 _ _ (v5 _ _ (v4 _ _ nu1)))
 refine Gs ?_
 simp_arith
 refine ⟨⟨_,SqL.of nu6⟩,λa4 f7=>Tf (λi=>(List.range i).map λs=>V.int (ko (Rc42.beginning c s))) n2 rfl nu6 f7 (λi _=>by simp) (λi H7 N hi s7 _ _ hN=>?_) λH7 s7 e7=>?_⟩
 ·simp? [wipe,abv,(h.same (C6.trans s7)).at_,g5]
  refine PB ⟨lb,dc,sl,wl,rv,ss,ws,h.same (C6.trans s7)⟩ hi λH8 s8=>?_
  exact hN H8 _ s8 (by rw [List.range_succ,List.map_append];rfl)
 simp_arith [s7 _ _ x6]
 refine ⟨alQ,F3 λG7 x7 b7=>?_⟩
 rw [aj3] at x7
 have w7:aP (wo x H7) G7:=bU xN lB b7
 have v7:aP (wo x H6) (wo x H7):=MC xN (w6.trans s7)
 have e7':wo x H7 a4=some (.lst (ang c)):=iB e7 (ao x6 f7).symm
 have C7:aP H0 G7:=A1.trans (v4.trans (v5.trans (v6.trans (v7.trans w7))))
 have nu7:G7 nu=some (.lst (N8 c.states.length)):=w7 _ _ (v7 _ _ (v6 _ _ (v5 _ _ (v4 _ _ nu1))))
 refine Gs ?_
 simp_arith [g3]
 refine ⟨⟨_,SqL.of nu7⟩,λae f8=>Tf (λi=>nts ((List.range i).filter λs=>decide ((c.at_ s).kind=2))) n2 rfl nu7 f8 (λi _=>by rw [dJ];exact SQ _ _) (λi H8 N hi s8 _ hN0 hN=>?_) λH8 s8 e8=>?_⟩
 ·have hc:=h.same (C7.trans s8)
  obtain ⟨a,_,i2,ad,aca,ala,st1,_⟩:=hc.ch.st hi
  simp? [wipe,hc.at_]
  refine ix hc.ch.s1 rfl i2 ?_
  simp? [st1]
  by_cases z:(c.at_ i).kind=2
  ·rw [if_pos (by omega)]
   exact hN H8 _ (aP.refl _) (by unfold nts;rw [uD,if_pos (by simp [z]),List.map_append];rfl)
  ·rw [if_neg (by omega)]
   exact hN0 H8 (aP.refl _) (by rw [uD,if_neg (by simp [z]),List.append_nil])
 refine K1 e8 (λy hy=>by have:=List.mem_range.mp (List.mem_filter.mp hy).1;omega) ?_
 have em:M (λi=>i∈(List.range c.states.length).filter λs=>decide ((c.at_ s).kind=2))=M (enP c):=fD λi _=>by unfold enP;simp [List.mem_filter]
 rw [em]
 simp_arith [s8 _ _ x7]
 refine ⟨ak9,F3 λG8 x8 b8=>?_⟩
 rw [aj1] at x8
 have w8:aP (wo x H7) G8:=bU xN (w7.trans s8) b8
 have C8:aP H0 G8:=A1.trans (v4.trans (v5.trans (v6.trans (v7.trans w8))))
 have nu8:G8 nu=some (.lst (N8 c.states.length)):=w8 _ _ (v7 _ _ (v6 _ _ (v5 _ _ (v4 _ _ nu1))))
 refine Gs ?_
 simp_arith [g3]
 refine ⟨⟨_,SqL.of nu8⟩,λap f9=>Tf (λi=>nts ((List.range i).filter λs=>Rc42.plain c s)) n2 rfl nu8 f9 (λi _=>by rw [dJ];exact SQ _ _) (λi H9 N hi s9 _ hN0 hN=>?_) λH9 s9 e9=>?_⟩
 ·simp? [wipe,s9 _ _ x8,Q5]
  refine ix (s9 _ _ (w8 _ _ e7')) rfl (U6 hi) ?_
  simp?
  have pz:Rc42.plain c i=true↔ko (Rc42.beginning c i)=-1:=by
   unfold Rc42.plain
   rw [List.isEmpty_iff,<-kU wf hi]
   cases Rc42.beginning c i with
   | none=>simp [ko]
   | some b=>simp [ko]
  by_cases z:ko (Rc42.beginning c i)=-1
  ·rw [if_pos z]
   exact hN H9 _ (aP.refl _) (by unfold nts;rw [uD,if_pos (pz.mpr z),List.map_append];rfl)
  ·rw [if_neg z]
   exact hN0 H9 (aP.refl _) (by rw [uD,if_neg (λy=>z (pz.mp y)),List.append_nil])
 refine K1 e9 (λy hy=>by have:=List.mem_range.mp (List.mem_filter.mp hy).1;omega) ?_
 have em2:M (λi=>i∈(List.range c.states.length).filter λs=>Rc42.plain c s)=M (plP c):=fD λi _=>by unfold plP;simp [List.mem_filter]
 rw [em2]
 simp_arith [s9 _ _ x8]
 refine ⟨akk,F3 λG9 x9 b9=>?_⟩
 rw [akb] at x9
 have w9:aP (wo x H7) G9:=bU xN (w8.trans s9) b9
 have C9:aP H0 G9:=A1.trans (v4.trans (v5.trans (v6.trans (v7.trans w9))))
 have nu9:G9 nu=some (.lst (N8 c.states.length)):=w9 _ _ (v7 _ _ (v6 _ _ (v5 _ _ (v4 _ _ nu1))))
 refine Gs ?_
 simp_arith
 refine ⟨⟨_,SqL.of nu9⟩,λa5 f10=>Tf (λi=>nts ((List.range i).filter λs=>decide (3<=(c.at_ s).kind))) n2 rfl nu9 f10 (λi _=>by rw [dJ];exact SQ _ _) (λi H10 N hi s10 _ hN0 hN=>?_) λH10 s10 e10=>?_⟩
 ·have hc:=h.same (C9.trans s10)
  obtain ⟨a,_,i2,ad,aca,ala,st1,_⟩:=hc.ch.st hi
  simp? [wipe,hc.at_,g6]
  refine ix hc.ch.s1 rfl i2 ?_
  simp? [st1]
  refine HC st1 (wf.kd i hi) ?_
  simp?
  by_cases z:3<=(c.at_ i).kind
  ·rw [if_pos z]
   exact hN H10 _ (aP.refl _) (by unfold nts;rw [uD,if_pos (by simp [z]),List.map_append];rfl)
  ·rw [if_neg z]
   exact hN0 H10 (aP.refl _) (by rw [uD,if_neg (by simp [z]),List.append_nil])
 simp_arith [s10 _ _ x9]
 refine ⟨akd,F3 λG10 x10 b10=>?_⟩
 rw [alu] at x10
 have w10:aP (wo x H10) G10:=bU xN lB b10
 have v10:aP (wo x H7) (wo x H10):=MC xN (w9.trans s10)
 have e10':wo x H10 a5=some (.lst (nts (V8 c))):=iB e10 (ao x9 f10).symm
 have C10:aP H0 G10:=A1.trans (v4.trans (v5.trans (v6.trans (v7.trans (v10.trans w10)))))
 refine Gs ?_
 simp_arith [g7]
 refine WD ⟨lb,dc,sl,wl,rv,ss,ws,h.same C10⟩ rdy λH11 a6 s11 f11 e11=>?_
 simp_arith [s11 _ _ x10]
 refine ⟨alA,?_⟩
 obtain ⟨G11,hG11⟩:∃ G,G=upd H11 x (HO.ins t.bz dx (cj "first_leads" (V.ref a6) (LY (V.ref sl) (V.ref wl) (V.ref a1) (V.ref a2) (V.ref a3) (V.ref a4) (V.int (M (enP c))) (V.int (M (plP c))) (V.ref a5)))):=⟨_,rfl⟩
 rw [<-hG11]
 have x11:=(congrFun hG11 x).trans ay
 rw [akL] at x11
 have b11:But x H11 G11:=λa o n e=>by rw [hG11,aq n];exact e
 have w11:aP (wo x H11) G11:=bU xN lB b11
 have v11:aP (wo x H10) (wo x H11):=MC xN (w10.trans s11)
 have e11':=iB e11 (ao x10 f11).symm
 have C11:aP H0 G11:=A1.trans (v4.trans (v5.trans (v6.trans (v7.trans (v10.trans (v11.trans w11))))))
 simp_arith [g8,g9,x11,Ro]
 refine LM λH12 pl s12 f12 e12=>?_
 simp_arith
 refine aky ⟨lb,dc,sl,wl,rv,ss,ws,h.same (C11.trans s12)⟩ e12 (uF _) (λs hs=>(qA.mp hs).2.1) λH13 a7 s13 f13 e13 e13p=>?_
 have x13:=s13 _ _ (s12 _ _ x11)
 simp_arith [x13]
 refine ⟨aje,F3 λG14 x14 b14=>?_⟩
 rw [aiG,am0] at x14
 have w14:aP (wo x H11) G14:=bU xN (w11.trans (s12.trans s13)) b14
 have w14':aP (wo x H13) G14:=bU xN lB b14
 have f10':aP (wo x H10) G14:=v11.trans w14
 have f7':aP (wo x H7) G14:=v10.trans f10'
 have f6':aP (wo x H6) G14:=v7.trans f7'
 have f5':aP (wo x H5) G14:=v6.trans f6'
 have f4':aP (wo x H4) G14:=v5.trans f5'
 have C14:aP H0 G14:=A1.trans (v4.trans f4')
 have o13:∀ {G:Hp},G x=H13 x->OffI G a7 (ly c (el (plP c)))->OffI (wo x G) a7 (ly c (el (plP c))):=by
  intro G hG e13
  obtain ⟨lab,Hb,kvs,o⟩:=e13
  rw [x13] at hG
  have nx:∀ {a o},G a=some o->(∀ C d fs,o≠.ins C d fs)->wo x G a=some o:=λ{a o} e n=>iB e λz=>by rw [z,hG] at e;cases e;exact n _ _ _ rfl
  exact ⟨lab,Hb,kvs,nx o.at_ (by simp),o.nd,o.ks,o.lf,o.nf,o.nw,λev=>(o.ev ev).imp id λ⟨d,y,l1,ls,y1,y2,y3⟩=>⟨d,y,l1,ls,nx y1 (by simp),y2,λk s ns l g1 g2=>⟨nx (y3 k s ns l g1 g2).1 (by simp),(y3 k s ns l g1 g2).2⟩⟩⟩
 refine q G14 ⟨rdy,dx,sl,wl,a1,a2,a3,a4,a5,a6,a7,lb,ss,ws,x14,h.ch.same C14,f4' _ _ e4',f5' _ _ e5',f6' _ _ e6',f7' _ _ e7',f10' _ _ e10',w14 _ _ e11',(o13 rfl e13).same w14'⟩ C14 (λa o n e=>f4' _ _ (v4 _ _ (iB (by rw [hG1,aq (ao e hnu)];exact e) n))) λp hp hp0 px=>?_
 obtain ⟨o,ho⟩:∃ o,H p=some o:=Option.ne_none_iff_exists'.mp hp
 have pG1:wo x G1 p=some o:=iB (by rw [hG1,aq (ao ho hnu)];exact ho) px
 have n1:a1≠p:=(ao (k3 _ _ pG1) f4).symm
 have p4:=v4 _ _ pG1
 have n2:a2≠p:=(ao (w4 _ _ p4) f5).symm
 have p5:=v5 _ _ p4
 have n3:a3≠p:=(ao (w5 _ _ p5) f6).symm
 have p6:=v6 _ _ p5
 have n4:a4≠p:=(ao (w6 _ _ p6) f7).symm
 have p7:=v7 _ _ p6
 have n5:a5≠p:=(ao (w9 _ _ p7) f10).symm
 have p10:=v10 _ _ p7
 have n6:a6≠p:=(ao (w10 _ _ p10) f11).symm
 have p12:=s12 _ _ (w11 _ _ (v11 _ _ p10))
 have e13q:=o13 (G:=wo p H13) (by unfold wo;rw [if_neg (Ne.symm px)]) (e13p p (by rw [p12];simp))
 have sq:aP (wo x (wo p H13)) (wo p G14):=λa u e=>by
  unfold wo at e
  split at e
  ·cases e
  ·rename_i nx
   split at e
   ·cases e
   ·rename_i np
    exact iB (b14 _ _ nx e) np
 exact ⟨rdy,dx,sl,wl,a1,a2,a3,a4,a5,a6,a7,lb,ss,ws,iB x14 (Ne.symm px),h.ch.same (MC hp0 C14),iB (f4' _ _ e4') n1,iB (f5' _ _ e5') n2,iB (f6' _ _ e6') n3,iB (f7' _ _ e7') n4,iB (f10' _ _ e10') n5,iB (w14 _ _ e11') n6,e13q.same sq⟩
def sE (c:Rc42.Chart) (L:List Nat) (a:Nat):Bool:=(a==0||(c.at_ a).kind==0)&&L.all λx=>Rc42.within c x a
def B6 (t:Adr):Sp:=λvs H Q _=>∃ pa c,∃ s:Nat,∃ L:List Nat,vs=[.ref pa,.int s,.int (M λi=>i∈L)]/\lZ t H pa c/\s < c.states.length/\s≠0/\(∀ x∈L,x < c.states.length/\x≠0) /\
 ∀ a,a < c.states.length->Rc42.within c s a=true->(Rc42.around c s).find? (sE c L)=some a->Q (.int (a:Nat)) H
theorem ajn {H:Hp} {Q:VK} {E:XK} {pa:Addr} {c:Rc42.Chart} {s:Nat} {L:List Nat} (h:lZ t H pa c) (hs:s < c.states.length) (s0:s≠0) (hL:∀ x∈L,x < c.states.length/\x≠0)
  (q:∀ a,a < c.states.length->Rc42.within c s a=true->(Rc42.around c s).find? (sE c L)=some a->Q (.int (a:Nat)) H):B6 t [.ref pa,.int s,.int (M λi=>i∈L)] H Q E:=⟨pa,c,s,L,rfl,h,hs,s0,hL,q⟩
theorem ahg {S:Sps} (T:Txt K mg t) {vs H Q E} (h:B6 t vs H Q E):vp K t S (fin Q) (L2.start ["self","source","leads","at"] vs) H:=by
 obtain ⟨pa,c,s,L,rfl,⟨rdy,dx,sl,wl,a1,a2,a3,a4,a5,a6,a7,lb,ss,ws,h0,hc,h1,h2,h3,h4,h5,h6,h7⟩,hs,s0,hL,q⟩:=h
 have wf:=rdy.wf
 have n1:=wf.n1
 have n2:=wf.n2
 unfold vp
 simp? [h0]
 obtain ⟨a,_,e2,ad,aca,ala,st1,_⟩:=hc.st hs
 refine ix hc.s1 rfl e2 ?_
 have pe:∀ {s},s≠0->kN s (c.at_ s)=((c.at_ s).parent:Nat):=λ{s} z=>by unfold kN;rw [if_neg z]
 simp? [st1,pe s0]
 obtain ⟨W,hW⟩:∃ W:Nat->St->Hp->Prop,∀ n σ H1,W n σ H1↔H1=H/\n < c.states.length/\Rc42.within c s n=true/\(Rc42.around c s).find? (sE c L)=(n::Rc42.around c n).find? (sE c L)/\σ=[some (.ref pa),some (.int s),some (.int (M λi=>i∈L)),some (.int (n:Nat))]:=⟨_,λ_ _ _=>Iff.rfl⟩
 have par:=wf.par s (by omega) hs
 refine ⟨W,⟨(c.at_ s).parent,(hW _ _ _).mpr ⟨rfl,by omega,(aH wf hs).mpr ⟨s0,.inl rfl⟩,by rw [nR wf hs,if_neg s0],rfl⟩⟩,?_⟩
 intro n σ H1 hw
 obtain ⟨rfl,hn,hwn,hf,rfl⟩:=(hW _ _ _).mp hw
 simp? [h0]
 obtain ⟨a,_,e2,ad,aca,ala,st1,_⟩:=hc.st hn
 refine ix hc.s1 rfl e2 ?_
 simp? [st1,h0]
 have inn:∀ x,x∈L->(Rc42.within c x n=true↔(x < c.states.length/\Rc42.within c x n=true)):=λx hx=>⟨λz=>⟨(hL x hx).1,z⟩,λz=>z.2⟩
 have test:M (λi=>i∈L/\¬(i < c.states.length/\Rc42.within c i n=true))=0↔(L.all λx=>Rc42.within c x n)=true:=by
  rw [lY,List.all_eq_true]
  constructor
  ·intro z x hx
   have:=z x (by have:=(hL x hx).1;omega)
   refine Classical.byContradiction λy=>this ⟨hx,λw=>y w.2⟩
  ·rintro z i _ ⟨a,b⟩
   exact b ⟨(hL i a).1,z i a⟩
 have go:¬sE c L n=true->n≠0->∃ N:St->Hp->Prop,(∀ σ' H',N σ' H'->∃ m',m' < n/\W m' σ' H')/\N [some (.ref pa),some (.int s),some (.int (M λi=>i∈L)),some (.int ((c.at_ n).parent:Nat))] H1:=λz n0=>by
  have pn:=wf.par n (by omega) hn
  refine ⟨_,λ_ _ y=>y,(c.at_ n).parent,pn.1,(hW _ _ _).mpr ⟨rfl,by omega,bB wf hs hwn ((aH wf hn).mpr ⟨n0,.inl rfl⟩),?_,rfl⟩⟩
  rw [hf,List.find?_cons,nR wf hn,if_neg n0]
  simp only [Bool.not_eq_true] at z
  rw [z]
 have z0:n=0->sE c L n=true:=λz=>by
  subst z
  unfold sE
  simp
  intro x hx
  exact HW wf (hL x hx).1 (hL x hx).2
 have body:¬sE c L n=true->∃ N:St->Hp->Prop,(∀ σ' H',N σ' H'->∃ m',m' < n/\W m' σ' H')/\bY K (V.ref sl) (V.int (n:Nat)) H1 λx H1=>∃ a,x=V.ref a/\∃ x_1 x_2 x_3,H1 a=some (HO.ins x_1 x_2 x_3)/\Cls K x_1/\bN K x_1 (Str.ofString "parent")/\∃ x,List.lookup (Str.ofString "parent") x_3=some x /\
   N [some (V.ref pa),some (V.int s),some (V.int (M λi=>i∈L)),some x] H1:=λz=>by
  have n0:n≠0:=λy=>z (z0 y)
  obtain ⟨N,N1,N2⟩:=go z n0
  refine ⟨N,N1,ix hc.s1 rfl e2 ?_⟩
  simp? [st1,pe n0]
  exact N2
 by_cases k:(c.at_ n).kind=0
 ·rw [if_neg (by omega)]
  refine ix h2 rfl (gO hn) ?_
  simp?
  rw [AN]
  by_cases al:(L.all λx=>Rc42.within c x n)=true
  ·rw [if_neg (λy=>y (test.mpr al))]
   refine q n hn hwn ?_
   rw [hf,List.find?_cons]
   have:sE c L n=true:=by unfold sE;rw [al];simp [k]
   rw [this]
  ·rw [if_pos (λy=>al (test.mp y))]
   simp? [h0]
   refine body λz=>al ?_
   unfold sE at z
   rw [Bool.and_eq_true] at z
   exact z.2
 ·rw [if_pos (by omega)]
  simp? [h0]
  refine body λz=>?_
  unfold sE at z
  rw [Bool.and_eq_true,Bool.or_eq_true] at z
  rcases z.1 with y | y
  ·have y:n=0:=by simpa using y
   rw [y] at k
   exact k wf.k0
  ·exact k (by simpa using y)
def Bro (c:Rc42.Chart) (F:Nat->Prop) (s i:Nat):Prop:=if (c.at_ s).kind=1 then i∈Rc42.parts c s else Rc42.beginning c s=some i/\∀ y,y < c.states.length->F y->Rc42.within c y s=false
def Ce (t:Adr):Sp:=λvs H Q _=>∃ pa c,∃ s:Nat,∃ F,vs=[.ref pa,.int s,.int (M F)]/\lZ t H pa c/\s < c.states.length/\Q (.int (M (Bro c F s))) H
theorem ais {H:Hp} {Q:VK} {E:XK} {pa:Addr} {c:Rc42.Chart} {s:Nat} {F:Nat->Prop} (h:lZ t H pa c) (hs:s < c.states.length) (q:Q (.int (M (Bro c F s))) H):Ce t [.ref pa,.int s,.int (M F)] H Q E:=⟨pa,c,s,F,rfl,h,hs,q⟩
theorem aha {S:Sps} (T:Txt K mg t) (g1:S.mark=gP) {vs H Q E} (h:Ce t vs H Q E):vV K t S (fin Q) (L2.start ["self","state","come_to"] vs) H:=by
 obtain ⟨pa,c,s,F,rfl,⟨rdy,dx,sl,wl,a1,a2,a3,a4,a5,a6,a7,lb,ss,ws,h0,hc,h1,h2,h3,h4,h5,h6,h7⟩,hs,q⟩:=h
 have wf:=rdy.wf
 have n2:=wf.n2
 obtain ⟨a,_,e2,ad,aca,ala,st1,_⟩:=hc.st hs
 unfold vV
 simp? [h0,g1]
 refine ix h4 rfl (U6 hs) ?_
 simp! [h0]
 cases eb:Rc42.beginning c s with
 | none=>
  simp! [ko]
  have pn:=(kU wf hs).mp eb
  have e:M (Bro c F s)=0:=by
   rw [<-wk]
   refine fD λi _=>⟨λz=>?_,False.elim⟩
   unfold Bro at z
   split at z
   ·rw [pn] at z;cases z
   ·rw [eb] at z;cases z.1
  rw [e] at q;exact q
 | some b=>
  have hb:=(aI.mp (bO wf hs eb)).1
  have nn:¬(b:Int)=-1:=by omega
  simp! [ko,nn]
  refine ix hc.s1 rfl e2 ?_
  simp! [st1,h0]
  by_cases k1:(c.at_ s).kind=1
  ·rw [if_pos (by omega)]
   refine ix h3 rfl (gO hs) ?_
   have e:M (Bro c F s)=M (λi=>i∈Rc42.parts c s):=fD λi _=>by unfold Bro;rw [if_pos k1]
   rw [e] at q;exact q
  ·rw [if_neg (by omega)]
   refine ix h2 rfl (gO hs) ?_
   simp! [h0]
   rw [xh]
   by_cases z:M (λi=>F i/\i < c.states.length/\Rc42.within c i s=true)=0
   ·rw [if_neg (λy=>y z)]
    refine ix h4 rfl (U6 hs) ?_
    simp! [eb,ko]
    refine j5 (by omega) ?_
    have e:M (Bro c F s)=M (λi=>i=b):=fD λi _=>by
     unfold Bro;rw [if_neg k1,eb]
     constructor
     ·rintro ⟨x,_⟩;cases x;rfl
     ·rintro rfl
      refine ⟨rfl,λy hy fy=>?_⟩
      cases w:Rc42.within c y s with
      | false=>rfl
      | true=>exact absurd ⟨fy,hy,w⟩ (lY.mp z y (by omega))
    rw [e] at q;exact q
   ·rw [if_pos z]
    have e:M (Bro c F s)=0:=by
     rw [<-wk]
     refine fD λi _=>⟨λw=>?_,False.elim⟩
     unfold Bro at w
     rw [if_neg k1] at w
     refine z (lY.mpr λy _ ⟨fy,hy,wy⟩=>?_)
     rw [w.2 y hy fy] at wy;cases wy
    rw [e] at q;exact q
inductive Gr (c:Rc42.Chart) (E:Nat->Prop):Nat->Prop where
 | ex {y:Nat}:E y->Gr c E y
 | side {A p:Nat}:Gr c E A->(c.at_ A).kind=1->p∈Rc42.parts c A->Gr c E p
 | beg {A b:Nat}:Gr c E A->(c.at_ A).kind≠1->Rc42.beginning c A=some b->(∀ y,E y->Rc42.within c y A=false)->Gr c E b
theorem Gr.lt {c:Rc42.Chart} (wf:Wf c) {E:Nat->Prop} (hE:∀ y,E y->y < c.states.length) {y:Nat} (h:Gr c E y):y < c.states.length:=by
 induction h with
 | ex h=>exact hE _ h
 | side _ _ h _=>exact (aI.mp h).1
 | beg _ _ h _ ih=>exact (aI.mp (bO wf ih h)).1
def Bj (t:Adr):Sp:=λvs H Q _=>∃ pa c E,vs=[.ref pa,.int (M E)]/\lZ t H pa c/\(∀ y,E y->y < c.states.length)/\Q (.int (M (Gr c E))) H
theorem af8 {H:Hp} {Q:VK} {E':XK} {pa:Addr} {c:Rc42.Chart} {E:Nat->Prop} (h:lZ t H pa c) (hE:∀ y,E y->y < c.states.length) (q:Q (.int (M (Gr c E))) H):Bj t [.ref pa,.int (M E)] H Q E':=⟨pa,c,E,rfl,h,hE,q⟩
theorem ajs {S:Sps} (T:Txt K mg t) (g1:S.jF=Ce t) {vs H Q E'} (h:Bj t vs H Q E'):zX K t S (fin Q) (L2.start ["self","come_to","found","rest","least","brought"] vs) H:=by
 obtain ⟨pa,c,E,rfl,hp,hE,q⟩:=h
 obtain ⟨rdy,dx,sl,wl,a1,a2,a3,a4,a5,a6,a7,lb,ss,ws,h0,hc,h1,h2,h3,h4,h5,h6,h7⟩:=id hp
 have wf:=rdy.wf
 have n2:=wf.n2
 unfold zX
 simp! [h0,g1]
 obtain ⟨W,hW⟩:∃ W:Nat->St->Hp->Prop,∀ n σ H1,W n σ H1↔H1=H/\∃ m F v4 v5,m<=64/\n=64 - m/\(∀ y,E y->F y)/\(∀ y,F y->Gr c E y)/\(∀ z,F z->E z\/(z≠0/\(c.at_ z).parent < m)) /\
   (∀ A p,F A->A < m->(c.at_ A).kind=1->p∈Rc42.parts c A->F p)/\(∀ A b,F A->A < m->(c.at_ A).kind≠1->Rc42.beginning c A=some b->(∀ y,E y->Rc42.within c y A=false)->F b) /\
   σ=[some (.ref pa),some (.int (M E)),some (.int (M F)),some (.int (M λi=>F i/\m<=i)),v4,v5]:=⟨_,λ_ _ _=>Iff.rfl⟩
 refine ⟨W,⟨64,(hW _ _ _).mpr ⟨rfl,0,E,none,none,by omega,rfl,λy h=>h,λy h=>.ex h,λz h=>.inl h,λA p _ z=>by omega,λA b _ z=>by omega,?_⟩⟩,?_⟩
 ·have e:M (λi=>E i/\0<=i)=M E:=fD λi _=>by simp
  rw [e]
 intro n σ H1 hw
 obtain ⟨rfl,m,F,v4,v5,hm,rfl,f1,f2,f3,f4,f5,rfl⟩:=(hW _ _ _).mp hw
 have flt:∀ y,F y->y < c.states.length:=λy hy=>(f2 y hy).lt wf hE
 simp!
 by_cases z:M (λi=>F i/\m<=i)=0
 ·simp! [z,not_true_eq_false]
  have none':∀ y,F y->y < m:=λy hy=>by
   rcases Nat.lt_or_ge y m with w | w
   ·exact w
   ·exact absurd ⟨hy,w⟩ (lY.mp z y (by have:=flt y hy;omega))
  have e:M (Gr c E)=M F:=fD λi hi=>⟨λg=>by
   clear hi
   induction g with
   | ex h=>exact f1 _ h
   | side _ k h ih=>exact f4 _ _ (ih) (none' _ ih) k h
   | beg _ k h no ih=>exact f5 _ _ ih (none' _ ih) k h no,λg=>f2 i g⟩
  rw [e] at q;exact q
 ·simp! [z,not_false_eq_true,h0]
  refine ⟨_,λ_ _ w=>w,?_⟩
  obtain ⟨k,k1,k2,k3,k4,k5,k6⟩:=ahE z
  rw [k4,k5]
  have hk:=flt k k2.1
  refine ais hp hk ?_
  simp!
  rw [Sg,AN,Sg]
  have inn:∀ y,F y->Rc42.within c y k=true->E y:=λy fy w=>by
   rcases f3 y fy with e | ⟨y0,e⟩
   ·exact e
   ·exfalso
    have hy:=flt y fy
    obtain ⟨_,w'⟩:=(aH wf hy).mp w
    have hmk:=k2.2
    rcases w' with w' | w'
    ·omega
    ·have pl:=(wf.par y (by omega) hy).1
     have:=eG wf (by omega) w'
     omega
  have noiff:(∀ y,y < c.states.length->F y->Rc42.within c y k=false)↔∀ y,E y->Rc42.within c y k=false:=by
   constructor
   ·intro w y e;exact w y (hE y e) (f1 y e)
   ·intro w y _ fy
    cases w':Rc42.within c y k with
    | false=>rfl
    | true=>rw [w y (inn y fy w')] at w';cases w'
  have bk:∀ i,Bro c F k i->i∈Rc42.parts c k:=λi b=>by
   unfold Bro at b
   split at b
   ·exact b
   ·exact bO wf hk b.1
  have bg:∀ i,Bro c F k i->Gr c E i:=λi b=>by
   unfold Bro at b
   split at b
   ·rename_i kk;exact .side (f2 k k2.1) kk b
   ·rename_i kk;exact .beg (f2 k k2.1) kk b.1 (noiff.mp b.2)
  have bp:∀ i,Bro c F k i->i≠0/\(c.at_ i).parent=k/\k < i:=λi b=>by
   obtain ⟨x1,x2,x3,_⟩:=aI.mp (bk i b)
   have:=(wf.par i (by omega) x1).1
   exact ⟨x2,x3,by omega⟩
  refine ⟨64 - (k+1),by have:=k2.2;omega,(hW _ _ _).mpr ⟨rfl,k+1,λi=>F i\/Bro c F k i,some (.int (M λi=>i=k)),some (.int (M (Bro c F k))),by omega,rfl,λy e=>.inl (f1 y e),λy e=>e.elim (f2 y) (bg y),λy e=>?_,λA p fA hA kA hp'=>?_,λA b fA hA kA eb no=>?_,?_⟩⟩
  ·rcases e with e | e
   ·rcases f3 y e with w | w
    ·exact .inl w
    ·exact .inr ⟨w.1,by have:=k2.2;omega⟩
   ·have:=bp y e
    exact .inr ⟨this.1,by omega⟩
  ·have fA':F A:=fA.elim id λb=>by have:=bp A b;omega
   by_cases e:A=k
   ·subst e
    exact .inr (by unfold Bro;rw [if_pos kA];exact hp')
   ·refine .inl (f4 A p fA' ?_ kA hp')
    rcases Nat.lt_or_ge A m with w | w
    ·exact w
    ·exact absurd ⟨fA',w⟩ (k3 A (by omega))
  ·have fA':F A:=fA.elim id λb=>by have:=bp A b;omega
   by_cases e:A=k
   ·subst e
    exact .inr (by unfold Bro;rw [if_neg kA];exact ⟨eb,noiff.mpr no⟩)
   ·refine .inl (f5 A b fA' ?_ kA eb no)
    rcases Nat.lt_or_ge A m with w | w
    ·exact w
    ·exact absurd ⟨fA',w⟩ (k3 A (by omega))
  ·have e:M (λi=>((F i/\m<=i)/\¬i=k)\/Bro c F k i)=M (λi=>(F i\/Bro c F k i)/\k+1<=i):=fD λi _=>by
    constructor
    ·rintro (⟨⟨a,b⟩,d⟩ | b)
     ·refine ⟨.inl a,?_⟩
      rcases Nat.lt_or_ge i (k+1) with w | w
      ·exact absurd ⟨a,b⟩ (k3 i (by omega))
      ·exact w
     ·exact ⟨.inr b,by have:=bp i b;omega⟩
    ·rintro ⟨a | a,b⟩
     ·exact .inl ⟨⟨a,by have:=k2.2;omega⟩,by omega⟩
     ·exact .inr a
   rw [e]
theorem TJ {f g:Nat->Bool}:∀ {l:List Nat},(∀ x∈l,f x=g x)->l.all f=l.all g
 | [],_=>rfl
 | a::l,h=>by rw [List.all_cons,List.all_cons,h a (List.mem_cons_self ..),TJ λx hx=>h x (List.mem_cons_of_mem _ hx)]
theorem Uk {c:Rc42.Chart} (wf:Wf c) (r:Rc42.Run):∀ (f p:Nat),c.states.length<=p+f->p < c.states.length->Rc42.ended c r f p=Rc42.ended c r (f+1) p
 | 0,p,h,hp=>by omega
 | f+1,p,h,hp=>by
  show (if (c.at_ p).kind=1 then (Rc42.parts c p).all λq=>Rc42.ended c r f q else _)=if (c.at_ p).kind=1 then (Rc42.parts c p).all λq=>Rc42.ended c r (f+1) q else _
  by_cases k:(c.at_ p).kind=1
  ·rw [if_pos k,if_pos k]
   refine TJ λq hq=>?_
   obtain ⟨m1,m2,m3,_⟩:=aI.mp hq
   have:=(wf.par q (by omega) m1).1
   exact Uk wf r f q (by omega) m1
  ·rw [if_neg k,if_neg k]
theorem ajK {c:Rc42.Chart} (wf:Wf c) (r:Rc42.Run) {s:Nat} (hs:s < c.states.length):Rc42.ended c r 64 s=if (c.at_ s).kind=1 then (Rc42.parts c s).all λp=>Rc42.ended c r 64 p else (Rc42.parts c s).any λp=>(c.at_ p).kind==2&&r.isIn.contains p:=by
 show (if (c.at_ s).kind=1 then (Rc42.parts c s).all λq=>Rc42.ended c r 63 q else _)=_
 by_cases k:(c.at_ s).kind=1
 ·rw [if_pos k,if_pos k]
  refine TJ λq hq=>?_
  obtain ⟨m1,m2,m3,_⟩:=aI.mp hq
  have:=wf.n2
  exact Uk wf r 63 q (by omega) m1
 ·rw [if_neg k,if_neg k]
def uw (t:Adr):Sp:=λvs H Q _=>∃ pa c,∃ s:Nat,∃ r:Rc42.Run,vs=[.ref pa,.int s,.int (M λi=>i∈r.isIn)]/\lZ t H pa c/\s < c.states.length/\Q (.bl (Rc42.ended c r 64 s)) H
theorem ae0 {H:Hp} {Q:VK} {E':XK} {pa:Addr} {c:Rc42.Chart} {s:Nat} {r:Rc42.Run} (h:lZ t H pa c) (hs:s < c.states.length) (q:Q (.bl (Rc42.ended c r 64 s)) H):uw t [.ref pa,.int s,.int (M λi=>i∈r.isIn)] H Q E':=⟨pa,c,s,r,rfl,h,hs,q⟩
theorem Zd {S:Sps} (T:Txt K mg t) (g1:S.mark=gP) {vs H Q E'} (h:uw t vs H Q E'):qy K t S (fin Q) (L2.start ["self","state","active","ended","number","inner_parts"] vs) H:=by
 obtain ⟨pa,c,s,r,rfl,⟨rdy,dx,sl,wl,a1,a2,a3,a4,a5,a6,a7,lb,ss,ws,h0,hc,h1,h2,h3,h4,h5,h6,h7⟩,hs,q⟩:=h
 have wf:=rdy.wf
 have n2:=wf.n2
 unfold qy
 simp? [h0,g1]
 refine len hc.s1 ?_
 simp? [List.length_map,hc.s2]
 refine ⟨_,RgC.neg (by omega) (by omega) (by omega) (by omega),?_⟩
 have en:((c.states.length:Int) - 1 - ((s:Int) - 1)).toNat=c.states.length - s:=by omega
 rw [en]
 obtain ⟨Pv,hP⟩:∃ Pv:Nat->St->Hp->Prop,∀ i σ H1,Pv i σ H1↔H1=H/\∃ v w,σ=[some (.ref pa),some (.int s),some (.int (M λi=>i∈r.isIn)),some (.int (M λk=>c.states.length - i<=k/\k < c.states.length/\Rc42.ended c r 64 k=true)),v,w]:=⟨_,λ_ _ _=>Iff.rfl⟩
 refine Tn (n:=c.states.length - s) Pv ((hP _ _ _).mpr ⟨rfl,none,none,?_⟩) ?_ ?_
 ·have e:M (λk=>c.states.length - 0<=k/\k < c.states.length/\Rc42.ended c r 64 k=true)=0:=by
   rw [<-wk];exact fD λi _=>⟨λz=>by omega,False.elim⟩
  rw [e]
 ·intro i σ H1 hi hp
  obtain ⟨rfl,v,w,rfl⟩:=(hP _ _ _).mp hp
  obtain ⟨k,hk⟩:∃ k,k=c.states.length - 1 - i:=⟨_,rfl⟩
  have ek:((c.states.length:Int) - 1+(i:Nat) * -1)=(k:Nat):=by omega
  rw [ek]
  have hkn:k < c.states.length:=by omega
  obtain ⟨a,_,e2,ad,aca,ala,st1,_⟩:=hc.st hkn
  simp? [h0]
  refine ix h3 rfl (gO hkn) ?_
  simp? [h0]
  refine ix hc.s1 rfl e2 ?_
  simp? [st1,h0]
  have ee:=ajK wf r hkn
  have e1:c.states.length - i=k+1:=by omega
  have e2:c.states.length - (i+1)=k:=by omega
  have yes:Rc42.ended c r 64 k=true->gP [V.int (k:Nat)] H1 (λy H1=>ipI (λi j=>Builtin.bitOr i j) (V.int (M λj=>c.states.length - i<=j/\j < c.states.length/\Rc42.ended c r 64 j=true)) y H1 λz H2=>Pv (i+1) [some (.ref pa),some (.int s),some (.int (M λi=>i∈r.isIn)),some z,some (.int (k:Nat)),some (.int (M λi=>i∈Rc42.parts c k))] H2) E0:=λy=>by
   refine j5 (by omega) ?_
   simp?
   rw [Sg]
   refine (hP _ _ _).mpr ⟨rfl,some (.int (k:Nat)),some (.int (M λi=>i∈Rc42.parts c k)),?_⟩
   have e:M (λj=>(c.states.length - i<=j/\j < c.states.length/\Rc42.ended c r 64 j=true)\/j=k)=M (λj=>c.states.length - (i+1)<=j/\j < c.states.length/\Rc42.ended c r 64 j=true):=fD λj _=>by
    constructor
    ·rintro (⟨a,b⟩ | rfl)
     ·exact ⟨by omega,b⟩
     ·exact ⟨by omega,hkn,y⟩
    ·rintro ⟨a,b,d⟩
     by_cases z:j=k
     ·exact .inr z
     ·exact .inl ⟨by omega,b,d⟩
   rw [e]
  have no:¬Rc42.ended c r 64 k=true->Pv (i+1) [some (.ref pa),some (.int s),some (.int (M λi=>i∈r.isIn)),some (.int (M λj=>c.states.length - i<=j/\j < c.states.length/\Rc42.ended c r 64 j=true)),some (.int (k:Nat)),some (.int (M λi=>i∈Rc42.parts c k))] H1:=λy=>by
   refine (hP _ _ _).mpr ⟨rfl,some (.int (k:Nat)),some (.int (M λi=>i∈Rc42.parts c k)),?_⟩
   have e:M (λj=>c.states.length - i<=j/\j < c.states.length/\Rc42.ended c r 64 j=true)=M (λj=>c.states.length - (i+1)<=j/\j < c.states.length/\Rc42.ended c r 64 j=true):=fD λj _=>by
    constructor
    ·rintro ⟨a,b⟩;exact ⟨by omega,b⟩
    ·rintro ⟨a,b,d⟩
     by_cases z:j=k
     ·subst z;exact absurd d y
     ·exact ⟨by omega,b,d⟩
   rw [e]
  have pk:∀ p∈Rc42.parts c k,k < p/\p < c.states.length:=λp hp=>by
   obtain ⟨m1,m2,m3,_⟩:=aI.mp hp
   have:=(wf.par p (by omega) m1).1
   omega
  by_cases k1:(c.at_ k).kind=1
  ·rw [if_pos (by omega),AN]
   rw [if_pos k1] at ee
   have ee:Rc42.ended c r 64 k=true↔∀ p∈Rc42.parts c k,Rc42.ended c r 64 p=true:=by rw [ee,List.all_eq_true]
   by_cases z:M (λj=>j∈Rc42.parts c k/\¬(c.states.length - i<=j/\j < c.states.length/\Rc42.ended c r 64 j=true))=0
   ·rw [if_pos z]
    refine yes ?_
    rw [ee]
    intro p hp
    have:=pk p hp
    have:=lY.mp z p (by omega)
    exact Classical.byContradiction λy=>this ⟨hp,λw=>y w.2.2⟩
   ·rw [if_neg z]
    refine no λy=>z (lY.mpr ?_)
    rintro p _ ⟨hp,x⟩
    have:=pk p hp
    exact x ⟨by omega,by omega,(ee.mp y) p hp⟩
  ·rw [if_neg (by omega),xh,xh]
   rw [if_neg k1] at ee
   by_cases z:M (λj=>(j∈Rc42.parts c k/\enP c j)/\j∈r.isIn)=0
   ·rw [if_neg (λy=>y z)]
    refine no λy=>?_
    rw [ee,List.any_eq_true] at y
    obtain ⟨p,hp,y⟩:=y
    rw [Bool.and_eq_true] at y
    have:=pk p hp
    exact lY.mp z p (by omega) ⟨⟨hp,by omega,by simpa using y.1⟩,by simpa using y.2⟩
   ·rw [if_pos z]
    refine yes ?_
    rw [ee,List.any_eq_true]
    refine Classical.byContradiction λy=>z (lY.mpr ?_)
    rintro p _ ⟨⟨hp,_,x⟩,x2⟩
    exact y ⟨p,hp,by rw [Bool.and_eq_true];exact ⟨by simpa using x,by simpa using x2⟩⟩
 ·intro σ H1 hp
  obtain ⟨rfl,v,w,rfl⟩:=(hP _ _ _).mp hp
  simp?
  refine j5 (by omega) ?_
  simp?
  rw [xh]
  have e:(!decide (M (λk=>(c.states.length - (c.states.length - s)<=k/\k < c.states.length/\Rc42.ended c r 64 k=true)/\k=s)=0))=Rc42.ended c r 64 s:=by
   cases z:Rc42.ended c r 64 s with
   | true=>
    simp only [Bool.not_eq_true',decide_eq_false_iff_not]
    intro y
    exact lY.mp y s (by omega) ⟨⟨by omega,hs,z⟩,rfl⟩
   | false=>
    simp only [Bool.not_eq_false',decide_eq_true_eq]
    refine lY.mpr ?_
    rintro k _ ⟨⟨_,_,y⟩,rfl⟩
    rw [z] at y;cases y
  rw [e];exact q
theorem qw {c:Rc42.Chart} {r r':Rc42.Run} (h:r'.kept=r.kept):∀ (f s:Nat),Rc42.leads c r' f s=Rc42.leads c r f s
 | 0,_=>rfl
 | f+1,s=>by
  unfold Rc42.leads
  rw [h]
  by_cases k:(c.at_ s).kind < 3
  ·rw [if_pos k,if_pos k]
  ·rw [if_neg k,if_neg k]
   cases r.kept.find? λx=>x.1==s with
   | some x=>rfl
   | none=>
    cases (c.ways.find? λw=>w.source==s).bind λw=>w.target with
    | some t=>exact qw h f t
    | none=>
     refine congrArg (List.flatMap · _) ?_
     funext t
     split
     ·rfl
     ·exact qw h f t
seal Rc42.leads Rc42.ended
theorem ldm {c:Rc42.Chart} {r r':Rc42.Run} {n:Nat} (h:r'.kept=r.kept):some (HO.lst (msk n λs i=>i∈Rc42.leads c r 64 s))=some (HO.lst (msk n λs i=>i∈Rc42.leads c r' 64 s)):=by
 rw [Ip (P:=λs i=>i∈Rc42.leads c r 64 s) (Q:=λs i=>i∈Rc42.leads c r' 64 s) λs _ i _=>by rw [qw h]]
structure RA where
 ra:Addr
 dx:Addr
 pa:Addr
 na:Addr
 la:Addr
 rl:Addr
 tl:Addr
def RA.has (A:RA) (a:Addr):Prop:=a=A.ra\/a=A.na\/a=A.la\/a=A.rl\/a=A.tl
structure Apart (S:Hp) (A:RA):Prop where
 ra:S A.ra=none
 na:S A.na=none
 la:S A.la=none
 rl:S A.rl=none
 tl:S A.tl=none
 n1:A.na≠A.la
 n2:A.na≠A.rl
 n3:A.na≠A.tl
 n4:A.la≠A.rl
 n5:A.la≠A.tl
 n6:A.rl≠A.tl
structure aoW (c:Rc42.Chart) (h:Nat) (l:List Nat):Prop where
 hl:h < c.states.length
 hk:3<=(c.at_ h).kind
 mem:∀ i∈l,i < c.states.length/\i≠0/\(c.at_ i).kind<=2/\Rc42.within c i (c.at_ h).parent=true
 nd:l.Pairwise (· < ·)
 anti:(∀ i∈l,Rc42.plain c i=true)\/∀ i∈l,(c.at_ i).parent=(c.at_ h).parent
structure jg (c:Rc42.Chart) (r:Rc42.Run):Prop where
 nl:r.numbers.length=16
 ii:∀ i∈r.isIn,i < c.states.length/\i≠0/\(c.at_ i).kind<=2
 so:r.isIn.Pairwise (· < ·)
 kp:∀ x∈r.kept,aoW c x.1 x.2
structure cu (t:Adr) (S H:Hp) (A:RA) (c:Rc42.Chart) (r:Rc42.Run) (hd T R:Nat):Prop where
 st:aP S H
 pl:lZ t S A.pa c
 ra:H A.ra=some (.ins t.aV A.dx (bF (.ref A.pa) (.ref A.na) (.ref A.la) (.int (M λi=>i∈r.isIn)) (.bl r.over) (.ref A.rl) (.int (hd:Nat)) (.ref A.tl)))
 na:H A.na=some (.lst (r.numbers.map V.int))
 la:H A.la=some (.lst (msk c.states.length λs i=>i∈Rc42.leads c r 64 s))
 rl:∃ al,H A.rl=some (.lst (nts al))/\hd<=al.length/\r.raised=al.drop hd/\al.length<=R
 tl:H A.tl=some (.lst (nts r.told))
 ap:Apart S A
 ok:jg c r
 bt:r.told.length<=T
def Frm (A:RA) (H H':Hp):Prop:=∀ a o,H a=some o->¬A.has a->H' a=some o
theorem Frm.refl (A:RA) (H:Hp):Frm A H H:=λ_ _ e _=>e
theorem Frm.trans {A:RA} {H H1 H2:Hp} (a:Frm A H H1) (b:Frm A H1 H2):Frm A H H2:=λx o e n=>b x o (a x o e n) n
theorem Frm.of_same {A:RA} {H H':Hp} (h:aP H H'):Frm A H H':=λa o e _=>h a o e
section
variable {S H H':Hp} {A:RA} {c:Rc42.Chart} {r:Rc42.Run} {hd T R T' R':Nat}
theorem cu.mono (h:cu t S H A c r hd T R) (h1:T<=T') (h2:R<=R'):cu t S H A c r hd T' R':=⟨h.st,h.pl,h.ra,h.na,h.la,let ⟨al,a,b,d,e⟩:=h.rl;⟨al,a,b,d,Nat.le_trans e h2⟩,h.tl,h.ap,h.ok,Nat.le_trans h.bt h1⟩
theorem cu.same (h:cu t S H A c r hd T R) (e:aP H H'):cu t S H' A c r hd T R:=⟨h.st.trans e,h.pl,e _ _ h.ra,e _ _ h.na,e _ _ h.la,let ⟨al,a,b⟩:=h.rl;⟨al,e _ _ a,b⟩,e _ _ h.tl,h.ap,h.ok,h.bt⟩
theorem cu.plan (h:cu t S H A c r hd T R):lZ t H A.pa c:=h.pl.same h.st
theorem cu.nes (h:cu t S H A c r hd T R):A.ra≠A.na/\A.ra≠A.la/\A.ra≠A.rl/\A.ra≠A.tl:=by
 obtain ⟨al,a,_⟩:=h.rl
 exact ⟨fL h.ra h.na (by simp),fL h.ra h.la (by simp),fL h.ra a (by simp),fL h.ra h.tl (by simp)⟩
theorem cu.raise (h:cu t S H A c r hd T R) {al:List Nat} (hal:H A.rl=some (.lst (nts al))) (hd1:hd<=al.length) (er:r.raised=al.drop hd) (hR:al.length<=R) (e:Nat):cu t S (upd H A.rl (.lst (nts al++[.int (e:Nat)]))) A c { r with raised:=r.raised++[e] } hd T (R+1):=by
 have ap:=h.ap
 obtain ⟨m1,m2,m3,m4⟩:=h.nes
 refine ⟨λa o z=>?_,h.pl,?_,?_,?_,⟨al++[e],?_,by simp;omega,?_,by simp;omega⟩,?_,ap,⟨h.ok.nl,h.ok.ii,h.ok.so,h.ok.kp⟩,h.bt⟩
 ·rw [aq (ao z ap.rl)];exact h.st a o z
 ·rw [aq m3];exact h.ra
 ·rw [aq ap.n2];exact h.na
 ·rw [aq ap.n4,h.la];exact ldm rfl
 ·rw [ay];unfold nts;simp
 ·show r.raised++[e]=_
  rw [er,List.drop_append_of_le_length hd1]
 ·rw [aq (Ne.symm ap.n6)];exact h.tl
theorem cu.nums (h:cu t S H A c r hd T R) (ns:List Int) (hl:ns.length=16):cu t S (upd H A.na (.lst (ns.map V.int))) A c { r with numbers:=ns } hd T R:=by
 have ap:=h.ap
 obtain ⟨m1,m2,m3,m4⟩:=h.nes
 obtain ⟨al,b1,b2⟩:=h.rl
 refine ⟨λa o z=>?_,h.pl,?_,?_,?_,⟨al,?_,b2⟩,?_,ap,⟨hl,h.ok.ii,h.ok.so,h.ok.kp⟩,h.bt⟩
 ·rw [aq (ao z ap.na)];exact h.st a o z
 ·rw [aq m1];exact h.ra
 ·rw [ay]
 ·rw [aq (Ne.symm ap.n1),h.la];exact ldm rfl
 ·rw [aq (Ne.symm ap.n2)];exact b1
 ·rw [aq (Ne.symm ap.n3)];exact h.tl
theorem o7 {p:Addr} {o:HO} (hp:A.has p):Frm A H (upd H p o):=λa u e n=>by rw [aq (λz=>n (by rw [z];exact hp))];exact e
end
def ux:Sp:=λvs H Q _=>∃ z,vs=[.int z]/\Q (.int (Rc42.wrap z)) H
theorem aao {S:Sps} {vs H Q E} (h:ux vs H Q E):Ez K t S (fin Q) (L2.start ["number"] vs) H:=by
 obtain ⟨z,rfl,q⟩:=h
 unfold Ez
 dsimp?
 exact ⟨by decide,q⟩
def Vc:Sp:=λvs H Q _=>∃ a:Nat,∃ n m,vs=[.int a,.int n,.int m]/\1<=a/\a<=3/\Q (.bl ((a==1&&n==m)||((a==2&&decide (n < m))||(a==3&&decide (m<=n))))) H
theorem akT {S:Sps} {vs H Q E} (h:Vc vs H Q E):ZD K t S (fin Q) (L2.start ["ask","number","much"] vs) H:=by
 obtain ⟨a,n,m,rfl,a1,a3,q⟩:=h
 unfold ZD
 dsimp!
 have:a=1\/a=2\/a=3:=by omega
 rcases this with rfl | rfl | rfl
 ·rw [if_pos (by omega)]
  have e:(n==m)=decide (n=m):=by rw [Bool.beq_eq_decide_eq]
  simpa [e] using q
 ·rw [if_neg (by omega),if_pos (by omega)];simpa using q
 ·rw [if_neg (by omega),if_neg (by omega)];simpa using q
def ur (t:Adr):Sp:=λvs H Q _=>∃ x p s l dx,vs=[.ref x,p,s,l]/\H x=some (.ins t.fN dx [])/\∀ H',H' x=some (.ins t.fN dx (mO p s l))->But x H H'->Q .non H'
theorem abI {S:Sps} (T:Txt K mg t) {vs H Q E} (h:ur t vs H Q E):GU K t S (fin Q) (L2.start ["self","path","stays","leaves"] vs) H:=by
 obtain ⟨x,p,s,l,dx,rfl,hx,q⟩:=h
 unfold GU
 simp! [hx,ay]
 refine ⟨by decide,by show 1 < 1000;decide,by show 2 < 1000;decide,q _ (by rw [ay];rfl) λb o hb e=>?_⟩
 rw [aq hb,aq hb,aq hb];exact e
def Xm (t:Adr):Sp:=λvs H Q _=>∃ S A c r hd T R al as,vs=[.ref A.ra,.ref al]/\cu t S H A c r hd T R/\gG S al as/\(∀ a∈as,Di a)/\as.length<=16/\R<=10000000/\∀ H',cu t S H' A c (Rc42.acts r as) hd T (R+16)->Frm A H H'->Q .non H'
theorem aog {S H:Hp} {Q:VK} {E:XK} {A:RA} {c:Rc42.Chart} {r:Rc42.Run} {hd T R:Nat} {al:Addr} {as:List Rc42.Act} (h:cu t S H A c r hd T R) (ha:gG S al as) (hk:∀ a∈as,Di a) (hl:as.length<=16) (hR:R<=10000000)
  (q:∀ H',cu t S H' A c (Rc42.acts r as) hd T (R+16)->Frm A H H'->Q .non H'):Xm t [.ref A.ra,.ref al] H Q E:=⟨S,A,c,r,hd,T,R,al,as,rfl,h,ha,hk,hl,hR,q⟩
theorem anl {z:Int} (h1:-2147483648<=z) (h2:z<=2147483647):Rc42.wrap z=z:=by unfold Rc42.wrap;omega
theorem ao2 {Sp:Sps} (T:Txt K mg t) (g1:Sp.qp=ux) {vs H Q E} (h:Xm t vs H Q E):Tj K t Sp (fin Q) (L2.start ["self","acts","kind","which","much"] vs) H:=by
 obtain ⟨S,A,c,r,hd,TT,R,al,as,rfl,h,⟨ts,e1,e2,e3⟩,hk,hl,hR,q⟩:=h
 have sl:=sizeLine_eq
 unfold Tj
 simp?
 refine ⟨⟨_,SqL.of (h.st _ _ e1)⟩,?_⟩
 obtain ⟨Pv,hP⟩:∃ Pv:Nat->St->Hp->Prop,∀ i σ H1,Pv i σ H1↔cu t S H1 A c (Rc42.acts r (as.take i)) hd TT (R+i)/\Frm A H H1/\∃ v w x,σ=[some (.ref A.ra),some (.ref al),v,w,x]:=⟨_,λ_ _ _=>Iff.rfl⟩
 refine jL (xs:=ts.map V.ref) Pv ((hP _ _ _).mpr ⟨h,Frm.refl A H,_,_,_,rfl⟩) (λi σ H1 _ p=>((hP _ _ _).mp p).1.st _ _ e1) ?_ ?_
 ·intro i x σ H1 hx hp
  obtain ⟨p1,p2,v,w,x',rfl⟩:=(hP _ _ _).mp hp
  rw [List.getElem?_map] at hx
  obtain ⟨tu,etu,rfl⟩:=Option.map_eq_some_iff.mp hx
  have hi:i < as.length:=by rw [<-e2];exact (List.getElem?_eq_some_iff.mp etu).1
  obtain ⟨a,ea⟩:∃ a,as[i]?=some a:=⟨_,List.getElem?_eq_getElem hi⟩
  have ok:=hk a (List.mem_of_getElem? ea)
  have tk:Rc42.acts r (as.take (i+1))=Rc42.act (Rc42.acts r (as.take i)) a:=by
   rw [List.take_add_one,ea];unfold Rc42.acts;rw [List.foldl_append];rfl
  refine gT (p1.st _ _ (e3 i a tu ea etu)) rfl ?_
  simp? [p1.ra]
  obtain ⟨rl,b1,b2,b3,b4⟩:=p1.rl
  by_cases k0:a.kind=0
  ·rw [if_pos (by omega)]
   refine ⟨tyL b1,app b1 (by rw [dJ];omega) ((hP _ _ _).mpr ⟨?_,p2.trans (o7 (.inr (.inr (.inr (.inl rfl))))),_,_,_,rfl⟩)⟩
   rw [tk]
   have e:Rc42.act (Rc42.acts r (as.take i)) a={ Rc42.acts r (as.take i) with raised:=(Rc42.acts r (as.take i)).raised++[a.which] }:=by unfold Rc42.act;rw [if_pos k0]
   rw [e]
   exact p1.raise b1 b2 b3 b4 a.which
  ·rw [if_neg (by omega)]
   have wl:=ok.2.2.1 k0
   have nl:=p1.ok.nl
   have wlt:a.which < (Rc42.acts r (as.take i)).numbers.length:=by omega
   have eix:ixN ((Rc42.acts r (as.take i)).numbers.map V.int).length (a.which:Nat)=some a.which:=by unfold ixN;simp;omega
   by_cases k1:a.kind=1
   ·rw [if_pos (by omega)]
    simp? [YA,p1.ra]
    refine ⟨A.na,_,_,a.which,rfl,rfl,p1.na,eix,(hP _ _ _).mpr ⟨?_,p2.trans (o7 (.inr (.inl rfl))),_,_,_,rfl⟩⟩
    rw [tk]
    have e:Rc42.act (Rc42.acts r (as.take i)) a={ Rc42.acts r (as.take i) with numbers:=(Rc42.acts r (as.take i)).numbers.set a.which a.much }:=by
     unfold Rc42.act;rw [if_neg k0,if_pos k1,anl ok.2.2.2.1 ok.2.2.2.2]
    rw [e,<-List.map_set]
    exact (p1.nums _ (by simp [nl])).mono (Nat.le_refl _) (by omega)
   ·rw [if_neg (by omega)]
    have eg:(Rc42.acts r (as.take i)).numbers[a.which]?=some ((Rc42.acts r (as.take i)).numbers.getD a.which 0):=by rw [List.getD_eq_getElem?_getD,List.getElem?_eq_getElem wlt];rfl
    refine ix p1.na rfl (j:=a.which) (v:=.int ((Rc42.acts r (as.take i)).numbers.getD a.which 0)) (by rw [List.getElem?_map,eg];rfl) ?_
    simp? [g1,ux,YA,p1.ra]
    refine ⟨A.na,_,_,a.which,rfl,rfl,p1.na,eix,(hP _ _ _).mpr ⟨?_,p2.trans (o7 (.inr (.inl rfl))),_,_,_,rfl⟩⟩
    rw [tk]
    have e:Rc42.act (Rc42.acts r (as.take i)) a={ Rc42.acts r (as.take i) with numbers:=(Rc42.acts r (as.take i)).numbers.set a.which (Rc42.wrap ((Rc42.acts r (as.take i)).numbers.getD a.which 0+a.much)) }:=by
     unfold Rc42.act;rw [if_neg k0,if_neg k1]
    rw [e,<-List.map_set]
    exact (p1.nums _ (by simp [nl])).mono (Nat.le_refl _) (by omega)
 ·intro σ H1 hp
  obtain ⟨p1,p2,v,w,x',rfl⟩:=(hP _ _ _).mp hp
  rw [List.length_map,e2,List.take_length] at p1
  exact q H1 (p1.mono (Nat.le_refl _) (by omega)) p2
theorem W4 (x y:List Nat):∀ (as:List Rc42.Act) (r:Rc42.Run),Rc42.acts { r with isIn:=x,told:=y } as={ Rc42.acts r as with isIn:=x,told:=y }
 | [],_=>rfl
 | a::as,r=>by
  show Rc42.acts (Rc42.act { r with isIn:=x,told:=y } a) as={ Rc42.acts (Rc42.act r a) as with isIn:=x,told:=y }
  rw [<-W4 x y as]
  congr 1
  unfold Rc42.act
  by_cases k:a.kind=0
  ·rw [if_pos k,if_pos k]
  ·rw [if_neg k,if_neg k]
theorem AX:∀ (as:List Rc42.Act) (r:Rc42.Run),(Rc42.acts r as).isIn=r.isIn/\(Rc42.acts r as).kept=r.kept/\(Rc42.acts r as).told=r.told/\(Rc42.acts r as).over=r.over
 | [],_=>⟨rfl,rfl,rfl,rfl⟩
 | a::as,r=>by
  have ih:=AX as (Rc42.act r a)
  have e:(Rc42.act r a).isIn=r.isIn/\(Rc42.act r a).kept=r.kept/\(Rc42.act r a).told=r.told/\(Rc42.act r a).over=r.over:=by
   unfold Rc42.act
   by_cases k:a.kind=0
   ·rw [if_pos k];exact ⟨rfl,rfl,rfl,rfl⟩
   ·rw [if_neg k];exact ⟨rfl,rfl,rfl,rfl⟩
  exact ⟨ih.1.trans e.1,ih.2.1.trans e.2.1,ih.2.2.1.trans e.2.2.1,ih.2.2.2.trans e.2.2.2⟩
theorem d8 {l:List Nat} {i:Nat}:i∈Rc42.rising l↔i < 64/\i∈l:=by unfold Rc42.rising;simp [List.mem_filter]
theorem lU (l:List Nat):(Rc42.rising l).Pairwise (· < ·):=List.Pairwise.filter _ List.pairwise_lt_range
theorem W8 {P:Nat->Prop} {l:List Nat} (h:∀ i,i < 64->(P i↔i∈l)):el P=Rc42.rising l:=ahA (lU l) λx=>by rw [d8];exact ⟨λ⟨a,b⟩=>⟨a,(h x a).mpr b⟩,λ⟨a,b⟩=>⟨a,(h x a).mp b⟩⟩
section
variable {S H H':Hp} {A:RA} {c:Rc42.Chart} {r:Rc42.Run} {hd T R T' R':Nat}
theorem cu.act (h:cu t S H A c r hd T R) (l:List Nat) (ov:Bool) (hl:∀ i∈l,i < c.states.length/\i≠0/\(c.at_ i).kind<=2) (so:l.Pairwise (· < ·)) :
  cu t S (upd H A.ra (.ins t.aV A.dx (bF (.ref A.pa) (.ref A.na) (.ref A.la) (.int (M λi=>i∈l)) (.bl ov) (.ref A.rl) (.int (hd:Nat)) (.ref A.tl)))) A c { r with isIn:=l,over:=ov } hd T R:=by
 have ap:=h.ap
 obtain ⟨m1,m2,m3,m4⟩:=h.nes
 obtain ⟨al,b1,b2⟩:=h.rl
 refine ⟨λa o z=>?_,h.pl,ay,?_,?_,⟨al,?_,b2⟩,?_,ap,⟨h.ok.nl,hl,so,h.ok.kp⟩,h.bt⟩
 ·rw [aq (ao z ap.ra)];exact h.st a o z
 ·rw [aq (Ne.symm m1)];exact h.na
 ·rw [aq (Ne.symm m2),h.la];exact ldm rfl
 ·rw [aq (Ne.symm m3)];exact b1
 ·rw [aq (Ne.symm m4)];exact h.tl
theorem cu.tell (h:cu t S H A c r hd T R) (x:Nat):cu t S (upd H A.tl (.lst (nts r.told++[.int (x:Nat)]))) A c { r with told:=r.told++[x] } hd (T+1) R:=by
 have ap:=h.ap
 obtain ⟨m1,m2,m3,m4⟩:=h.nes
 obtain ⟨al,b1,b2⟩:=h.rl
 refine ⟨λa o z=>?_,h.pl,?_,?_,?_,⟨al,?_,b2⟩,?_,ap,⟨h.ok.nl,h.ok.ii,h.ok.so,h.ok.kp⟩,?_⟩
 ·rw [aq (ao z ap.tl)];exact h.st a o z
 ·rw [aq m4];exact h.ra
 ·rw [aq ap.n3];exact h.na
 ·rw [aq ap.n5,h.la];exact ldm rfl
 ·rw [aq ap.n6];exact b1
 ·rw [ay];unfold nts;simp
 ·have:=h.bt;simp;omega
end
def ME (c:Rc42.Chart) (r:Rc42.Run) (p:Nat):Rc42.Run:=if p=0 then { r with over:=true } else
 if (c.at_ p).parent≠0/\(c.at_ (c.at_ p).parent).kind=1/\Rc42.ended c { r with raised:=r.raised++[256+p] } 64 (c.at_ p).parent=true then { r with raised:=(r.raised++[256+p])++[256+(c.at_ p).parent] } else { r with raised:=r.raised++[256+p] }
def aak (t:Adr):Sp:=λvs H Q _=>∃ S A c r hd T R,∃ p:Nat,vs=[.ref A.ra,.int p]/\cu t S H A c r hd T R/\p < c.states.length/\R<=10000000/\∀ H',cu t S H' A c (ME c r p) hd T (R+2)->Frm A H H'->Q .non H'
theorem apk {S H:Hp} {Q:VK} {E:XK} {A:RA} {c:Rc42.Chart} {r:Rc42.Run} {hd T R p:Nat} (h:cu t S H A c r hd T R) (hp:p < c.states.length) (hR:R<=10000000) (q:∀ H',cu t S H' A c (ME c r p) hd T (R+2)->Frm A H H'->Q .non H'):aak t [.ref A.ra,.int p] H Q E:=⟨S,A,c,r,hd,T,R,p,rfl,h,hp,hR,q⟩
theorem an3 {Sp:Sps} (T:Txt K mg t) (g1:Sp.gE=uw t) {vs H Q E} (h:aak t vs H Q E):OF K t Sp (fin Q) (L2.start ["self","parent","outer"] vs) H:=by
 obtain ⟨S,A,c,r,hd,TT,R,p,rfl,h,hp,hR,q⟩:=h
 have sl:=sizeLine_eq
 obtain ⟨rdy,dx,sla,wl,a1,a2,a3,a4,a5,a6,a7,lb,ss,ws,h0,hc,_⟩:=h.pl
 have wf:=rdy.wf
 unfold OF
 simp! [h.ra]
 by_cases p0:p=0
 ·subst p0
  rw [if_pos (by omega)]
  refine q _ ?_ (o7 (.inl rfl))
  have e:ME c r 0={ r with isIn:=r.isIn,over:=true }:=by unfold ME;rw [if_pos rfl]
  rw [e]
  exact (h.act r.isIn true h.ok.ii h.ok.so).mono (Nat.le_refl _) (by omega)
 ·rw [if_neg (by omega)]
  obtain ⟨al,b1,b2,b3,b4⟩:=h.rl
  refine ⟨tyL b1,app b1 (by rw [dJ];omega) ?_⟩
  have ev:(256:Int)+(p:Nat)=((256+p:Nat):Int):=by omega
  rw [ev]
  have h1:=h.raise b1 b2 b3 b4 (256+p)
  obtain ⟨H1,hH1⟩:∃ H1,H1=upd H A.rl (.lst (nts al++[.int ((256+p:Nat):Int)])):=⟨_,rfl⟩
  rw [<-hH1] at h1 ⊢
  have f1:Frm A H H1:=by rw [hH1];exact o7 (.inr (.inr (.inr (.inl rfl))))
  simp! [h1.ra,h1.st _ _ h0]
  obtain ⟨a,_,e2,ad,aca,ala,st1,_⟩:=hc.st hp
  have pe:kN p (c.at_ p)=((c.at_ p).parent:Nat):=by unfold kN;rw [if_neg p0]
  have par:=wf.par p (by omega) hp
  refine ix (h1.st _ _ hc.s1) rfl e2 ?_
  simp! [h1.st _ _ st1,pe,h1.ra,h1.st _ _ h0]
  obtain ⟨g,hg⟩:∃ g,g=(c.at_ p).parent:=⟨_,rfl⟩
  rw [<-hg] at par ⊢
  have hgn:g < c.states.length:=by omega
  obtain ⟨a',_,e2',ad',aca',ala',st1',_⟩:=hc.st hgn
  refine ix (h1.st _ _ hc.s1) rfl e2' ?_
  simp! [h1.st _ _ st1',h1.ra]
  have no:¬(g≠0/\(c.at_ g).kind=1/\Rc42.ended c { r with raised:=r.raised++[256+p] } 64 g=true)->Q .non H1:=λz=>by
   refine q H1 ?_ f1
   have e:ME c r p={ r with raised:=r.raised++[256+p] }:=by unfold ME;rw [if_neg p0,<-hg,if_neg z]
   rw [e];exact h1.mono (Nat.le_refl _) (by omega)
  by_cases k1:(c.at_ g).kind=1
  ·rw [if_pos (by omega)]
   simp! [h1.st _ _ h0,g1]
   refine ae0 (r:={ r with raised:=r.raised++[256+p] }) h1.plan hgn ?_
   simp! [h1.ra]
   cases ze:Rc42.ended c { r with raised:=r.raised++[256+p] } 64 g with
   | false=>simp!;exact no λz=>by rw [ze] at z;cases z.2.2
   | true=>
    simp!
    obtain ⟨al2,d1,d2,d3,d4⟩:=h1.rl
    refine ⟨tyL d1,app d1 (by rw [dJ];omega) ?_⟩
    have ev:(256:Int)+(g:Nat)=((256+g:Nat):Int):=by omega
    rw [ev]
    refine q _ ?_ (f1.trans (o7 (.inr (.inr (.inr (.inl rfl))))))
    have g0:g≠0:=λz=>by rw [z,wf.k0] at k1;omega
    have e:ME c r p={ r with raised:=(r.raised++[256+p])++[256+g] }:=by unfold ME;rw [if_neg p0,<-hg,if_pos ⟨g0,k1,ze⟩]
    rw [e];exact (h1.raise d1 d2 d3 d4 (256+g)).mono (Nat.le_refl _) (by omega)
  ·rw [if_neg (by omega)]
   exact no λz=>k1 z.2.1
def rR (c:Rc42.Chart) (r:Rc42.Run) (s:Nat):Rc42.Run:=
 let r':Rc42.Run:=Rc42.acts { r with isIn:=Rc42.rising (s::r.isIn),told:=r.told++[s] } (c.at_ s).come
 if (c.at_ s).kind≠2 then r' else ME c r' (c.at_ s).parent
theorem Oe (c:Rc42.Chart) (r:Rc42.Run) (l:List Nat):Rc42.come c r l=(Rc42.rising l).foldl (rR c) r:=by
 unfold Rc42.come
 refine congrArg (λf=>(Rc42.rising l).foldl f r) ?_
 funext r s
 unfold rR ME
 rfl
def LB (t:Adr):Sp:=λvs H Q _=>∃ S A c r hd T R P,vs=[.ref A.ra,.int (M P)]/\cu t S H A c r hd T R/\(∀ i,P i->i < c.states.length/\i≠0/\(c.at_ i).kind<=2)/\R<=9000000/\T<=9000000/\∀ H',cu t S H' A c ((el P).foldl (rR c) r) hd (T+64) (R+1152)->Frm A H H'->Q .non H'
theorem ajW {S H:Hp} {Q:VK} {E:XK} {A:RA} {c:Rc42.Chart} {r:Rc42.Run} {hd T R:Nat} {P:Nat->Prop} (h:cu t S H A c r hd T R) (hp:∀ i,P i->i < c.states.length/\i≠0/\(c.at_ i).kind<=2) (hR:R<=9000000) (hT:T<=9000000) (q:∀ H',cu t S H' A c ((el P).foldl (rR c) r) hd (T+64) (R+1152)->Frm A H H'->Q .non H'):LB t [.ref A.ra,.int (M P)] H Q E:=⟨S,A,c,r,hd,T,R,P,rfl,h,hp,hR,hT,q⟩
theorem yw {S H:Hp} {A:RA} {c:Rc42.Chart} {r:Rc42.Run} {hd T R:Nat} {l:Addr} (h:cu t S H A c r hd T R) (hl:H l=none):¬A.has l:=λz=>by
 obtain ⟨al,b1,_⟩:=h.rl
 rcases z with z | z | z | z | z
 ·rw [z,h.ra] at hl;cases hl
 ·rw [z,h.na] at hl;cases hl
 ·rw [z,h.la] at hl;cases hl
 ·rw [z,b1] at hl;cases hl
 ·rw [z,h.tl] at hl;cases hl
theorem alU {Sp:Sps} (T:Txt K mg t) (g1:Sp.marked=qQ) (g2:Sp.mark=gP) (g3:Sp.qS=Xm t) (g4:Sp.BS=aak t) {vs H Q E} (h:LB t vs H Q E):La K t Sp (fin Q) (L2.start ["self","states","state"] vs) H:=by
 obtain ⟨S,A,c,r,hd,TT,R,P,rfl,h,hPs,hR,hT,q⟩:=h
 have slz:=sizeLine_eq
 obtain ⟨rdy,dx,sla,wl,a1,a2,a3,a4,a5,a6,a7,lb,ss,ws,h0,hc,_⟩:=h.pl
 have wf:=rdy.wf
 have n2:=wf.n2
 unfold La
 simp? [g1]
 refine LM λH0 l s0 hl e0=>?_
 simp?
 refine ⟨⟨_,SqL.of e0⟩,?_⟩
 have nl:=yw h hl
 obtain ⟨Pv,hP⟩:∃ Pv:Nat->St->Hp->Prop,∀ i σ H1,Pv i σ H1↔cu t S H1 A c (((el P).take i).foldl (rR c) r) hd (TT+i) (R+18 * i)/\Frm A H0 H1/\∃ v,σ=[some (.ref A.ra),some (.int (M P)),v]:=⟨_,λ_ _ _=>Iff.rfl⟩
 refine jL (xs:=nts (el P)) Pv ((hP _ _ _).mpr ⟨h.same s0,Frm.refl _ _,_,rfl⟩) (λi σ H1 _ p=>((hP _ _ _).mp p).2.1 _ _ e0 nl) ?_ ?_
 ·intro i x σ H1 hx hp
  obtain ⟨p1,p2,v,rfl⟩:=(hP _ _ _).mp hp
  obtain ⟨s,es,rfl⟩:=yt hx
  have hi:i < 64:=by have:=(List.getElem?_eq_some_iff.mp es).1;have:=J9 P;omega
  obtain ⟨hs64,hPsm⟩:=qA.mp (List.mem_of_getElem? es)
  obtain ⟨hs,s0',ks⟩:=hPs s hPsm
  obtain ⟨r1,hr1⟩:∃ r1,r1=((el P).take i).foldl (rR c) r:=⟨_,rfl⟩
  rw [<-hr1] at p1
  have tk:((el P).take (i+1)).foldl (rR c) r=rR c r1 s:=by rw [List.take_add_one,es,List.foldl_append,<-hr1];rfl
  simp? [p1.ra,g2]
  refine j5 hs64 ?_
  simp? [p1.ra]
  rw [Sg]
  have em:M (λj=>j∈r1.isIn\/j=s)=M (λj=>j∈Rc42.rising (s::r1.isIn)):=fD λj hj=>by rw [d8];simp [hj,or_comm]
  rw [em]
  have h2:=p1.act (Rc42.rising (s::r1.isIn)) r1.over (λj hj=>by
   have:=(d8.mp hj).2
   rcases List.mem_cons.mp this with rfl | z
   ·exact ⟨hs,s0',ks⟩
   ·exact p1.ok.ii j z) (lU _)
  obtain ⟨H2,hH2⟩:∃ H2,H2=upd H1 A.ra (.ins t.aV A.dx (bF (.ref A.pa) (.ref A.na) (.ref A.la) (.int (M λi=>i∈Rc42.rising (s::r1.isIn))) (.bl r1.over) (.ref A.rl) (.int (hd:Nat)) (.ref A.tl))):=⟨_,rfl⟩
  rw [<-hH2] at h2 ⊢
  have f2:Frm A H1 H2:=by rw [hH2];exact o7 (.inl rfl)
  simp? [h2.ra]
  refine ⟨tyL h2.tl,app h2.tl (by rw [dJ];have:=h2.bt;omega) ?_⟩
  have h3:=h2.tell s
  obtain ⟨H3,hH3⟩:∃ H3,H3=upd H2 A.tl (.lst (nts r1.told++[.int (s:Nat)])):=⟨_,rfl⟩
  rw [<-hH3] at h3 ⊢
  have f3:Frm A H2 H3:=by rw [hH3];exact o7 (.inr (.inr (.inr (.inr rfl))))
  simp! [h3.ra,h3.st _ _ h0,g3]
  obtain ⟨a,_,e2,ad,aca,ala,st1,st2,st3,_⟩:=hc.st hs
  have ac:=wf.ac s hs
  refine ix (h3.st _ _ hc.s1) rfl e2 ?_
  simp! [h3.st _ _ st1]
  refine aog h3 st2 ac.2.2.1 ac.1 (by omega) λH4 h4 f4=>?_
  simp! [h4.ra,h4.st _ _ h0,g4]
  refine ix (h4.st _ _ hc.s1) rfl e2 ?_
  simp! [h4.st _ _ st1]
  have e4:rR c r1 s=if (c.at_ s).kind≠2 then Rc42.acts { r1 with isIn:=Rc42.rising (s::r1.isIn),told:=r1.told++[s] } (c.at_ s).come else ME c (Rc42.acts { r1 with isIn:=Rc42.rising (s::r1.isIn),told:=r1.told++[s] } (c.at_ s).come) (c.at_ s).parent:=rfl
  by_cases k2:(c.at_ s).kind=2
  ·rw [if_pos (by omega)]
   simp! [h4.ra,h4.st _ _ h0]
   have pe:kN s (c.at_ s)=((c.at_ s).parent:Nat):=by unfold kN;rw [if_neg s0']
   have par:=(wf.par s (by omega) hs).1
   refine ix (h4.st _ _ hc.s1) rfl e2 ?_
   simp! [h4.st _ _ st1,pe]
   refine apk h4 (by omega) (by omega) λH5 h5 f5=>?_
   refine (hP _ _ _).mpr ⟨?_,p2.trans (f2.trans (f3.trans (f4.trans f5))),_,rfl⟩
   rw [tk,e4,if_neg (by simp [k2])]
   exact h5.mono (by omega) (by omega)
  ·rw [if_neg (by omega)]
   refine (hP _ _ _).mpr ⟨?_,p2.trans (f2.trans (f3.trans f4)),_,rfl⟩
   rw [tk,e4,if_pos k2]
   exact h4.mono (by omega) (by omega)
 ·intro σ H1 hp
  obtain ⟨p1,p2,v,rfl⟩:=(hP _ _ _).mp hp
  rw [dJ,List.take_length] at p1
  have:=J9 P
  exact q H1 (p1.mono (by omega) (by omega)) ((Frm.of_same s0).trans p2)
def mX (c:Rc42.Chart) (r:Rc42.Run) (s:Nat):Rc42.Run:={ Rc42.acts r (c.at_ s).leave with isIn:=(Rc42.acts r (c.at_ s).leave).isIn.filter (λx=>x != s),told:=r.told++[256+s] }
theorem W2 (c:Rc42.Chart) (r:Rc42.Run) (s:Nat):mX c r s=Rc42.acts { r with isIn:=r.isIn.filter (λx=>x != s),told:=r.told++[256+s] } (c.at_ s).leave:=by
 unfold mX
 rw [(AX (c.at_ s).leave r).1]
 exact (W4 _ _ _ r).symm
def Mj (t:Adr):Sp:=λvs H Q _=>∃ S A c r hd T R P,vs=[.ref A.ra,.int (M P)]/\cu t S H A c r hd T R/\(∀ i,P i->i < c.states.length)/\R<=9000000/\T<=9000000/\∀ H',cu t S H' A c ((el P).reverse.foldl (mX c) r) hd (T+64) (R+1024)->Frm A H H'->Q .non H'
theorem alX {S H:Hp} {Q:VK} {E:XK} {A:RA} {c:Rc42.Chart} {r:Rc42.Run} {hd T R:Nat} {P:Nat->Prop} (h:cu t S H A c r hd T R) (hp:∀ i,P i->i < c.states.length) (hR:R<=9000000) (hT:T<=9000000) (q:∀ H',cu t S H' A c ((el P).reverse.foldl (mX c) r) hd (T+64) (R+1024)->Frm A H H'->Q .non H'):Mj t [.ref A.ra,.int (M P)] H Q E:=⟨S,A,c,r,hd,T,R,P,rfl,h,hp,hR,hT,q⟩
theorem alH {l:List Nat} {i x:Nat} (hi:i < l.length) (h:l[l.length - 1 - i]?=some x):l.reverse.take (i+1)=l.reverse.take i++[x]:=by
 rw [List.take_add_one,List.getElem?_reverse hi,h];rfl
theorem alE {Sp:Sps} (T:Txt K mg t) (g1:Sp.marked=qQ) (g2:Sp.mark=gP) (g3:Sp.qS=Xm t) {vs H Q E} (h:Mj t vs H Q E):GP K t Sp (fin Q) (L2.start ["self","left","state"] vs) H:=by
 obtain ⟨S,A,c,r,hd,TT,R,P,rfl,h,hPs,hR,hT,q⟩:=h
 have slz:=sizeLine_eq
 obtain ⟨rdy,dx,sla,wl,a1,a2,a3,a4,a5,a6,a7,lb,ss,ws,h0,hc,_⟩:=h.pl
 have wf:=rdy.wf
 have n2:=wf.n2
 unfold GP
 simp? [g1]
 refine LM λH0 l s0 hl e0=>?_
 simp?
 refine ⟨_,SqL.of e0,?_⟩
 have nl:=yw h hl
 obtain ⟨Pv,hP⟩:∃ Pv:Nat->St->Hp->Prop,∀ i σ H1,Pv i σ H1↔cu t S H1 A c (((el P).reverse.take i).foldl (mX c) r) hd (TT+i) (R+16 * i)/\Frm A H0 H1/\∃ v,σ=[some (.ref A.ra),some (.int (M P)),v]:=⟨_,λ_ _ _=>Iff.rfl⟩
 refine al7 (xs:=nts (el P)) Pv ((hP _ _ _).mpr ⟨h.same s0,Frm.refl _ _,_,rfl⟩) (λi σ H1 _ p=>((hP _ _ _).mp p).2.1 _ _ e0 nl) ?_ ?_
 ·intro i x σ H1 hi' hx hp
  obtain ⟨p1,p2,v,rfl⟩:=(hP _ _ _).mp hp
  rw [dJ] at hi' hx
  obtain ⟨s,es,rfl⟩:=yt hx
  have hi:i < 64:=by have:=J9 P;omega
  obtain ⟨hs64,hPsm⟩:=qA.mp (List.mem_of_getElem? es)
  have hs:=hPs s hPsm
  obtain ⟨r1,hr1⟩:∃ r1,r1=((el P).reverse.take i).foldl (mX c) r:=⟨_,rfl⟩
  rw [<-hr1] at p1
  have tk:((el P).reverse.take (i+1)).foldl (mX c) r=mX c r1 s:=by rw [alH hi' es,List.foldl_append,<-hr1];rfl
  simp? [p1.ra,g2]
  refine j5 hs64 ?_
  simp? [p1.ra]
  rw [AN]
  have em:M (λj=>j∈r1.isIn/\¬j=s)=M (λj=>j∈r1.isIn.filter (λx=>x != s)):=fD λj hj=>by simp [List.mem_filter]
  rw [em]
  have h2:=p1.act (r1.isIn.filter (λx=>x != s)) r1.over (λj hj=>p1.ok.ii j (List.mem_filter.mp hj).1) (p1.ok.so.filter _)
  obtain ⟨H2,hH2⟩:∃ H2,H2=upd H1 A.ra (.ins t.aV A.dx (bF (.ref A.pa) (.ref A.na) (.ref A.la) (.int (M λi=>i∈r1.isIn.filter (λx=>x != s))) (.bl r1.over) (.ref A.rl) (.int (hd:Nat)) (.ref A.tl))):=⟨_,rfl⟩
  rw [<-hH2] at h2 ⊢
  have f2:Frm A H1 H2:=by rw [hH2];exact o7 (.inl rfl)
  simp? [h2.ra]
  have ev:(256:Int)+(s:Nat)=((256+s:Nat):Int):=by omega
  rw [ev]
  refine ⟨tyL h2.tl,app h2.tl (by rw [dJ];have:=h2.bt;omega) ?_⟩
  have h3:=h2.tell (256+s)
  obtain ⟨H3,hH3⟩:∃ H3,H3=upd H2 A.tl (.lst (nts r1.told++[.int ((256+s:Nat):Int)])):=⟨_,rfl⟩
  rw [<-hH3] at h3 ⊢
  have f3:Frm A H2 H3:=by rw [hH3];exact o7 (.inr (.inr (.inr (.inr rfl))))
  simp? [h3.ra,h3.st _ _ h0,g3]
  obtain ⟨a,_,e2,ad,aca,ala,st1,st2,st3,_⟩:=hc.st hs
  have ac:=wf.ac s hs
  refine ix (h3.st _ _ hc.s1) rfl e2 ?_
  simp? [h3.st _ _ st1]
  refine aog h3 st3 ac.2.2.2 ac.2.1 (by omega) λH4 h4 f4=>?_
  refine (hP _ _ _).mpr ⟨?_,p2.trans (f2.trans (f3.trans f4)),_,rfl⟩
  rw [tk,W2]
  exact h4.mono (by omega) (by omega)
 ·intro σ H1 hp
  obtain ⟨p1,p2,v,rfl⟩:=(hP _ _ _).mp hp
  have e:(nts (el P)).length=(el P).reverse.length:=by rw [dJ,List.length_reverse]
  rw [e,List.take_length] at p1
  have:=J9 P
  rw [List.length_reverse] at p1
  exact q H1 (p1.mono (by omega) (by omega)) ((Frm.of_same s0).trans p2)
def agu (c:Rc42.Chart) (r:Rc42.Run) (l:List Nat):List (Nat×List Nat):=l.flatMap λs=>(Rc42.histories c s).map λh=>(h,r.isIn.filter λx=>if (c.at_ h).kind=4 then Rc42.plain c x&&Rc42.within c x s else (c.at_ x).parent==s&&x != 0)
def A5 (c:Rc42.Chart) (r:Rc42.Run) (l:List Nat):Rc42.Run:={ r with kept:=agu c r l++r.kept.filter λx=>((agu c r l).all λy=>y.1 != x.1) }
theorem agf (c:Rc42.Chart) (r:Rc42.Run) (l:List Nat):Rc42.leave c r l=(Rc42.rising l).reverse.foldl (mX c) (A5 c r l):=rfl
theorem aeo {c:Rc42.Chart} {s h:Nat}:h∈Rc42.histories c s↔h < c.states.length/\h≠0/\(c.at_ h).parent=s/\3<=(c.at_ h).kind:=by
 unfold Rc42.histories Rc42.Chart.all;simp [List.mem_filter,List.mem_range]
def NG (c:Rc42.Chart) (r:Rc42.Run) (h:Nat):List Nat:=r.isIn.filter λx=>if (c.at_ h).kind=4 then Rc42.plain c x&&Rc42.within c x (c.at_ h).parent else (c.at_ x).parent==(c.at_ h).parent&&x != 0
theorem Bg {c:Rc42.Chart} {r:Rc42.Run} {l:List Nat} {x:Nat×List Nat}:x∈agu c r l↔x.1 < c.states.length/\x.1≠0/\3<=(c.at_ x.1).kind/\(c.at_ x.1).parent∈l/\x.2=NG c r x.1:=by
 unfold agu
 rw [List.mem_flatMap]
 constructor
 ·rintro ⟨s,hs,m⟩
  obtain ⟨h,hh,rfl⟩:=List.mem_map.mp m
  obtain ⟨m1,m2,rfl,m4⟩:=aeo.mp hh
  exact ⟨m1,m2,m4,hs,rfl⟩
 ·rintro ⟨m1,m2,m3,m4,m5⟩
  refine ⟨_,m4,List.mem_map.mpr ⟨x.1,aeo.mpr ⟨m1,m2,rfl,m3⟩,?_⟩⟩
  obtain ⟨h,v⟩:=x
  simp at m5 ⊢
  rw [m5];rfl
theorem aly {α:Type} {l:List (Nat×α)} {k:Nat} {v:α} (ex:∃ x∈l,x.1=k) (un:∀ x∈l,x.1=k->x.2=v):l.find? (λx=>x.1==k)=some (k,v):=by
 cases e:l.find? (λx=>x.1==k) with
 | none=>
  obtain ⟨x,hx,hk⟩:=ex
  have:=List.find?_eq_none.mp e x hx
  simp [hk] at this
 | some y=>
  have h1:y.1=k:=by simpa using List.find?_some e
  have h2:=un y (List.mem_of_find?_eq_some e) h1
  obtain ⟨a,b⟩:=y
  simp at h1 h2
  rw [h1,h2]
theorem aeE {c:Rc42.Chart} {r:Rc42.Run} {l:List Nat} {s:Nat} (hs:s < c.states.length) (k3:3<=(c.at_ s).kind) (s0:s≠0):((A5 c r l).kept.find? λx=>x.1==s)=if (c.at_ s).parent∈l then some (s,NG c r s) else r.kept.find? λx=>x.1==s:=by
 unfold A5
 show (agu c r l++_).find? _=_
 rw [List.find?_append]
 by_cases z:(c.at_ s).parent∈l
 ·rw [if_pos z,aly (v:=NG c r s) ⟨(s,NG c r s),Bg.mpr ⟨hs,s0,k3,z,rfl⟩,rfl⟩ λx hx e=>by rw [(Bg.mp hx).2.2.2.2,e]]
  rfl
 ·rw [if_neg z]
  have e1:(agu c r l).find? (λx=>x.1==s)=none:=by
   rw [List.find?_eq_none]
   intro x hx e
   have e:x.1=s:=by simpa using e
   have:=(Bg.mp hx).2.2.2.1
   rw [e] at this
   exact z this
  rw [e1,Option.none_or,List.find?_filter]
  congr 1
  funext x
  by_cases e:x.1=s
  ·have:((agu c r l).all λy=>y.1 != x.1)=true:=by
    rw [List.all_eq_true]
    intro y hy
    rw [e]
    simp
    intro e'
    have:=(Bg.mp hy).2.2.2.1
    rw [e'] at this
    exact z this
   simp [e]
   simpa [e] using this
  ·simp [e]
theorem anR {c:Rc42.Chart} (wf:Wf c) {r:Rc42.Run} {l:List Nat} (h:jg c r):jg c (A5 c r l):=by
 refine ⟨h.nl,h.ii,h.so,λx hx=>?_⟩
 rcases List.mem_append.mp hx with hx | hx
 ·obtain ⟨m1,m2,m3,m4,m5⟩:=Bg.mp hx
  rw [m5]
  refine ⟨m1,m3,λi hi=>?_,h.so.filter _,?_⟩
  ·obtain ⟨z1,z2⟩:=List.mem_filter.mp hi
   obtain ⟨i1,i2,i3⟩:=h.ii i z1
   refine ⟨i1,i2,i3,?_⟩
   split at z2
   ·rw [Bool.and_eq_true] at z2;exact z2.2
   ·rw [Bool.and_eq_true] at z2
    exact (aH wf i1).mpr ⟨i2,.inl (by simpa using z2.1)⟩
  ·by_cases k4:(c.at_ x.1).kind=4
   ·refine .inl λi hi=>?_
    have z2:=(List.mem_filter.mp hi).2
    rw [if_pos k4,Bool.and_eq_true] at z2
    exact z2.1
   ·refine .inr λi hi=>?_
    have z2:=(List.mem_filter.mp hi).2
    rw [if_neg k4,Bool.and_eq_true] at z2
    simpa using z2.1
 ·exact h.kp x (List.mem_filter.mp hx).1
def yL (t:Adr):Sp:=λvs H Q _=>∃ S A c r hd T R l,vs=[.ref A.ra,.int (M λi=>i∈l)]/\cu t S H A c r hd T R/\(∀ i∈l,i < 64)/\∀ H',cu t S H' A c (A5 c r l) hd T R->Frm A H H'->Q .non H'
theorem aho {S H:Hp} {Q:VK} {E:XK} {A:RA} {c:Rc42.Chart} {r:Rc42.Run} {hd T R:Nat} {l:List Nat} (h:cu t S H A c r hd T R) (hl:∀ i∈l,i < 64) (q:∀ H',cu t S H' A c (A5 c r l) hd T R->Frm A H H'->Q .non H'):yL t [.ref A.ra,.int (M λi=>i∈l)] H Q E:=⟨S,A,c,r,hd,T,R,l,rfl,h,hl,q⟩
theorem aeQ {Sp:Sps} (T:Txt K mg t) (g2:Sp.mark=gP) {vs H Q E} (h:yL t vs H Q E):wL K t Sp (fin Q) (L2.start ["self","left","history","one"] vs) H:=by
 obtain ⟨S,A,c,r,hd,TT,R,l,rfl,h,hl,q⟩:=h
 obtain ⟨rdy,dx,sla,wl,a1,a2,a3,a4,a5,a6,a7,lb,ss,ws,h0,hc,h1,h2,h3,h4,h5,h6,h7⟩:=h.pl
 have wf:=rdy.wf
 have n2:=wf.n2
 have ap:=h.ap
 unfold wL
 simp? [h.ra,h.st _ _ h0]
 refine ⟨⟨_,SqL.of (h.st _ _ h5)⟩,?_⟩
 obtain ⟨Lv,hLv⟩:∃ Lv:Nat->Nat->Nat->Prop,∀ k s i,Lv k s i↔(s∈(V8 c).take k/\i∈Rc42.leads c (A5 c r l) 64 s)\/(¬s∈(V8 c).take k/\i∈Rc42.leads c r 64 s):=⟨_,λ_ _ _=>Iff.rfl⟩
 obtain ⟨Pv,hP⟩:∃ Pv:Nat->St->Hp->Prop,∀ k σ H1,Pv k σ H1↔H1 A.la=some (.lst (msk c.states.length (Lv k)))/\(∀ a o,H a=some o->a≠A.la->H1 a=some o)/\∃ v w,σ=[some (.ref A.ra),some (.int (M λi=>i∈l)),v,w]:=⟨_,λ_ _ _=>Iff.rfl⟩
 have ns:∀ {a o},S a=some o->a≠A.la:=λ{a o} e=>ao e ap.la
 refine jL (xs:=nts (V8 c)) Pv ((hP _ _ _).mpr ⟨?_,λa o e _=>e,_,_,rfl⟩) (λk σ H1 _ p=>((hP _ _ _).mp p).2.1 _ _ (h.st _ _ h5) (ns h5)) ?_ ?_
 ·rw [h.la,Ip (P:=λs i=>i∈Rc42.leads c r 64 s) (Q:=Lv 0) λs _ i _=>by rw [hLv];simp]
 ·intro k x σ H1 hx hp
  obtain ⟨p1,p2,v,w,rfl⟩:=(hP _ _ _).mp hp
  obtain ⟨s,es,rfl⟩:=yt hx
  have hm:=List.mem_of_getElem? es
  obtain ⟨m1,m2⟩:=List.mem_filter.mp hm
  have hs:s < c.states.length:=List.mem_range.mp m1
  have k3:3<=(c.at_ s).kind:=by simpa using m2
  have s0:s≠0:=λz=>by rw [z,wf.k0] at k3;omega
  have tk:(V8 c).take (k+1)=(V8 c).take k++[s]:=by rw [List.take_add_one,es];rfl
  have up:∀ {a o},S a=some o->H1 a=some o:=λ{a o} e=>p2 _ _ (h.st _ _ e) (ns e)
  have ra1:=p2 _ _ h.ra h.nes.2.1
  obtain ⟨a,_,e2,ad,aca,ala,st1,_⟩:=hc.st hs
  have pe:kN s (c.at_ s)=((c.at_ s).parent:Nat):=by unfold kN;rw [if_neg s0]
  have par:=(wf.par s (by omega) hs).1
  have fr:=aeE (r:=r) (l:=l) hs k3 s0
  have UO:=n9 rdy (A5 c r l) hs
  have lold:=n9 rdy r hs
  rw [if_neg (by omega)] at UO lold
  rw [fr] at UO
  simp? [ra1,up h0]
  refine ix (up hc.s1) rfl e2 ?_
  simp? [up st1,pe,g2]
  refine j5 (by omega) ?_
  simp?
  rw [xh]
  have nxt:∀ {H2:Hp} {v:V},H2 A.la=some (.lst (msk c.states.length (Lv (k+1))))->(∀ a o,H a=some o->a≠A.la->H2 a=some o)->Pv (k+1) [some (.ref A.ra),some (.int (M λi=>i∈l)),some (.int (s:Nat)),some v] H2:=λ{H2 v} x y=>(hP _ _ _).mpr ⟨x,y,_,_,rfl⟩
  by_cases z:M (λi=>i∈l/\i=(c.at_ s).parent)=0
  ·rw [if_pos z]
   refine nxt ?_ p2
   have nz:¬(c.at_ s).parent∈l:=λy=>lY.mp z _ (by omega) ⟨y,rfl⟩
   rw [p1,Ip (P:=Lv k) (Q:=Lv (k+1)) λs' _ i _=>?_]
   rw [hLv,hLv,tk]
   simp only [List.mem_append,List.mem_singleton]
   by_cases e:s'=s
   ·subst e
    rw [if_neg nz] at UO
    have ee:Rc42.leads c (A5 c r l) 64 s'=Rc42.leads c r 64 s':=by rw [UO,lold]
    rw [ee]
    simp only [or_true,true_and,not_true_eq_false,false_and,or_false]
    constructor
    ·rintro (y | y)<;>exact y.2
    ·intro y
     by_cases w:s'∈(V8 c).take k
     ·exact .inl ⟨w,y⟩
     ·exact .inr ⟨w,y⟩
   ·simp [e]
  ·rw [if_neg z]
   have yz:(c.at_ s).parent∈l:=Classical.byContradiction λy=>z (lY.mpr λi _ ⟨q1,q2⟩=>y (q2▸q1))
   rw [if_pos yz] at UO
   have UO:Rc42.leads c (A5 c r l) 64 s=NG c r s:=UO
   have eix:ixN (msk c.states.length (Lv k)).length (s:Nat)=some s:=by rw [yi];unfold ixN;simp;omega
   have fin5:∀ P:Nat->Prop,(∀ i,i < 64->(P i↔i∈NG c r s))->∀ v,Pv (k+1) [some (.ref A.ra),some (.int (M λi=>i∈l)),some (.int (s:Nat)),some v] (upd H1 A.la (.lst ((msk c.states.length (Lv k)).set s (.int (M P))))):=λP hPP v=>by
    refine nxt ?_ λa o e n=>by rw [aq n];exact p2 a o e n
    rw [ay]
    have e1:M P=M (Lv (k+1) s):=fD λi hi=>by
     rw [hPP i hi,hLv,tk]
     simp only [List.mem_append,List.mem_singleton,or_true,true_and,not_true_eq_false,false_and,or_false]
     rw [UO]
    rw [e1,aim hs λs' _ ne i _=>?_]
    rw [hLv,hLv,tk]
    simp [ne]
   have inI:∀ i,i∈r.isIn->i < c.states.length/\i≠0/\(c.at_ i).kind<=2:=h.ok.ii
   simp? [up st1,pe,ra1,up h0]
   by_cases k4:(c.at_ s).kind=4
   ·rw [if_pos (by omega)]
    refine ix (up h2) rfl (gO (by omega)) ?_
    simp? [ra1,up h0,YA]
    rw [xh,xh]
    refine ⟨A.la,_,_,s,rfl,rfl,p1,eix,fin5 _ (λi hi=>?_) _⟩
    unfold NG plP
    rw [List.mem_filter,if_pos k4,Bool.and_eq_true]
    constructor
    ·rintro ⟨⟨a,b,d⟩,e,f⟩;exact ⟨a,f,d⟩
    ·rintro ⟨a,b,d⟩;exact ⟨⟨a,(inI i a).1,d⟩,(inI i a).1,b⟩
   ·rw [if_neg (by omega)]
    refine ix (up h3) rfl (gO (by omega)) ?_
    simp? [ra1,up h0,YA]
    rw [xh]
    refine ⟨A.la,_,_,s,rfl,rfl,p1,eix,fin5 _ (λi hi=>?_) _⟩
    unfold NG
    rw [List.mem_filter,if_neg k4,Bool.and_eq_true,aI]
    constructor
    ·rintro ⟨a,b,d,e,f⟩;exact ⟨a,by simpa using e,by simpa using d⟩
    ·rintro ⟨a,b,d⟩;exact ⟨a,(inI i a).1,(inI i a).2.1,by simpa using b,(inI i a).2.2⟩
 ·intro σ H1 hp
  obtain ⟨p1,p2,v,w,rfl⟩:=(hP _ _ _).mp hp
  rw [dJ] at p1
  obtain ⟨m1,m2,m3,m4⟩:=h.nes
  obtain ⟨al,b1,b2⟩:=h.rl
  refine q H1 ⟨λa o e=>p2 _ _ (h.st _ _ e) (ns e),h.pl,p2 _ _ h.ra m2,p2 _ _ h.na ap.n1,?_,⟨al,p2 _ _ b1 (Ne.symm ap.n4),b2⟩,p2 _ _ h.tl (Ne.symm ap.n5),ap,anR wf h.ok,h.bt⟩ λa o e n=>p2 a o e λz=>n (.inr (.inr (.inl z)))
  rw [p1,Ip (P:=Lv (V8 c).length) (Q:=λs i=>i∈Rc42.leads c (A5 c r l) 64 s) λs hs i _=>?_]
  rw [hLv,List.take_length]
  by_cases z:s∈V8 c
  ·simp [z]
  ·have k3:(c.at_ s).kind < 3:=by
    have:¬3<=(c.at_ s).kind:=λy=>z (List.mem_filter.mpr ⟨List.mem_range.mpr hs,by simpa using y⟩)
    omega
   rw [n9 rdy r hs,n9 rdy (A5 c r l) hs,if_pos k3,if_pos k3]
   simp [z]
seal Rc42.stays Rc42.leaves
def aaQ (t:Adr) (S H:Hp) (m:Addr) (c:Rc42.Chart) (r0:Rc42.Run) (w:Rc42.Way):Prop:=∃ dx wa lb j,H m=some (.ins t.fN dx (mO (.ref wa) (.int (ko (Rc42.stays c r0 w))) (.int (M λi=>i∈Rc42.leaves c r0 w))))/\WyR t lb S wa j w
def Aj (t:Adr) (S:Hp) (A:RA) (H:Hp) (ml:Addr) (c:Rc42.Chart) (r0:Rc42.Run) (l:List Rc42.Way):Prop:=∃ ms:List Addr,H ml=some (.lst (ms.map V.ref))/\ms.length=l.length/\¬A.has ml/\(∀ m∈ms,¬A.has m)/\∀ (k:Nat) w m,l[k]?=some w->ms[k]?=some m->aaQ t S H m c r0 w
theorem Aj.frm {S:Hp} {A:RA} {H H':Hp} {ml:Addr} {c:Rc42.Chart} {r0:Rc42.Run} {l:List Rc42.Way} (h:Aj t S A H ml c r0 l) (f:Frm A H H'):Aj t S A H' ml c r0 l:=by
 obtain ⟨ms,a,b,d,e,g⟩:=h
 refine ⟨ms,f _ _ a d,b,d,e,λk w m h1 h2=>?_⟩
 obtain ⟨dx,wa,lb,j,x1,x2⟩:=g k w m h1 h2
 exact ⟨dx,wa,lb,j,f _ _ x1 (e m (List.mem_of_getElem? h2)),x2⟩
theorem l7 {c:Rc42.Chart} (rdy:Rdy c) {q:Rc42.Run} (ok:jg c q) {s:Nat} (hs:s < c.states.length) (s0:s≠0) {i:Nat} (hi:i∈Rc42.leads c q 64 s):i < c.states.length/\i≠0/\(c.at_ i).kind<=2:=by
 rw [n9 rdy q hs] at hi
 by_cases k:(c.at_ s).kind < 3
 ·rw [if_pos k] at hi
  rw [List.mem_singleton.mp hi]
  exact ⟨hs,s0,by omega⟩
 ·rw [if_neg k] at hi
  cases e:q.kept.find? λx=>x.1==s with
  | some x=>
   rw [e] at hi
   have z:=(ok.kp x (List.mem_of_find?_eq_some e)).mem i hi
   exact ⟨z.1,z.2.1,z.2.2.1⟩
  | none=>
   rw [e] at hi
   have hi:i=jP c s:=by simpa using hi
   rw [hi]
   have z:=rdy.lead hs s0
   exact ⟨z.1,z.2.1,z.2.2.1⟩
def Ex (c:Rc42.Chart) (r0 q:Rc42.Run) (l:List Rc42.Way) (i:Nat):Prop:=∃ w∈l,∃ tg,w.target=some tg/\∃ a,Rc42.stays c r0 w=some a/\∃ x∈Rc42.leads c q 64 tg,i=x\/(Rc42.within c x i=true/\i < c.states.length/\Rc42.within c i a=true)
theorem Xx {c:Rc42.Chart} (rdy:Rdy c) {r0 q:Rc42.Run} (ok:jg c q) {l:List Rc42.Way} (hw:∀ w∈l,nS c w) {i:Nat} (h:Ex c r0 q l i):i < c.states.length/\i≠0/\(c.at_ i).kind<=2:=by
 obtain ⟨w,hm,tg,et,a,ea,x,hx,z⟩:=h
 have tk:=(hw w hm).tg tg et
 have lx:=l7 rdy ok tk.2 (by omega) hx
 rcases z with rfl | ⟨z1,z2,z3⟩
 ·exact lx
 ·have:=Gk rdy.wf lx.1 z1
  exact ⟨z2,((aH rdy.wf z2).mp z3).1,by omega⟩
theorem akW {c:Rc42.Chart} (wf:Wf c) {E:Nat->Prop} (hE:∀ i,E i->i < c.states.length/\i≠0/\(c.at_ i).kind<=2) {i:Nat} (h:Gr c E i):i < c.states.length/\i≠0/\(c.at_ i).kind<=2:=by
 induction h with
 | ex h=>exact hE _ h
 | side _ _ h _=>obtain ⟨a,b,_,d⟩:=aI.mp h;exact ⟨a,b,d⟩
 | beg _ _ h _ ih=>obtain ⟨a,b,_,d⟩:=aI.mp (bO wf ih.1 h);exact ⟨a,b,d⟩
def Cb (t:Adr):Sp:=λvs H Q _=>∃ S A c q hd T R ml r0 l,vs=[.ref A.ra,.ref ml]/\cu t S H A c q hd T R/\Aj t S A H ml c r0 l/\(∀ w∈l,nS c w)/\(∀ w∈l,∀ tg,w.target=some tg->∃ a,Rc42.stays c r0 w=some a/\a < c.states.length) /\
 ∀ H',aP H H'->Q (.int (M (Gr c (Ex c r0 q l)))) H'
theorem ajv {S H:Hp} {Q:VK} {E:XK} {A:RA} {c:Rc42.Chart} {q:Rc42.Run} {hd T R:Nat} {ml:Addr} {r0:Rc42.Run} {l:List Rc42.Way} (h:cu t S H A c q hd T R) (hm:Aj t S A H ml c r0 l) (hw:∀ w∈l,nS c w) (hs:∀ w∈l,∀ tg,w.target=some tg->∃ a,Rc42.stays c r0 w=some a/\a < c.states.length)
  (qq:∀ H',aP H H'->Q (.int (M (Gr c (Ex c r0 q l)))) H'):Cb t [.ref A.ra,.ref ml] H Q E:=⟨S,A,c,q,hd,T,R,ml,r0,l,rfl,h,hm,hw,hs,qq⟩
theorem ahk {Sp:Sps} (T:Txt K mg t) (g1:Sp.marked=qQ) (g2:Sp.mark=gP) (g3:Sp.gg=Bj t) {vs H Q E} (h:Cb t vs H Q E):zY K t Sp (fin Q) (L2.start ["self","moves","found","one","state"] vs) H:=by
 obtain ⟨S,A,c,q,hd,TT,R,ml,r0,l,rfl,h,⟨ms,m1,m2,m3,m4,m5⟩,hw,hst,qq⟩:=h
 obtain ⟨rdy,dx,sla,wl,a1,a2,a3,a4,a5,a6,a7,lb,ss,ws,h0,hc,h1,h2,h3,h4,h5,h6,h7⟩:=h.pl
 have wf:=rdy.wf
 have n2:=wf.n2
 unfold zY
 simp?
 refine ⟨⟨_,SqL.of m1⟩,?_⟩
 obtain ⟨Pv,hP⟩:∃ Pv:Nat->St->Hp->Prop,∀ k σ H1,Pv k σ H1↔aP H H1/\∃ v w,σ=[some (.ref A.ra),some (.ref ml),some (.int (M (Ex c r0 q (l.take k)))),v,w]:=⟨_,λ_ _ _=>Iff.rfl⟩
 refine jL (xs:=ms.map V.ref) Pv ((hP _ _ _).mpr ⟨aP.refl H,none,none,?_⟩) (λk σ H1 _ p=>((hP _ _ _).mp p).1 _ _ m1) ?_ ?_
 ·have e:M (Ex c r0 q (l.take 0))=0:=by
   rw [<-wk];exact fD λi _=>⟨λ⟨w,hw,_⟩=>by simp at hw,False.elim⟩
  rw [e]
 ·intro k x σ H1 hx hp
  obtain ⟨p1,v,w',rfl⟩:=(hP _ _ _).mp hp
  rw [List.getElem?_map] at hx
  obtain ⟨m,em,rfl⟩:=Option.map_eq_some_iff.mp hx
  have hk:k < l.length:=by rw [<-m2];exact (List.getElem?_eq_some_iff.mp em).1
  obtain ⟨w,ew⟩:∃ w,l[k]?=some w:=⟨_,List.getElem?_eq_getElem hk⟩
  have hwm:=List.mem_of_getElem? ew
  obtain ⟨dm,wa,lb',j,x1,dw,waa,x2,x3⟩:=m5 k w m ew em
  have tk:l.take (k+1)=l.take k++[w]:=by rw [List.take_add_one,ew];rfl
  have up:∀ {a o},S a=some o->H1 a=some o:=λ{a o} e=>p1 _ _ (h.st _ _ e)
  have ra1:=p1 _ _ h.ra
  simp! [p1 _ _ x1,up x2]
  cases et:w.target with
  | none=>
   simp? [ko]
   refine (hP _ _ _).mpr ⟨p1,some (.ref m),w',?_⟩
   rw [fD (P:=Ex c r0 q (l.take (k+1))) (Q:=Ex c r0 q (l.take k)) λi _=>?_]
   rw [tk]
   constructor
   ·rintro ⟨w1,hw1,y⟩
    rcases List.mem_append.mp hw1 with z | z
    ·exact ⟨w1,z,y⟩
    ·rw [List.mem_singleton.mp z,et] at y
     obtain ⟨_,y,_⟩:=y;cases y
   ·rintro ⟨w1,hw1,y⟩;exact ⟨w1,List.mem_append_left _ hw1,y⟩
  | some tg=>
   have tg2:=(hw w hwm).tg tg et
   obtain ⟨a,ea,ha⟩:=hst w hwm tg et
   have nn:¬(tg:Int)=-1:=by omega
   simp? [ko,nn,ra1,p1 _ _ x1,up x2,et,ea]
   refine ix (p1 _ _ h.la) rfl (gO tg2.2) ?_
   rw [g1]
   refine LM λH2 ll s2 hl2 e2=>?_
   simp?
   refine ⟨⟨_,SqL.of e2⟩,?_⟩
   obtain ⟨Ek,hEk⟩:∃ Ek:Nat->Nat->Prop,∀ j i,Ek j i↔Ex c r0 q (l.take k) i\/∃ x∈(el λi=>i∈Rc42.leads c q 64 tg).take j,i=x\/(Rc42.within c x i=true/\i < c.states.length/\Rc42.within c i a=true):=⟨_,λ_ _=>Iff.rfl⟩
   obtain ⟨Pv2,hP2⟩:∃ Pv:Nat->St->Hp->Prop,∀ j σ H3,Pv j σ H3↔H3=H2/\∃ v,σ=[some (.ref A.ra),some (.ref ml),some (.int (M (Ek j))),some (.ref m),v]:=⟨_,λ_ _ _=>Iff.rfl⟩
   have e0:M (Ek 0)=M (Ex c r0 q (l.take k)):=fD λi _=>by rw [hEk];simp
   rw [<-e0]
   refine jL (xs:=nts (el λi=>i∈Rc42.leads c q 64 tg)) Pv2 ((hP2 _ _ _).mpr ⟨rfl,_,rfl⟩) (λj σ H3 _ p=>by rw [((hP2 _ _ _).mp p).1];exact e2) ?_ ?_
   ·intro j y σ H3 hy hp3
    obtain ⟨rfl,v,rfl⟩:=(hP2 _ _ _).mp hp3
    obtain ⟨s,es,rfl⟩:=yt hy
    obtain ⟨s64,sl⟩:=qA.mp (List.mem_of_getElem? es)
    have slo:=l7 rdy h.ok tg2.2 (by omega) sl
    have up3:∀ {a o},S a=some o->H3 a=some o:=λ{a o} e=>s2 _ _ (up e)
    simp? [g2]
    refine j5 s64 ?_
    simp? [s2 _ _ ra1,up3 h0,s2 _ _ (p1 _ _ x1),ea,ko]
    refine ix (up3 h1) rfl (gO slo.1) ?_
    simp? [s2 _ _ ra1,up3 h0,s2 _ _ (p1 _ _ x1),ea,ko]
    refine ix (up3 h2) rfl (gO ha) ?_
    simp?
    rw [xh,Sg,Sg]
    refine (hP2 _ _ _).mpr ⟨rfl,some (.int (s:Nat)),?_⟩
    have e:M (λi=>Ek j i\/i=s\/Rc42.within c s i=true/\i < c.states.length/\Rc42.within c i a=true)=M (Ek (j+1)):=fD λi _=>by
     rw [hEk,hEk,List.take_add_one,es]
     constructor
     ·rintro ((y | ⟨x,hx,y⟩) | y)
      ·exact .inl y
      ·exact .inr ⟨x,List.mem_append_left _ hx,y⟩
      ·exact .inr ⟨s,List.mem_append_right _ (by simp),y⟩
     ·rintro (y | ⟨x,hx,y⟩)
      ·exact .inl (.inl y)
      ·rcases List.mem_append.mp hx with z | z
       ·exact .inl (.inr ⟨x,z,y⟩)
       ·simp at z;subst z;exact .inr y
    rw [e]
   ·intro σ H3 hp3
    obtain ⟨rfl,v,rfl⟩:=(hP2 _ _ _).mp hp3
    rw [dJ]
    refine (hP _ _ _).mpr ⟨p1.trans s2,some (.ref m),v,?_⟩
    have e:M (Ek (el λi=>i∈Rc42.leads c q 64 tg).length)=M (Ex c r0 q (l.take (k+1))):=fD λi _=>by
     rw [hEk,List.take_length,tk]
     constructor
     ·rintro (⟨w1,hw1,y⟩ | ⟨x,hx,y⟩)
      ·exact ⟨w1,List.mem_append_left _ hw1,y⟩
      ·exact ⟨w,List.mem_append_right _ (by simp),tg,et,a,ea,x,(qA.mp hx).2,y⟩
     ·rintro ⟨w1,hw1,y⟩
      rcases List.mem_append.mp hw1 with z | z
      ·exact .inl ⟨w1,z,y⟩
      ·rw [List.mem_singleton.mp z] at y
       obtain ⟨tg',et',a',ea',x,hx,y⟩:=y
       rw [et] at et';cases et'
       rw [ea] at ea';cases ea'
       exact .inr ⟨x,qA.mpr ⟨by have:=(l7 rdy h.ok tg2.2 (by omega) hx).1;omega,hx⟩,y⟩
    rw [e]
 ·intro σ H1 hp
  obtain ⟨p1,v,w',rfl⟩:=(hP _ _ _).mp hp
  rw [List.length_map,m2,List.take_length]
  simp? [p1 _ _ h.ra,p1 _ _ (h.st _ _ h0),g3]
  exact af8 (h.plan.same p1) (λy hy=>(Xx rdy h.ok hw hy).1) (qq H1 p1)
end SC
namespace SC
open Rc42
variable {c:Chart}
seal leads
def Sub (c:Chart) (s i:Nat):Prop:=i=s\/within c i s=true
inductive De (c:Chart):Nat->Nat->Prop where
 | self (s:Nat):De c s s
 | side {s p y:Nat}:(c.at_ s).kind=1->p∈parts c s->De c p y->De c s y
 | beg {s b y:Nat}:(c.at_ s).kind≠1->beginning c s=some b->De c b y->De c s y
theorem De.sub (wf:Wf c) {s y:Nat} (h:De c s y) (hs:s < c.states.length):y < c.states.length/\Sub c s y:=by
 induction h with
 | self s=>exact ⟨hs,.inl rfl⟩
 | side k hp _ ih=>
  obtain ⟨m1,m2,m3,_⟩:=aI.mp hp
  obtain ⟨i1,i2⟩:=ih m1
  have ps:=(aH wf m1).mpr ⟨m2,.inl m3⟩
  refine ⟨i1,.inr ?_⟩
  rcases i2 with rfl | i2
  ·exact ps
  ·exact bB wf i1 i2 ps
 | beg k hb _ ih=>
  obtain ⟨m1,m2,m3,_⟩:=aI.mp (bO wf hs hb)
  obtain ⟨i1,i2⟩:=ih m1
  have ps:=(aH wf m1).mpr ⟨m2,.inl m3⟩
  refine ⟨i1,.inr ?_⟩
  rcases i2 with rfl | i2
  ·exact ps
  ·exact bB wf i1 i2 ps
theorem rB {s x:Nat} {l:List Nat}:x∈add s l↔x=s\/x∈l:=by
 unfold add
 split
 ·rename_i h
  have h:s∈l:=by simpa using h
  constructor
  ·exact .inr
  ·rintro (rfl | z)
   ·exact h
   ·exact z
 ·rw [List.mem_append,List.mem_singleton,or_comm]
theorem aip {l:List Nat} {p:Nat}:(l.any λx=>x==p||within c x p)=true↔∃ x∈l,Sub c p x:=by
 rw [List.any_eq_true]
 constructor
 ·rintro ⟨x,hx,h⟩
  rw [Bool.or_eq_true] at h
  exact ⟨x,hx,h.imp (by simp) id⟩
 ·rintro ⟨x,hx,h⟩
  refine ⟨x,hx,?_⟩
  rw [Bool.or_eq_true]
  exact h.imp (by simp) id
theorem GV (wf:Wf c) {s p p' x:Nat} (hp:p∈parts c s) (hp':p'∈parts c s) (h1:Sub c p x) (h2:Sub c p' x) (hx:x < c.states.length):p=p':=by
 obtain ⟨m1,m2,m3,_⟩:=aI.mp hp
 obtain ⟨q1,q2,q3,_⟩:=aI.mp hp'
 have no:∀ {a b:Nat},a < c.states.length->(c.at_ a).parent=s->(c.at_ b).parent=s->b < c.states.length->b≠0->within c a b=true->False:=λ{a b} ha ea eb hb b0 w=>by
  obtain ⟨_,w⟩:=(aH wf ha).mp w
  have:=(wf.par b (by omega) hb).1
  rw [ea] at w
  rcases w with w | w
  ·omega
  ·have:=eG wf (by omega) w;omega
 rcases h1 with rfl | h1
 ·rcases h2 with e | h2
  ·exact e
  ·exact (no m1 m3 q3 q1 q2 h2).elim
 ·rcases h2 with rfl | h2
  ·exact (no q1 q3 m3 m1 m2 h1).elim
  ·rcases mZ wf hx h1 h2 with e | e | e
   ·exact e
   ·exact (no m1 m3 q3 q1 q2 e).elim
   ·exact (no q1 q3 m3 m1 m2 e).elim
theorem CF (wf:Wf c) {f:Nat->List Nat->List Nat} {s:Nat} (hf:∀ p∈parts c s,∀ l,(∀ x∈l,x < c.states.length)->(∀ x∈l,¬Sub c p x)->∀ y,y∈f p l↔y∈l\/De c p y) :
  ∀ (ps:List Nat) (l:List Nat),(∀ p∈ps,p∈parts c s)->(∀ x∈l,x < c.states.length) ->
   (∀ y,y∈ps.foldl (λl p=>if (l.any λx=>x==p||within c x p)=true then l else f p l) l↔y∈l\/∃ p∈ps,(∀ x∈l,¬Sub c p x)/\De c p y)
 | [],l,_,_,y=>by simp
 | p::ps,l,hps,hl,y=>by
  have hp:=hps p (List.mem_cons_self ..)
  obtain ⟨m1,_⟩:=aI.mp hp
  rw [List.foldl_cons]
  by_cases z:(l.any λx=>x==p||within c x p)=true
  ·rw [if_pos z,CF wf hf ps l (λq hq=>hps q (List.mem_cons_of_mem _ hq)) hl y]
   obtain ⟨x,hx,hs⟩:=aip.mp z
   constructor
   ·rintro (h | ⟨q,hq,h⟩)
    ·exact .inl h
    ·exact .inr ⟨q,List.mem_cons_of_mem _ hq,h⟩
   ·rintro (h | ⟨q,hq,h1,h2⟩)
    ·exact .inl h
    ·rcases List.mem_cons.mp hq with rfl | hq
     ·exact absurd hs (h1 x hx)
     ·exact .inr ⟨q,hq,h1,h2⟩
  ·rw [if_neg z]
   have no:∀ x∈l,¬Sub c p x:=λx hx hs=>z (aip.mpr ⟨x,hx,hs⟩)
   have e1:=hf p hp l hl no
   have hl':∀ x∈f p l,x < c.states.length:=λx hx=>by
    rcases (e1 x).mp hx with h | h
    ·exact hl x h
    ·exact (h.sub wf m1).1
   rw [CF wf hf ps (f p l) (λq hq=>hps q (List.mem_cons_of_mem _ hq)) hl' y]
   constructor
   ·rintro (h | ⟨q,hq,h1,h2⟩)
    ·rcases (e1 y).mp h with h | h
     ·exact .inl h
     ·exact .inr ⟨p,List.mem_cons_self ..,no,h⟩
    ·exact .inr ⟨q,List.mem_cons_of_mem _ hq,λx hx=>h1 x ((e1 x).mpr (.inl hx)),h2⟩
   ·rintro (h | ⟨q,hq,h1,h2⟩)
    ·exact .inl ((e1 y).mpr (.inl h))
    ·by_cases e:q=p
     ·subst e;exact .inl ((e1 y).mpr (.inr h2))
     ·rcases List.mem_cons.mp hq with rfl | hq
      ·exact absurd rfl e
      ·refine .inr ⟨q,hq,λx hx hs=>?_,h2⟩
       rcases (e1 x).mp hx with h | h
       ·exact h1 x h hs
       ·obtain ⟨a,b⟩:=h.sub wf m1
        exact e (GV wf (hps q (List.mem_cons_of_mem _ hq)) hp hs b a)
theorem AV (wf:Wf c) (r:Run):∀ (f s:Nat) (l:List Nat),64<=s+f->s < c.states.length->(c.at_ s).kind<=2->(∀ x∈l,x < c.states.length)->(∀ x∈l,¬Sub c s x)->∀ y,y∈enter c r f s l↔y∈l\/De c s y
 | 0,s,l,hf,hs,_,_,_,y=>by have:=wf.n2;omega
 | f+1,s,l,hf,hs,hk,hl,no,y=>by
  unfold enter
  rw [if_neg (by omega)]
  have hl':∀ x∈add s l,x < c.states.length:=λx hx=>by
   rcases rB.mp hx with rfl | h
   ·exact hs
   ·exact hl x h
  have gt:∀ p∈parts c s,s < p/\p < c.states.length/\(c.at_ p).kind<=2/\within c p s=true:=λp hp=>by
   obtain ⟨m1,m2,m3,m4⟩:=aI.mp hp
   have:=(wf.par p (by omega) m1).1
   exact ⟨by omega,m1,m4,(aH wf m1).mpr ⟨m2,.inl m3⟩⟩
  have nop:∀ p∈parts c s,∀ x∈add s l,¬Sub c p x:=λp hp x hx hs'=>by
   obtain ⟨g1,g2,g3,g4⟩:=gt p hp
   rcases rB.mp hx with rfl | h
   ·rcases hs' with e | e
    ·omega
    ·have:=eG wf hs e;omega
   ·refine no x h ?_
    rcases hs' with rfl | e
    ·exact .inr g4
    ·exact .inr (bB wf (hl x h) e g4)
  by_cases k1:(c.at_ s).kind=1
  ·rw [if_pos k1,CF wf (s:=s) (f:=enter c r f) (λp hp l' hl'' no' y=>AV wf r f p l' (by have:=gt p hp;omega) (gt p hp).2.1 (gt p hp).2.2.1 hl'' no' y) (parts c s) (add s l) (λp hp=>hp) hl' y,rB]
   constructor
   ·rintro ((rfl | h) | ⟨p,hp,_,h⟩)
    ·exact .inr (.self _)
    ·exact .inl h
    ·exact .inr (.side k1 hp h)
   ·rintro (h | h)
    ·exact .inl (.inr h)
    ·cases h with
     | self=>exact .inl (.inl rfl)
     | side _ hp h=>exact .inr ⟨_,hp,nop _ hp,h⟩
     | beg k _ _=>exact absurd k1 k
  ·rw [if_neg k1]
   cases eb:beginning c s with
   | none=>
    show y∈add s l↔_
    rw [rB]
    constructor
    ·rintro (rfl | h)
     ·exact .inr (.self _)
     ·exact .inl h
    ·rintro (h | h)
     ·exact .inr h
     ·cases h with
      | self=>exact .inl rfl
      | side k _ _=>exact absurd k k1
      | beg _ hb _=>rw [eb] at hb;cases hb
   | some b=>
    have hb:=bO wf hs eb
    obtain ⟨g1,g2,g3,g4⟩:=gt b hb
    have np:plain c s=false:=by
     unfold plain
     cases e:parts c s with
     | nil=>rw [e] at hb;cases hb
     | cons a r=>rfl
    show y∈(if plain c s=true then add s l else upTo c r f b s (enter c r f b (add s l)))↔_
    rw [np,if_neg Bool.false_ne_true]
    have up:∀ L,upTo c r f b s L=L:=λL=>by
     cases f with
     | zero=>unfold upTo;rfl
     | succ f=>
      unfold upTo
      have e:(around c b).takeWhile (λa=>a != s)=[]:=by
       rw [nR wf g2,if_neg (aI.mp hb).2.1,(aI.mp hb).2.2.1]
       simp
      rw [e];rfl
    rw [up,AV wf r f b (add s l) (by omega) g2 g3 hl' (nop b hb) y,rB]
    constructor
    ·rintro ((rfl | h) | h)
     ·exact .inr (.self _)
     ·exact .inl h
     ·exact .inr (.beg k1 eb h)
    ·rintro (h | h)
     ·exact .inl (.inr h)
     ·cases h with
      | self=>exact .inl (.inl rfl)
      | side k _ _=>exact absurd k k1
      | beg _ hb' h=>rw [eb] at hb';cases hb';exact .inr h
theorem Sub.trans (wf:Wf c) {a b x:Nat} (hx:x < c.states.length) (h1:Sub c a b) (h2:Sub c b x):Sub c a x:=by
 rcases h2 with rfl | h2
 ·exact h1
 ·rcases h1 with rfl | h1
  ·exact .inr h2
  ·exact .inr (bB wf hx h2 h1)
theorem toward (wf:Wf c):∀ {x A:Nat},x < c.states.length->(c.at_ x).kind<=2->within c x A=true->∃ p∈parts c A,Sub c p x:=by
 intro x
 induction x using Nat.strongRecOn with
 | ind x ih=>
  intro A hx hk w
  obtain ⟨x0,z⟩:=(aH wf hx).mp w
  have p:=wf.par x (by omega) hx
  rcases z with z | z
  ·exact ⟨x,aI.mpr ⟨hx,x0,z,hk⟩,.inl rfl⟩
  ·obtain ⟨q,q1,q2⟩:=ih _ p.1 (by omega) (by omega) z
   refine ⟨q,q1,q2.trans wf hx ?_⟩
   exact .inr ((aH wf hx).mpr ⟨x0,.inl rfl⟩)
def anc (c:Chart) (s top:Nat):List Nat:=(around c s).takeWhile λa=>a != top
theorem alB (wf:Wf c) {s top:Nat} (hs:s < c.states.length) (s0:s≠0):anc c s top=if (c.at_ s).parent=top then [] else (c.at_ s).parent::anc c (c.at_ s).parent top:=by
 unfold anc
 rw [nR wf hs,if_neg s0,List.takeWhile_cons]
 by_cases e:(c.at_ s).parent=top
 ·rw [if_pos e,if_neg (by simp [e])]
 ·rw [if_neg e,if_pos (by simp [e])]
theorem xU (wf:Wf c) {top:Nat}:∀ {s a:Nat},s < c.states.length->within c s top=true->(a∈anc c s top↔within c s a=true/\a < c.states.length/\within c a top=true):=by
 intro s
 induction s using Nat.strongRecOn with
 | ind s ih=>
  intro a hs w
  obtain ⟨s0,z⟩:=(aH wf hs).mp w
  have p:=(wf.par s (by omega) hs).1
  rw [alB wf hs s0]
  by_cases e:(c.at_ s).parent=top
  ·rw [if_pos e]
   constructor
   ·intro h;cases h
   ·rintro ⟨h1,h2,h3⟩
    obtain ⟨_,h1⟩:=(aH wf hs).mp h1
    have l3:=eG wf h2 h3
    rcases h1 with h1 | h1
    ·omega
    ·have:=eG wf (by omega) h1;omega
  ·rw [if_neg e,List.mem_cons]
   have zp:=z.resolve_left e
   rw [ih _ p (by omega) zp]
   constructor
   ·rintro (rfl | ⟨h1,h2⟩)
    ·exact ⟨(aH wf hs).mpr ⟨s0,.inl rfl⟩,by omega,zp⟩
    ·exact ⟨(aH wf hs).mpr ⟨s0,.inr h1⟩,h2⟩
   ·rintro ⟨h1,h2⟩
    obtain ⟨_,h1⟩:=(aH wf hs).mp h1
    rcases h1 with h1 | h1
    ·exact .inl h1.symm
    ·exact .inr ⟨h1,h2⟩
def upS (c:Chart) (r:Run) (f:Nat) (l:List Nat) (a:Nat):List Nat:=
 let l:=add a l
 if (c.at_ a).kind=1 then (parts c a).foldl (λl p=>if (l.any λx=>x==p||within c x p)=true then l else enter c r f p l) l else l
theorem ai7 (c:Chart) (r:Run) (f s top:Nat) (l:List Nat):upTo c r (f+1) s top l=(anc c s top).foldl (upS c r f) l:=by
 unfold upTo anc upS;rfl
theorem amy (wf:Wf c) (r:Run) {f A:Nat} {l:List Nat} (hf:64<=f) (hA:A < c.states.length) (hl:∀ x∈l,x < c.states.length) (y:Nat):y∈upS c r f l A↔y∈l\/y=A\/((c.at_ A).kind=1/\∃ p∈parts c A,(∀ x∈l,¬Sub c p x)/\De c p y):=by
 have hl':∀ x∈add A l,x < c.states.length:=λx hx=>by
  rcases rB.mp hx with rfl | h
  ·exact hA
  ·exact hl x h
 have nA:∀ p∈parts c A,¬Sub c p A:=λp hp h=>by
  obtain ⟨m1,m2,m3,m4⟩:=aI.mp hp
  have:=(wf.par p (by omega) m1).1
  rcases h with h | h
  ·omega
  ·have:=eG wf hA h;omega
 unfold upS
 by_cases k1:(c.at_ A).kind=1
 ·simp only [k1,if_true,true_and]
  rw [CF wf (s:=A) (f:=enter c r f) (λp hp l' hl'' no' y=>AV wf r f p l' (by omega) (aI.mp hp).1 (aI.mp hp).2.2.2 hl'' no' y) (parts c A) (add A l) (λp hp=>hp) hl' y,rB]
  constructor
  ·rintro ((rfl | h) | ⟨p,hp,h1,h2⟩)
   ·exact .inr (.inl rfl)
   ·exact .inl h
   ·exact .inr (.inr ⟨p,hp,λx hx=>h1 x (rB.mpr (.inr hx)),h2⟩)
  ·rintro (h | rfl | ⟨p,hp,h1,h2⟩)
   ·exact .inl (.inr h)
   ·exact .inl (.inl rfl)
   ·refine .inr ⟨p,hp,λx hx=>?_,h2⟩
    rcases rB.mp hx with rfl | h
    ·exact nA p hp
    ·exact h1 x h
 ·simp only [k1,if_false,false_and,or_false]
  rw [rB,or_comm]
theorem aoU (wf:Wf c) (r:Run) {f top:Nat} (hf:64<=f):∀ (u:Nat) (l:List Nat),u < c.states.length->(c.at_ u).kind<=2->within c u top=true->(∀ x∈l,x < c.states.length)->(∃ s0∈l,Sub c u s0) ->
  ∀ y,y∈(anc c u top).foldl (upS c r f) l↔y∈l\/y∈anc c u top\/∃ A∈anc c u top,(c.at_ A).kind=1/\∃ p∈parts c A,(∀ x∈l,¬Sub c p x)/\De c p y:=by
 intro u
 induction u using Nat.strongRecOn with
 | ind u ih=>
  intro l hu hk w hl hs0 y
  obtain ⟨u0,z⟩:=(aH wf hu).mp w
  have pr:=wf.par u (by omega) hu
  rw [alB wf hu u0]
  by_cases e:(c.at_ u).parent=top
  ·rw [if_pos e];simp
  ·rw [if_neg e,List.foldl_cons]
   obtain ⟨A,hAe⟩:∃ A,A=(c.at_ u).parent:=⟨_,rfl⟩
   rw [<-hAe] at pr e z ⊢
   have hA:A < c.states.length:=by omega
   have zA:within c A top=true:=z.resolve_left e
   have e1:=amy wf r (f:=f) (A:=A) (l:=l) hf hA hl
   have hl2:∀ x∈upS c r f l A,x < c.states.length:=λx hx=>by
    rcases (e1 x).mp hx with h | rfl | ⟨_,p,hp,_,h⟩
    ·exact hl x h
    ·exact hA
    ·exact (h.sub wf (aI.mp hp).1).1
   obtain ⟨s0,hs,hsu⟩:=hs0
   have s0A:Sub c A s0:=Sub.trans wf (hl s0 hs) (.inr ((aH wf hu).mpr ⟨u0,.inl hAe.symm⟩)) hsu
   rw [ih A pr.1 (upS c r f l A) hA (by omega) zA hl2 ⟨s0,(e1 s0).mpr (.inl hs),s0A⟩ y,e1 y]
   have key:∀ A'∈anc c A top,∀ p'∈parts c A',(∀ x∈l,¬Sub c p' x)->∀ x∈upS c r f l A,¬Sub c p' x:=λA' hA' p' hp' no x hx hsub=>by
    obtain ⟨w1,w2,w3⟩:=(xU wf hA zA).mp hA'
    have hxn:=hl2 x hx
    have xA:x∈l\/Sub c A x:=by
     rcases (e1 x).mp hx with h | rfl | ⟨_,p,hp,_,h⟩
     ·exact .inl h
     ·exact .inr (.inl rfl)
     ·obtain ⟨m1,m2,m3,_⟩:=aI.mp hp
      exact .inr (Sub.trans wf hxn (.inr ((aH wf m1).mpr ⟨m2,.inl m3⟩)) (h.sub wf m1).2)
    rcases xA with h | h
    ·exact no x h hsub
    ·obtain ⟨q,hq,hqs⟩:=toward wf hA (by omega) w1
     have:=GV wf hq hp' (Sub.trans wf hxn hqs h) hsub hxn
     subst this
     exact no s0 hs (Sub.trans wf (hl s0 hs) hqs s0A)
   constructor
   ·rintro ((h | rfl | ⟨k,p,hp,h1,h2⟩) | h | ⟨A',hA',k,p,hp,h1,h2⟩)
    ·exact .inl h
    ·exact .inr (.inl (List.mem_cons_self ..))
    ·exact .inr (.inr ⟨A,List.mem_cons_self ..,k,p,hp,h1,h2⟩)
    ·exact .inr (.inl (List.mem_cons_of_mem _ h))
    ·exact .inr (.inr ⟨A',List.mem_cons_of_mem _ hA',k,p,hp,λx hx=>h1 x ((e1 x).mpr (.inl hx)),h2⟩)
   ·rintro (h | h | ⟨A',hA',k,p,hp,h1,h2⟩)
    ·exact .inl (.inl h)
    ·rcases List.mem_cons.mp h with rfl | h
     ·exact .inl (.inr (.inl rfl))
     ·exact .inr (.inl h)
    ·rcases List.mem_cons.mp hA' with rfl | hA'
     ·exact .inl (.inr (.inr ⟨k,p,hp,h1,h2⟩))
     ·exact .inr (.inr ⟨A',hA',k,p,hp,key A' hA' p hp h1,h2⟩)
theorem Vd (wf:Wf c) (r:Run) {f:Nat} (hf:64<=f):∀ (L m:List Nat),(∀ x∈L,x < c.states.length/\(c.at_ x).kind<=2)->L.Pairwise (λa b=>¬Sub c a b/\¬Sub c b a)->(∀ x∈m,x < c.states.length)->(∀ x∈L,∀ z∈m,¬Sub c x z) ->
  ∀ y,y∈L.foldl (λl x=>enter c r f x l) m↔y∈m\/∃ x∈L,De c x y
 | [],m,_,_,_,_,y=>by simp
 | x::L,m,hL,hp,hm,no,y=>by
  obtain ⟨q1,q2⟩:=List.pairwise_cons.mp hp
  have hx:=hL x (List.mem_cons_self ..)
  have e1:=AV wf r f x m (by omega) hx.1 hx.2 hm (no x (List.mem_cons_self ..))
  rw [List.foldl_cons,Vd wf r hf L (enter c r f x m) (λz hz=>hL z (List.mem_cons_of_mem _ hz)) q2 (λz hz=>by
    rcases (e1 z).mp hz with h | h
    ·exact hm z h
    ·exact (h.sub wf hx.1).1) (λu hu z hz hs=>by
    rcases (e1 z).mp hz with h | h
    ·exact no u (List.mem_cons_of_mem _ hu) z h hs
    ·obtain ⟨a,b⟩:=h.sub wf hx.1
     rcases hs with rfl | hs
     ·exact (q1 z hu).1 b
     ·rcases b with rfl | b
      ·exact (q1 u hu).2 (.inr hs)
      ·rcases mZ wf a hs b with e | e | e
       ·subst e;exact (q1 u hu).1 (.inl rfl)
       ·exact (q1 u hu).1 (.inr e)
       ·exact (q1 u hu).2 (.inr e)) y,e1 y]
  constructor
  ·rintro ((h | h) | ⟨z,hz,h⟩)
   ·exact .inl h
   ·exact .inr ⟨x,List.mem_cons_self ..,h⟩
   ·exact .inr ⟨z,List.mem_cons_of_mem _ hz,h⟩
  ·rintro (h | ⟨z,hz,h⟩)
   ·exact .inl (.inl h)
   ·rcases List.mem_cons.mp hz with rfl | hz
    ·exact .inl (.inr h)
    ·exact .inr ⟨z,hz,h⟩
theorem De.ahB {s A p:Nat} (h:De c s A) (k:(c.at_ A).kind=1) (hp:p∈parts c A):De c s p:=by
 induction h with
 | self=>exact .side k hp (.self p)
 | side k' hp' _ ih=>exact .side k' hp' (ih k hp)
 | beg k' hb _ ih=>exact .beg k' hb (ih k hp)
theorem De.alh {s A b:Nat} (h:De c s A) (k:(c.at_ A).kind≠1) (hb:beginning c A=some b):De c s b:=by
 induction h with
 | self=>exact .beg k hb (.self b)
 | side k' hp' _ ih=>exact .side k' hp' (ih k hb)
 | beg k' hb' _ ih=>exact .beg k' hb' (ih k hb)
theorem Sub.le (wf:Wf c) {s x:Nat} (hx:x < c.states.length) (h:Sub c s x):s<=x:=by
 rcases h with rfl | h
 ·exact Nat.le_refl _
 ·exact Nat.le_of_lt (eG wf hx h)
theorem Sub.lt {s x:Nat} (wf:Wf c) (hx:x < c.states.length) (h:Sub c s x):s < c.states.length:=Nat.lt_of_le_of_lt (h.le wf hx) hx
theorem Sub.kind (wf:Wf c) {s x:Nat} (hx:x < c.states.length) (hk:(c.at_ x).kind<=2) (h:Sub c s x):(c.at_ s).kind<=2:=by
 rcases h with rfl | h
 ·exact hk
 ·have:=Gk wf hx h;omega
theorem De.kd (wf:Wf c) {s y:Nat} (h:De c s y) (hs:s < c.states.length) (hk:(c.at_ s).kind<=2):(c.at_ y).kind<=2:=by
 induction h with
 | self=>exact hk
 | side _ hp _ ih=>exact ih (aI.mp hp).1 (aI.mp hp).2.2.2
 | beg _ hb _ ih=>have hp:=bO wf hs hb;exact ih (aI.mp hp).1 (aI.mp hp).2.2.2
theorem De.up (wf:Wf c) {s z u:Nat} (h:De c s z) (hs:s < c.states.length) (hk:(c.at_ s).kind<=2) (h1:Sub c s u) (h2:Sub c u z):De c s u:=by
 have go:∀ {s p z:Nat},p∈parts c s->De c p z->(Sub c p u->Sub c u z->De c p u)->Sub c s u->Sub c u z->u=s\/De c p u:=λ{s p z} hp hd ih h1 h2=>by
  obtain ⟨m1,m2,m3,m4⟩:=aI.mp hp
  obtain ⟨zn,zs⟩:=hd.sub wf m1
  have un:=h2.lt wf zn
  rcases h1 with h1 | h1
  ·exact .inl h1
  ·obtain ⟨q,hq,hqs⟩:=toward wf un (h2.kind wf zn (hd.kd wf m1 m4)) h1
   have:=GV wf hq hp (Sub.trans wf zn hqs h2) zs zn
   subst this
   exact .inr (ih hqs h2)
 induction h with
 | self s=>
  have a:=h1.le wf (h2.lt wf hs)
  have b:=h2.le wf hs
  have e:u=s:=by omega
  rw [e];exact .self s
 | @side s p z k hp hd ih=>
  obtain ⟨m1,m2,m3,m4⟩:=aI.mp hp
  rcases go hp hd (ih m1 m4) h1 h2 with rfl | h
  ·exact .self _
  ·exact .side k hp h
 | @beg s b z k hb hd ih=>
  have hp:=bO wf hs hb
  obtain ⟨m1,m2,m3,m4⟩:=aI.mp hp
  rcases go hp hd (ih m1 m4) h1 h2 with rfl | h
  ·exact .self _
  ·exact .beg k hb h
theorem De.gr (wf:Wf c) {E:Nat->Prop} (hE:∀ e,E e->e < c.states.length) {p y:Nat} (h:De c p y) (hp:p < c.states.length) (g:Gr c E p) (no:∀ e,E e->within c e p=false):Gr c E y:=by
 induction h with
 | self=>exact g
 | @side s p y k hp' _ ih=>
  obtain ⟨m1,m2,m3,_⟩:=aI.mp hp'
  refine ih m1 (.side g k hp') λe he=>?_
  cases w:within c e p with
  | false=>rfl
  | true=>rw [<-no e he,bB wf (hE e he) w ((aH wf m1).mpr ⟨m2,.inl m3⟩)]
 | @beg s b y k hb _ ih=>
  have hp':=bO wf hp hb
  obtain ⟨m1,m2,m3,_⟩:=aI.mp hp'
  refine ih m1 (.beg g k hb no) λe he=>?_
  cases w:within c e b with
  | false=>rfl
  | true=>rw [<-no e he,bB wf (hE e he) w ((aH wf m1).mpr ⟨m2,.inl m3⟩)]
def E1 (c:Chart) (L:List Nat) (top i:Nat):Prop:=∃ x∈L,i=x\/(within c x i=true/\i < c.states.length/\within c i top=true)
theorem al9 (wf:Wf c) (r:Run) {L m:List Nat} {top:Nat} (hL:∀ x∈L,x < c.states.length/\(c.at_ x).kind<=2/\within c x top=true) (ap:L.Pairwise (λa b=>¬Sub c a b/\¬Sub c b a)) (hm:∀ x∈m,x < c.states.length) (no:∀ z∈m,within c z top=false) :
  ∀ y,y∈L.foldl (λl x=>upTo c r FUEL x top l) (L.foldl (λl x=>enter c r FUEL x l) m)↔y∈m\/Gr c (E1 c L top) y:=by
 have noS:∀ x,within c x top=true->∀ z∈m,¬Sub c x z:=λx hx z hz hs=>by
  rcases hs with rfl | hs
  ·rw [no z hz] at hx;cases hx
  ·have:=bB wf (hm z hz) hs hx
   rw [no z hz] at this;cases this
 have apart:∀ x∈L,∀ x'∈L,Sub c x x'->x=x':=λx hx x' hx' hs=>by
  obtain ⟨i,hi⟩:=List.mem_iff_getElem.mp hx
  obtain ⟨j,hj⟩:=List.mem_iff_getElem.mp hx'
  obtain ⟨hi,ei⟩:=hi
  obtain ⟨hj,ej⟩:=hj
  have pw:=List.pairwise_iff_getElem.mp ap
  rcases Nat.lt_trichotomy i j with l | l | l
  ·have:=(pw i j hi hj l).1;rw [ei,ej] at this;exact absurd hs this
  ·subst l;rw [<-ei,<-ej]
  ·have:=(pw j i hj hi l).2;rw [ei,ej] at this;exact absurd hs this
 have e0:=Vd wf r (f:=FUEL) (by decide) L m (λx hx=>⟨(hL x hx).1,(hL x hx).2.1⟩) ap hm (λx hx z hz=>noS x (hL x hx).2.2 z hz)
 have hEn:∀ e,E1 c L top e->e < c.states.length/\within c e top=true:=λe ⟨x,hx,z⟩=>by
  rcases z with rfl | z
  ·exact ⟨(hL _ hx).1,(hL _ hx).2.2⟩
  ·exact ⟨z.2.1,z.2.2⟩
 have walk:∀ (K done l:List Nat),(∀ x∈K,x∈L)->(∀ x∈done,x∈L) ->
   (∃ Ss:Nat->Prop,(∀ x∈L,Ss x)/\(∀ s,Ss s->s < c.states.length/\(c.at_ s).kind<=2/\within c s top=true/\(s∈L\/∃ x∈L,∃ A∈anc c x top,(c.at_ A).kind=1/\s∈parts c A/\∀ x'∈L,¬Sub c s x')) /\
    (∀ y,y∈l↔y∈m\/(∃ x∈done,y∈anc c x top)\/∃ s,Ss s/\De c s y)/\(∀ x∈done,∀ A∈anc c x top,(c.at_ A).kind=1->∀ p∈parts c A,Ss p\/∃ z∈l,z∉m/\Sub c p z)) ->
   ∃ Ss:Nat->Prop,(∀ x∈L,Ss x)/\(∀ s,Ss s->s < c.states.length/\(c.at_ s).kind<=2/\within c s top=true/\(s∈L\/∃ x∈L,∃ A∈anc c x top,(c.at_ A).kind=1/\s∈parts c A/\∀ x'∈L,¬Sub c s x')) /\
    (∀ y,y∈K.foldl (λl x=>upTo c r FUEL x top l) l↔y∈m\/(∃ x∈done++K,y∈anc c x top)\/∃ s,Ss s/\De c s y)/\(∀ x∈done++K,∀ A∈anc c x top,(c.at_ A).kind=1->∀ p∈parts c A,Ss p\/∃ z∈K.foldl (λl x=>upTo c r FUEL x top l) l,z∉m/\Sub c p z):=by
  intro K
  induction K with
  | nil=>intro done l _ _ h;simpa using h
  | cons x K ih=>
   intro done l hK hdn ⟨Ss,s1,s2,s3,s4⟩
   have hxL:=hK x (List.mem_cons_self ..)
   have hx:=hL x hxL
   have hl:∀ z∈l,z < c.states.length:=λz hz=>by
    rcases (s3 z).mp hz with h | ⟨u,hu,h⟩ | ⟨s,h1,h2⟩
    ·exact hm z h
    ·have hu':=hL u (hdn u hu)
     exact ((xU wf hu'.1 hu'.2.2).mp h).2.1
    ·exact (h2.sub wf (s2 s h1).1).1
   have xl:∀ u∈L,u∈l:=λu hu=>(s3 u).mpr (.inr (.inr ⟨u,s1 u hu,.self u⟩))
   have e1:∀ y,y∈upTo c r FUEL x top l↔y∈l\/y∈anc c x top\/∃ A∈anc c x top,(c.at_ A).kind=1/\∃ p∈parts c A,(∀ z∈l,¬Sub c p z)/\De c p y:=λy=>by
    show y∈upTo c r (4095+1) x top l↔_
    rw [ai7]
    exact aoU wf r (by decide) x l hx.1 hx.2.1 hx.2.2 hl ⟨x,xl x hxL,.inl rfl⟩ y
   rw [List.foldl_cons]
   have pw:∀ {A p:Nat},A∈anc c x top->p∈parts c A->within c p top=true/\p < c.states.length/\(c.at_ p).kind<=2:=λ{A p} hA hp=>by
    obtain ⟨a1,a2,a3⟩:=(xU wf hx.1 hx.2.2).mp hA
    obtain ⟨m1,m2,m3,m4⟩:=aI.mp hp
    exact ⟨(aH wf m1).mpr ⟨m2,.inr (by rw [m3];exact a3)⟩,m1,m4⟩
   have res:=ih (done++[x]) (upTo c r FUEL x top l) (λz hz=>hK z (List.mem_cons_of_mem _ hz)) (λz hz=>by
    rcases List.mem_append.mp hz with h | h
    ·exact hdn z h
    ·rw [List.mem_singleton.mp h];exact hxL) ⟨λs=>Ss s\/∃ A∈anc c x top,(c.at_ A).kind=1/\s∈parts c A/\∀ z∈l,¬Sub c s z,λu hu=>.inl (s1 u hu),λs hs=>?_,λy=>?_,λu hu A hA kA p hp=>?_⟩
   ·rw [List.append_assoc] at res;exact res
   ·rcases hs with h | ⟨A,hA,kA,hp,hn⟩
    ·exact s2 s h
    ·have:=pw hA hp
     exact ⟨this.2.1,this.2.2,this.1,.inr ⟨x,hxL,A,hA,kA,hp,λu hu=>hn u (xl u hu)⟩⟩
   ·rw [e1,s3]
    constructor
    ·rintro ((h | ⟨u,hu,h⟩ | ⟨s,h1,h2⟩) | h | ⟨A,hA,kA,p,hp,hn,hd⟩)
     ·exact .inl h
     ·exact .inr (.inl ⟨u,List.mem_append_left _ hu,h⟩)
     ·exact .inr (.inr ⟨s,.inl h1,h2⟩)
     ·exact .inr (.inl ⟨x,List.mem_append_right _ (by simp),h⟩)
     ·exact .inr (.inr ⟨p,.inr ⟨A,hA,kA,hp,hn⟩,hd⟩)
    ·rintro (h | ⟨u,hu,h⟩ | ⟨s,h1 | ⟨A,hA,kA,hp,hn⟩,h2⟩)
     ·exact .inl (.inl h)
     ·rcases List.mem_append.mp hu with hu | hu
      ·exact .inl (.inr (.inl ⟨u,hu,h⟩))
      ·rw [List.mem_singleton.mp hu] at h;exact .inr (.inl h)
     ·exact .inl (.inr (.inr ⟨s,h1,h2⟩))
     ·exact .inr (.inr ⟨A,hA,kA,s,hp,hn,h2⟩)
   ·rcases List.mem_append.mp hu with hu | hu
    ·rcases s4 u hu A hA kA p hp with h | ⟨z,h1,h2⟩
     ·exact .inl (.inl h)
     ·exact .inr ⟨z,(e1 z).mpr (.inl h1),h2⟩
    ·rw [List.mem_singleton.mp hu] at hA
     by_cases z:∃ z∈l,Sub c p z
     ·obtain ⟨z,h1,h2⟩:=z
      refine .inr ⟨z,(e1 z).mpr (.inl h1),λhz=>noS p (pw hA hp).1 z hz h2,h2⟩
     ·exact .inl (.inr ⟨A,hA,kA,hp,λz' hz' hs'=>z ⟨z',hz',hs'⟩⟩)
 obtain ⟨Ss,s1,s2,s3,s4⟩:=walk L [] (L.foldl (λl x=>enter c r FUEL x l) m) (λx hx=>hx) (by simp) ⟨λs=>s∈L,λx hx=>hx,λs hs=>⟨(hL s hs).1,(hL s hs).2.1,(hL s hs).2.2,.inl hs⟩,λy=>by rw [e0 y];simp,by simp⟩
 rw [List.nil_append] at s3 s4
 intro y
 have Eanc:∀ {x A},x∈L->A∈anc c x top->E1 c L top A:=λ{x A} hx hA=>⟨x,hx,.inr ((xU wf (hL x hx).1 (hL x hx).2.2).mp hA)⟩
 constructor
 ·intro hy
  rcases (s3 y).mp hy with h | ⟨x,hx,h⟩ | ⟨s,h1,h2⟩
  ·exact .inl h
  ·exact .inr (.ex (Eanc hx h))
  ·obtain ⟨sn,sk,sw,z⟩:=s2 s h1
   have toldSub:∀ e,E1 c L top e->within c e s=true->∃ x'∈L,within c x' s=true:=λe ⟨x',hx',z⟩ w=>by
    rcases z with rfl | z
    ·exact ⟨_,hx',w⟩
    ·exact ⟨x',hx',bB wf (hL x' hx').1 z.1 w⟩
   have nos:∀ e,E1 c L top e->within c e s=false:=λe he=>by
    cases w:within c e s with
    | false=>rfl
    | true=>
     obtain ⟨x',hx',w'⟩:=toldSub e he w
     rcases z with hs | ⟨_,_,_,_,_,_,hn⟩
     ·have:=apart s hs x' hx' (.inr w')
      subst this
      exact absurd (eG wf sn w') (Nat.lt_irrefl _)
     ·exact absurd (.inr w') (hn x' hx')
   refine .inr (h2.gr wf (λe he=>(hEn e he).1) sn ?_ nos)
   rcases z with hs | ⟨x,hx,A,hA,kA,hp,_⟩
   ·exact .ex ⟨s,hs,.inl rfl⟩
   ·exact .side (.ex (Eanc hx hA)) kA hp
 ·rintro (h | h)
  ·exact (s3 y).mpr (.inl h)
  ·have wt:∀ {y},Gr c (E1 c L top) y->y < c.states.length/\within c y top=true:=λ{y} g=>by
    induction g with
    | ex h=>exact hEn _ h
    | side _ _ hp ih=>
     obtain ⟨m1,m2,m3,_⟩:=aI.mp hp
     exact ⟨m1,(aH wf m1).mpr ⟨m2,.inr (by rw [m3];exact ih.2)⟩⟩
    | beg _ _ hb _ ih=>
     obtain ⟨m1,m2,m3,_⟩:=aI.mp (bO wf ih.1 hb)
     exact ⟨m1,(aH wf m1).mpr ⟨m2,.inr (by rw [m3];exact ih.2)⟩⟩
   have ancOf:∀ {x u:Nat},x∈L->within c x u=true->within c u top=true->u < c.states.length->y=y->u∈L.foldl (λl x=>upTo c r FUEL x top l) (L.foldl (λl x=>enter c r FUEL x l) m):=λ{x u} hx h1 h2 h3 _=>(s3 u).mpr (.inr (.inl ⟨x,hx,(xU wf (hL x hx).1 (hL x hx).2.2).mpr ⟨h1,h3,h2⟩⟩))
   induction h with
   | @ex y h=>
    obtain ⟨x,hx,z⟩:=h
    rcases z with rfl | z
    ·exact (s3 _).mpr (.inr (.inr ⟨_,s1 _ hx,.self _⟩))
    ·exact ancOf hx z.1 z.2.2 z.2.1 rfl
   | @side A p g kA hp ih=>
    have gA:=wt g
    have gp:=wt (.side g kA hp)
    rcases (s3 A).mp (ih λh1 h2 h3 h4 _=>ancOf h1 h2 h3 h4 rfl) with h | ⟨x,hx,h⟩ | ⟨s,h1,h2⟩
    ·rw [no A h] at gA;cases gA.2
    ·rcases s4 x hx A h kA p hp with h | ⟨z,hz,zm,zs⟩
     ·exact (s3 p).mpr (.inr (.inr ⟨p,h,.self p⟩))
     ·rcases (s3 z).mp hz with h | ⟨x',hx',h⟩ | ⟨s,h1,h2⟩
      ·exact absurd h zm
      ·obtain ⟨a1,a2,a3⟩:=(xU wf (hL x' hx').1 (hL x' hx').2.2).mp h
       rcases zs with rfl | zs
       ·exact hz
       ·exact ancOf hx' (bB wf (hL x' hx').1 a1 zs) gp.2 gp.1 rfl
      ·obtain ⟨sn,sk,sw,sz⟩:=s2 s h1
       obtain ⟨zn,zsub⟩:=h2.sub wf sn
       have cmp:Sub c s p\/within c s p=true:=by
        rcases zsub with e1 | w1
        ·subst e1
         rcases zs with e2 | w2
         ·exact .inl (.inl e2.symm)
         ·exact .inr w2
        ·rcases zs with e2 | w2
         ·subst e2;exact .inl (.inr w1)
         ·rcases mZ wf zn w1 w2 with e | e | e
          ·exact .inl (.inl e.symm)
          ·exact .inr e
          ·exact .inl (.inr e)
       rcases cmp with h | h
       ·exact (s3 p).mpr (.inr (.inr ⟨s,h1,h2.up wf sn sk h zs⟩))
       ·rcases sz with hs | ⟨x',hx',A',hA',kA',hp',_⟩
        ·exact ancOf hs h gp.2 gp.1 rfl
        ·obtain ⟨a1,a2,a3⟩:=(xU wf (hL x' hx').1 (hL x' hx').2.2).mp hA'
         obtain ⟨m1,m2,m3,_⟩:=aI.mp hp'
         obtain ⟨_,h⟩:=(aH wf m1).mp h
         rw [m3] at h
         rcases h with h | h
         ·subst h;exact (s3 _).mpr (.inr (.inl ⟨x',hx',hA'⟩))
         ·exact ancOf hx' (bB wf (hL x' hx').1 a1 h) gp.2 gp.1 rfl
    ·exact (s3 p).mpr (.inr (.inr ⟨s,h1,h2.ahB kA hp⟩))
   | @beg A b g kA hb hn ih=>
    have gA:=wt g
    rcases (s3 A).mp (ih λh1 h2 h3 h4 _=>ancOf h1 h2 h3 h4 rfl) with h | ⟨x,hx,h⟩ | ⟨s,h1,h2⟩
    ·rw [no A h] at gA;cases gA.2
    ·have:=((xU wf (hL x hx).1 (hL x hx).2.2).mp h).1
     rw [hn x ⟨x,hx,.inl rfl⟩] at this;cases this
    ·exact (s3 b).mpr (.inr (.inr ⟨s,h1,h2.alh kA hb⟩))
structure eS (c:Chart) (r:Run):Prop where
 i1:∀ s∈r.isIn,plain c s=false->∃ p∈parts c s,p∈r.isIn
 i2:∀ s∈r.isIn,(c.at_ s).parent=0\/(c.at_ s).parent∈r.isIn
 ne:∀ x∈r.kept,x.2≠[]
structure Agr (c:Chart) (r:Run) (l:List Way):Prop where
 ways:∀ w∈l,w∈c.ways
 src:∀ w∈l,w.source∈r.isIn
 dis:l.Pairwise λv w=>∀ s,s∈leaves c r v->s∈leaves c r w->False
theorem kL (rdy:Rdy c) {r:Run} (ok:jg c r) {w:Way} (hw:nS c w) {tg:Nat} (et:w.target=some tg):∃ a,stays c r w=some a/\a < c.states.length/\(c.at_ a).kind=0/\within c w.source a=true/\(∀ x∈leads c r 64 tg,within c x a=true)/\(around c w.source).find? (sE c (leads c r 64 tg))=some a:=by
 have wf:=rdy.wf
 have tk:=hw.tg tg et
 have e:stays c r w=(around c w.source).find? (sE c (leads c r 64 tg)):=by unfold stays;rw [et];rfl
 cases q:(around c w.source).find? (sE c (leads c r 64 tg)) with
 | none=>
  exfalso
  have z:=HW wf hw.s1 (by have:=hw.s0;omega)
  unfold within at z
  have:=List.find?_eq_none.mp q 0 (by simpa using z)
  refine this ?_
  unfold sE
  rw [Bool.and_eq_true]
  refine ⟨rfl,List.all_eq_true.mpr λx hx=>?_⟩
  have:=l7 rdy ok tk.2 (by omega) hx
  exact HW wf this.1 this.2.1
 | some a=>
  have hm:=List.mem_of_find?_eq_some q
  have hp:=List.find?_some q
  have wa:within c w.source a=true:=by unfold within;simpa using hm
  unfold sE at hp
  rw [Bool.and_eq_true,Bool.or_eq_true] at hp
  refine ⟨a,by rw [e,q],?_,?_,wa,λx hx=>List.all_eq_true.mp hp.2 x hx,rfl⟩
  ·have:=eG wf hw.s1 wa;have:=hw.s1;omega
  ·rcases hp.1 with z | z
   ·have:a=0:=by simpa using z
    rw [this];exact wf.k0
   ·simpa using z
theorem K2 {r:Run} {w:Way} (et:w.target=none):stays c r w=none:=by unfold stays;rw [et];rfl
theorem bW {r:Run} {w:Way} {a:Nat} (h:stays c r w=some a) {s:Nat}:s∈leaves c r w↔s∈r.isIn/\within c s a=true:=by unfold leaves;rw [h];simp [List.mem_filter]
theorem gb {r:Run} {w:Way} (h:stays c r w=none):leaves c r w=[]:=by unfold leaves;rw [h]
theorem RP {α:Type} {l:List α} {R:α->α->Prop} (h:l.Pairwise R) (sym:∀ {a b},R a b->R b a) {a b:α} (ha:a∈l) (hb:b∈l) (n:a≠b):R a b:=by
 obtain ⟨i,hi,ei⟩:=List.mem_iff_getElem.mp ha
 obtain ⟨j,hj,ej⟩:=List.mem_iff_getElem.mp hb
 have pw:=List.pairwise_iff_getElem.mp h
 rcases Nat.lt_trichotomy i j with l | l | l
 ·have:=pw i j hi hj l;rwa [ei,ej] at this
 ·subst l;exact absurd (ei.symm.trans ej) n
 ·have:=pw j i hj hi l;rw [ei,ej] at this;exact sym this
theorem VD (rdy:Rdy c) {r:Run} (ok:jg c r) {v w:Way} (hv:nS c v) (hw:nS c w) (sv:v.source∈r.isIn) (sw:w.source∈r.isIn) {a b:Nat} (ea:stays c r v=some a) (eb:stays c r w=some b) (wa:within c v.source a=true) (wb:within c w.source b=true)
  (d:∀ s,s∈leaves c r v->s∈leaves c r w->False):¬Sub c a b/\¬Sub c b a:=by
 have wf:=rdy.wf
 refine ⟨λh=>?_,λh=>?_⟩
 ·refine d w.source ((bW ea).mpr ⟨sw,?_⟩) ((bW eb).mpr ⟨sw,wb⟩)
  rcases h with rfl | h
  ·exact wb
  ·exact bB wf hw.s1 wb h
 ·refine d v.source ((bW ea).mpr ⟨sv,wa⟩) ((bW eb).mpr ⟨sv,?_⟩)
  rcases h with rfl | h
  ·exact wa
  ·exact bB wf hv.s1 wa h
theorem aei (rdy:Rdy c) {r:Run} (ok:jg c r) {tg:Nat} (ht:tg < c.states.length):(leads c r 64 tg).Pairwise (λa b=>¬Sub c a b/\¬Sub c b a):=by
 have wf:=rdy.wf
 rw [n9 rdy r ht]
 by_cases k:(c.at_ tg).kind < 3
 ·rw [if_pos k];simp
 ·rw [if_neg k]
  cases e:r.kept.find? λx=>x.1==tg with
  | none=>simp
  | some x=>
   have kp:=ok.kp x (List.mem_of_find?_eq_some e)
   have no:∀ a∈x.2,∀ b∈x.2,a≠b->¬Sub c a b:=λa ha b hb ne hs=>by
    obtain ⟨a1,a2,a3,a4⟩:=kp.mem a ha
    obtain ⟨b1,b2,b3,b4⟩:=kp.mem b hb
    rcases hs with z | z
    ·exact ne z.symm
    ·rcases kp.anti with z' | z'
     ·obtain ⟨p,hp,_⟩:=toward wf b1 b3 z
      have:=z' a ha
      unfold plain at this
      rw [List.isEmpty_iff] at this
      rw [this] at hp;cases hp
     ·obtain ⟨_,z⟩:=(aH wf b1).mp z
      rw [z' b hb] at z
      have pa:=(wf.par a (by omega) a1).1
      rw [z' a ha] at pa
      rcases z with z | z
      ·omega
      ·have:=eG wf (by omega) z;omega
   have:x.2.Pairwise (· < ·):=kp.nd
   refine List.Pairwise.imp_of_mem (λ{a b} ha hb l=>?_) this
   exact ⟨no a ha b hb (by omega),no b hb a ha (by omega)⟩
theorem aga {r:Run} (wf:Wf c) (ok:jg c r) (inv:eS c r):∀ (k s:Nat),c.states.length<=s+k->s∈r.isIn->∃ x∈r.isIn,plain c x=true/\Sub c s x
 | 0,s,hk,hs=>by have:=(ok.ii s hs).1;omega
 | k+1,s,hk,hs=>by
  cases e:plain c s with
  | true=>exact ⟨s,hs,e,.inl rfl⟩
  | false=>
   obtain ⟨p,hp,hi⟩:=inv.i1 s hs e
   obtain ⟨m1,m2,m3,_⟩:=aI.mp hp
   have:=(wf.par p (by omega) m1).1
   obtain ⟨x,hx,px,sx⟩:=aga wf ok inv k p (by omega) hi
   exact ⟨x,hx,px,Sub.trans wf (ok.ii x hx).1 (.inr ((aH wf m1).mpr ⟨m2,.inl m3⟩)) sx⟩
def tE (c:Chart) (r:Run) (l:List Way):List Nat:=rising (l.flatMap (leaves c r))
theorem ahN (rdy:Rdy c) {r:Run} (ok:jg c r) (inv:eS c r) {h:Nat} (hh:h < c.states.length) (k3:3<=(c.at_ h).kind) (hp:(c.at_ h).parent∈r.isIn):NG c r h≠[]:=by
 have wf:=rdy.wf
 obtain ⟨b,_,hb⟩:=rdy.hist hh k3
 have np:plain c (c.at_ h).parent=false:=by
  unfold plain
  cases e:parts c (c.at_ h).parent with
  | nil=>rw [e] at hb;cases hb
  | cons a r=>rfl
 have ex:∃ x,x∈NG c r h:=by
  unfold NG
  obtain ⟨p,hpp,hpi⟩:=inv.i1 _ hp np
  obtain ⟨m1,m2,m3,m4⟩:=aI.mp hpp
  by_cases k4:(c.at_ h).kind=4
  ·obtain ⟨x,hx,px,sx⟩:=aga wf ok inv c.states.length p (by omega) hpi
   refine ⟨x,List.mem_filter.mpr ⟨hx,?_⟩⟩
   rw [if_pos k4,px,Bool.true_and]
   rcases Sub.trans wf (ok.ii x hx).1 (.inr ((aH wf m1).mpr ⟨m2,.inl m3⟩)) sx with e | e
   ·have:=sx.le wf (ok.ii x hx).1
    have:=(wf.par p (by omega) m1).1
    omega
   ·exact e
  ·exact ⟨p,List.mem_filter.mpr ⟨hpi,by rw [if_neg k4];simp [m3,m2]⟩⟩
 obtain ⟨x,hx⟩:=ex
 intro z;rw [z] at hx;cases hx
section
variable {r q:Run} {l:List Way}
theorem EG (rdy:Rdy c) (ok:jg c r) (inv:eS c r) (ag:Agr c r l) (hq:q.kept=(A5 c r (tE c r l)).kept) {w:Way} (hw:w∈l) {tg a:Nat} (et:w.target=some tg) (ea:stays c r w=some a) :
  (∀ x∈leads c q 64 tg,within c x a=true)/\leads c q 64 tg≠[]:=by
 have wf:=rdy.wf
 have wok:=wf.wy w (ag.ways w hw)
 have tk:=wok.tg tg et
 obtain ⟨a',ea',an,ak,wa,al,_⟩:=kL rdy ok wok et
 rw [ea] at ea';cases ea'
 rw [n9 rdy r tk.2] at al
 rw [qw hq,n9 rdy _ tk.2]
 by_cases k:(c.at_ tg).kind < 3
 ·rw [if_pos k] at al ⊢
  exact ⟨al,by simp⟩
 ·rw [if_neg k] at al ⊢
  rw [aeE tk.2 (by omega) (by omega)]
  obtain ⟨L0,hL0⟩:∃ L0,L0=(match r.kept.find? λx=>x.1==tg with | some x=>x.2 | none=>[jP c tg]):=⟨_,rfl⟩
  have al:∀ x∈L0,within c x a=true:=by rw [hL0];exact al
  have inP:∀ x∈L0,x < c.states.length/\within c x (c.at_ tg).parent=true:=λx hx=>by
   rw [hL0] at hx
   cases e:r.kept.find? λx=>x.1==tg with
   | some y=>
    rw [e] at hx
    have z:=ok.kp y (List.mem_of_find?_eq_some e)
    have ey:y.1=tg:=by simpa using List.find?_some e
    have:=z.mem x hx
    rw [ey] at this
    exact ⟨this.1,this.2.2.2⟩
   | none=>
    rw [e] at hx
    have hx:x=jP c tg:=by simpa using hx
    rw [hx]
    have z:=rdy.lead tk.2 (by omega)
    exact ⟨z.1,z.2.2.2 (by omega)⟩
  have L0ne:L0≠[]:=by
   rw [hL0]
   cases e:r.kept.find? λx=>x.1==tg with
   | some y=>exact inv.ne y (List.mem_of_find?_eq_some e)
   | none=>simp
  by_cases z:(c.at_ tg).parent∈tE c r l
  ·rw [if_pos z]
   show (∀ x∈NG c r tg,_)/\NG c r tg≠[]
   obtain ⟨_,z⟩:=d8.mp z
   obtain ⟨v,hv,hP⟩:=List.mem_flatMap.mp z
   have vok:=wf.wy v (ag.ways v hv)
   cases ev:stays c r v with
   | none=>rw [gb ev] at hP;cases hP
   | some b=>
    obtain ⟨Pi,Pb⟩:=(bW ev).mp hP
    refine ⟨λx hx=>?_,ahN rdy ok inv tk.2 (by omega) Pi⟩
    have hxP:x < c.states.length/\within c x (c.at_ tg).parent=true:=by
     unfold NG at hx
     obtain ⟨h1,h2⟩:=List.mem_filter.mp hx
     have xi:=ok.ii x h1
     refine ⟨xi.1,?_⟩
     split at h2
     ·rw [Bool.and_eq_true] at h2;exact h2.2
     ·rw [Bool.and_eq_true] at h2;exact (aH wf xi.1).mpr ⟨xi.2.1,.inl (by simpa using h2.1)⟩
    obtain ⟨x0,hx0⟩:=List.exists_mem_of_ne_nil _ L0ne
    have i0:=inP x0 hx0
    have nab:¬within c a b=true:=λh=>by
     by_cases e:v=w
     ·subst e
      rw [ea] at ev;cases ev
      exact absurd (eG wf an h) (Nat.lt_irrefl _)
     ·have d:=RP ag.dis (λh s x y=>h s y x) hv hw e
      exact d w.source ((bW ev).mpr ⟨ag.src w hw,bB wf wok.s1 wa h⟩) ((bW ea).mpr ⟨ag.src w hw,wa⟩)
    rcases mZ wf i0.1 (al x0 hx0) i0.2 with e | e | e
    ·rw [e] at nab;exact absurd Pb nab
    ·exact absurd (bB wf an e Pb) nab
    ·exact bB wf hxP.1 hxP.2 e
  ·rw [if_neg z]
   subst hL0
   exact ⟨al,L0ne⟩
def JG (c:Chart) (r q:Run) (m:List Nat) (w:Way):List Nat:=match w.target,stays c r w with
 | some t,some a=>(leads c q 64 t).foldl (λm x=>upTo c q FUEL x a m) ((leads c q 64 t).foldl (λm x=>enter c q FUEL x m) m)
 | _,_=>m
def WG (c:Chart) (r q:Run) (w:Way) (y:Nat):Prop:=∃ tg a,w.target=some tg/\stays c r w=some a/\Gr c (E1 c (leads c q 64 tg) a) y
theorem af3 (rdy:Rdy c) (ok:jg c r) (okq:jg c q) (inv:eS c r) (ag:Agr c r l) (hq:q.kept=(A5 c r (tE c r l)).kept) {w:Way} (hw:w∈l) {y a:Nat} (ea:stays c r w=some a) (h:WG c r q w y):y < c.states.length/\within c y a=true:=by
 have wf:=rdy.wf
 obtain ⟨tg,a',et,ea',g⟩:=h
 rw [ea] at ea';cases ea'
 have tk:=(wf.wy w (ag.ways w hw)).tg tg et
 have li:=(EG rdy ok inv ag hq hw et ea).1
 induction g with
 | ex h=>
  obtain ⟨x,hx,z⟩:=h
  rcases z with rfl | z
  ·exact ⟨(l7 rdy okq tk.2 (by omega) hx).1,li _ hx⟩
  ·exact ⟨z.2.1,z.2.2⟩
 | side _ _ hp ih=>
  obtain ⟨m1,m2,m3,_⟩:=aI.mp hp
  exact ⟨m1,(aH wf m1).mpr ⟨m2,.inr (by rw [m3];exact ih.2)⟩⟩
 | beg _ _ hb _ ih=>
  obtain ⟨m1,m2,m3,_⟩:=aI.mp (bO wf ih.1 hb)
  exact ⟨m1,(aH wf m1).mpr ⟨m2,.inr (by rw [m3];exact ih.2)⟩⟩
theorem Vi (rdy:Rdy c) (ok:jg c r) (okq:jg c q) (inv:eS c r) (ag:Agr c r l) (hq:q.kept=(A5 c r (tE c r l)).kept):∀ (K done m:List _),done++K=l->(∀ y,y∈m↔∃ w∈done,WG c r q w y)->∀ y,y∈K.foldl (JG c r q) m↔∃ w∈l,WG c r q w y
 | [],done,m,e,hm,y=>by rw [List.append_nil] at e;rw [<-e];exact hm y
 | w::K,done,m,e,hm,y=>by
  have wf:=rdy.wf
  have hwl:w∈l:=by rw [<-e];simp
  have wok:=wf.wy w (ag.ways w hwl)
  rw [List.foldl_cons]
  refine Vi rdy ok okq inv ag hq K (done++[w]) (JG c r q m w) (by rw [<-e];simp) (λz=>?_) y
  have snoc:(∃ v∈done++[w],WG c r q v z)↔(∃ v∈done,WG c r q v z)\/WG c r q w z:=by
   constructor
   ·rintro ⟨v,hv,h⟩
    rcases List.mem_append.mp hv with hv | hv
    ·exact .inl ⟨v,hv,h⟩
    ·rw [List.mem_singleton.mp hv] at h;exact .inr h
   ·rintro (⟨v,hv,h⟩ | h)
    ·exact ⟨v,List.mem_append_left _ hv,h⟩
    ·exact ⟨w,List.mem_append_right _ (by simp),h⟩
  rw [snoc,<-hm z]
  cases et:w.target with
  | none=>
   have e1:JG c r q m w=m:=by unfold JG;rw [et]
   rw [e1]
   exact ⟨.inl,λh=>h.elim id λ⟨_,_,h,_⟩=>by rw [et] at h;cases h⟩
  | some tg=>
   have tk:=wok.tg tg et
   obtain ⟨a,ea,an,ak,wa,al,_⟩:=kL rdy ok wok et
   have e1:JG c r q m w=(leads c q 64 tg).foldl (λm x=>upTo c q FUEL x a m) ((leads c q 64 tg).foldl (λm x=>enter c q FUEL x m) m):=by unfold JG;rw [et,ea]
   rw [e1]
   have li:=(EG rdy ok inv ag hq hwl et ea).1
   rw [al9 wf q (λx hx=>⟨(l7 rdy okq tk.2 (by omega) hx).1,(l7 rdy okq tk.2 (by omega) hx).2.2,li x hx⟩) (aei rdy okq tk.2) (λx hx=>?_) (λx hx=>?_) z]
   ·constructor
    ·exact λh=>h.imp id λg=>⟨tg,a,et,ea,g⟩
    ·refine λh=>h.imp id ?_
     rintro ⟨tg',a',et',ea',g⟩
     rw [et] at et';cases et'
     rw [ea] at ea';cases ea'
     exact g
   ·obtain ⟨v,hv,g⟩:=(hm x).mp hx
    obtain ⟨_,b,_,eb,_⟩:=id g
    exact (af3 rdy ok okq inv ag hq (by rw [<-e];exact List.mem_append_left _ hv) eb g).1
   ·obtain ⟨v,hv,g⟩:=(hm x).mp hx
    obtain ⟨tv,b,etv,eb,_⟩:=id g
    have hvl:v∈l:=by rw [<-e];exact List.mem_append_left _ hv
    have vok:=wf.wy v (ag.ways v hvl)
    obtain ⟨b',eb',bn,bk,wb,_⟩:=kL rdy ok vok etv
    rw [eb] at eb';cases eb'
    have xi:=af3 rdy ok okq inv ag hq hvl eb g
    have d:∀ s,s∈leaves c r v->s∈leaves c r w->False:=by
     have:=ag.dis
     rw [<-e] at this
     exact (List.pairwise_append.mp this).2.2 v hv w (List.mem_cons_self ..)
    have na:=VD rdy ok vok wok (ag.src v hvl) (ag.src w hwl) eb ea wb wa d
    cases h:within c x a with
    | false=>rfl
    | true=>
     rcases mZ wf xi.1 xi.2 h with e | e | e
     ·exact absurd (.inl e.symm) na.1
     ·exact absurd (.inr e) na.2
     ·exact absurd (.inr e) na.1
theorem KI (rdy:Rdy c) (ok:jg c r) (okq:jg c q) (inv:eS c r) (ag:Agr c r l) (hq:q.kept=(A5 c r (tE c r l)).kept) (y:Nat):y∈l.foldl (JG c r q) []↔Gr c (Ex c r q l) y:=by
 have wf:=rdy.wf
 rw [Vi rdy ok okq inv ag hq l [] [] rfl (λy=>by simp) y]
 have E1Ex:∀ {w tg a e},w∈l->w.target=some tg->stays c r w=some a->E1 c (leads c q 64 tg) a e->Ex c r q l e:=λ{w tg a e} hw et ea ⟨x,hx,z⟩=>⟨w,hw,tg,et,a,ea,x,hx,z⟩
 have only:∀ {w a A e:Nat} {w:Way},w∈l->stays c r w=some a->within c w.source a=true->A < c.states.length->within c A a=true->Ex c r q l e->within c e A=true->∃ tg,w.target=some tg/\E1 c (leads c q 64 tg) a e:=λ{_ a A e w} hw ea wa An Aa he heA=>by
  obtain ⟨v,hv,tv,etv,b,eb,x,hx,z⟩:=he
  by_cases e1:v=w
  ·subst e1
   rw [ea] at eb;cases eb
   exact ⟨tv,etv,x,hx,z⟩
  ·exfalso
   have vok:=wf.wy v (ag.ways v hv)
   have wok:=wf.wy w (ag.ways w hw)
   obtain ⟨b',eb',bn,bk,wb,_⟩:=kL rdy ok vok etv
   rw [eb] at eb';cases eb'
   have na:=VD rdy ok vok wok (ag.src v hv) (ag.src w hw) eb ea wb wa (RP ag.dis (λh s x y=>h s y x) hv hw e1)
   have xi:=af3 rdy ok okq inv ag hq hv eb ⟨tv,b,etv,eb,.ex ⟨x,hx,z⟩⟩
   rcases mZ wf xi.1 xi.2 (bB wf xi.1 heA Aa) with e | e | e
   ·exact na.1 (.inl e.symm)
   ·exact na.2 (.inr e)
   ·exact na.1 (.inr e)
 constructor
 ·rintro ⟨w,hw,tg,a,et,ea,g⟩
  have wok:=wf.wy w (ag.ways w hw)
  obtain ⟨a',ea',an,ak,wa,al,_⟩:=kL rdy ok wok et
  rw [ea] at ea';cases ea'
  induction g with
  | ex h=>exact .ex (E1Ex hw et ea h)
  | side _ k hp ih=>exact .side ih k hp
  | @beg A b g k hb no ih=>
   refine .beg ih k hb λe he=>?_
   have Ai:=af3 rdy ok okq inv ag hq hw ea ⟨tg,a,et,ea,g⟩
   cases h:within c e A with
   | false=>rfl
   | true=>
    obtain ⟨tg',et',h1⟩:=only (w:=0) hw ea wa Ai.1 Ai.2 he h
    rw [et] at et';cases et'
    rw [no e h1] at h;cases h
 ·intro g
  induction g with
  | ex h=>
   obtain ⟨w,hw,tg,et,a,ea,x,hx,z⟩:=h
   exact ⟨w,hw,tg,a,et,ea,.ex ⟨x,hx,z⟩⟩
  | side _ k hp ih=>
   obtain ⟨w,hw,tg,a,et,ea,g⟩:=ih
   exact ⟨w,hw,tg,a,et,ea,.side g k hp⟩
  | beg _ k hb no ih=>
   obtain ⟨w,hw,tg,a,et,ea,g⟩:=ih
   exact ⟨w,hw,tg,a,et,ea,.beg g k hb λe he=>no e (E1Ex hw et ea he)⟩
end
end SC
namespace SC
open PySem L2
variable {K:W.Frag} {mg:Str->Option Value} {t:Adr}
seal Rc42.leads Rc42.ended Rc42.stays Rc42.leaves Rc42.enter Rc42.upTo
theorem aju (c:Rc42.Chart) (r:Rc42.Run) (s:Nat):(mX c r s).isIn=r.isIn.filter (λx=>x != s)/\(mX c r s).kept=r.kept:=by
 rw [W2]
 have:=AX (c.at_ s).leave { r with isIn:=r.isIn.filter (λx=>x != s),told:=r.told++[256+s] }
 exact ⟨this.1,this.2.1⟩
theorem Xq (c:Rc42.Chart):∀ (L:List Nat) (r:Rc42.Run),(∀ i,i∈(L.foldl (mX c) r).isIn↔i∈r.isIn/\i∉L)/\(L.foldl (mX c) r).kept=r.kept
 | [],r=>⟨λi=>by simp,rfl⟩
 | s::L,r=>by
  have ih:=Xq c L (mX c r s)
  have e:=aju c r s
  refine ⟨λi=>?_,ih.2.trans e.2⟩
  rw [List.foldl_cons,ih.1 i,e.1,List.mem_filter,List.mem_cons]
  simp only [bne_iff_ne,not_or,and_assoc]
theorem alV (c:Rc42.Chart) (r:Rc42.Run) (p:Nat):(ME c r p).isIn=r.isIn/\(ME c r p).kept=r.kept:=by
 unfold ME
 split
 ·exact ⟨rfl,rfl⟩
 ·split<;>exact ⟨rfl,rfl⟩
theorem alv (c:Rc42.Chart) (r:Rc42.Run) (s:Nat):(rR c r s).isIn=Rc42.rising (s::r.isIn)/\(rR c r s).kept=r.kept:=by
 have:=AX (c.at_ s).come { r with isIn:=Rc42.rising (s::r.isIn),told:=r.told++[s] }
 unfold rR
 by_cases k:(c.at_ s).kind≠2
 ·simp only [k,not_false_eq_true,ne_eq,if_true]
  exact ⟨this.1,this.2.1⟩
 ·simp only [k,if_false]
  have e:=alV c (Rc42.acts { r with isIn:=Rc42.rising (s::r.isIn),told:=r.told++[s] } (c.at_ s).come) (c.at_ s).parent
  exact ⟨e.1.trans this.1,e.2.trans this.2.1⟩
theorem Vl (c:Rc42.Chart):∀ (L:List Nat) (r:Rc42.Run),(∀ i∈r.isIn,i < 64)->(∀ i∈L,i < 64)->(∀ i,i∈(L.foldl (rR c) r).isIn↔i∈r.isIn\/i∈L)/\(L.foldl (rR c) r).kept=r.kept
 | [],r,_,_=>⟨λi=>by simp,rfl⟩
 | s::L,r,hr,hL=>by
  have e:=alv c r s
  have ih:=Vl c L (rR c r s) (λi hi=>by rw [e.1] at hi;exact (d8.mp hi).1) (λi hi=>hL i (List.mem_cons_of_mem _ hi))
  refine ⟨λi=>?_,ih.2.trans e.2⟩
  rw [List.foldl_cons,ih.1 i,e.1,d8,List.mem_cons,List.mem_cons]
  constructor
  ·rintro (⟨_,h | h⟩ | h)
   ·exact .inr (.inl h)
   ·exact .inl h
   ·exact .inr (.inr h)
  ·rintro (h | h | h)
   ·exact .inl ⟨hr i h,.inr h⟩
   ·exact .inl ⟨by rw [h];exact hL s (List.mem_cons_self ..),.inl h⟩
   ·exact .inr h
theorem Vx:∀ (l:List Rc42.Way) (r:Rc42.Run),(l.foldl (λp w=>Rc42.acts p w.acts) r).isIn=r.isIn/\(l.foldl (λp w=>Rc42.acts p w.acts) r).kept=r.kept
 | [],_=>⟨rfl,rfl⟩
 | w::l,r=>by
  have ih:=Vx l (Rc42.acts r w.acts)
  have e:=AX w.acts r
  exact ⟨ih.1.trans e.1,ih.2.trans e.2.1⟩
theorem af4 (L:List Nat):Rc42.rising (Rc42.rising L)=Rc42.rising L:=wM (lU _) (lU _) λx=>by rw [d8,d8];exact ⟨λh=>h.2,λh=>⟨h.1,h⟩⟩
def qOf (c:Rc42.Chart) (r:Rc42.Run) (l:List Rc42.Way):Rc42.Run:=(tE c r l).reverse.foldl (mX c) (A5 c r (tE c r l))
theorem aoR (c:Rc42.Chart) (r:Rc42.Run) (l:List Rc42.Way):Rc42.leave c r (tE c r l)=qOf c r l:=by
 rw [agf];unfold qOf tE;rw [af4]
theorem step_eq (c:Rc42.Chart) (r:Rc42.Run) (l:List Rc42.Way):Rc42.step c r l=(Rc42.rising ((l.foldl (JG c r (qOf c r l)) []).filter λs=>!(qOf c r l).isIn.contains s)).foldl (rR c) (l.foldl (λp w=>Rc42.acts p w.acts) (qOf c r l)):=by
 rw [<-Oe,<-aoR]
 rfl
theorem OS (c:Rc42.Chart) (r:Rc42.Run) (l:List Rc42.Way):(∀ i,i∈(qOf c r l).isIn↔i∈r.isIn/\i∉tE c r l)/\(qOf c r l).kept=(A5 c r (tE c r l)).kept:=by
 have:=Xq c (tE c r l).reverse (A5 c r (tE c r l))
 refine ⟨λi=>?_,this.2⟩
 unfold qOf
 rw [this.1 i,List.mem_reverse]
 rfl
theorem yY {c:Rc42.Chart} {r:Rc42.Run} (ok:jg c r) (wf:Wf c) {l:List Rc42.Way} {i:Nat}:i∈tE c r l↔∃ w∈l,i∈Rc42.leaves c r w:=by
 unfold tE
 rw [d8,List.mem_flatMap]
 refine ⟨λh=>h.2,λh=>⟨?_,h⟩⟩
 obtain ⟨w,_,h⟩:=h
 cases e:Rc42.stays c r w with
 | none=>rw [gb e] at h;cases h
 | some a=>have:=(ok.ii i ((bW e).mp h).1).1;have:=wf.n2;omega
theorem anB {c:Rc42.Chart} {r:Rc42.Run} {l:List Rc42.Way} (rdy:Rdy c) (ok:jg c r) (okq:jg c (qOf c r l)) (inv:eS c r) (ag:Agr c r l) :
  (∀ i,i∈(Rc42.step c r l).isIn↔(i∈r.isIn/\i∉tE c r l)\/Gr c (Ex c r (qOf c r l) l) i)/\(Rc42.step c r l).kept=(A5 c r (tE c r l)).kept:=by
 have wf:=rdy.wf
 have n2:=wf.n2
 have hw:∀ w∈l,nS c w:=λw h=>wf.wy w (ag.ways w h)
 have gok:∀ i,Gr c (Ex c r (qOf c r l) l) i->i < c.states.length:=λi g=>(akW wf (λj hj=>Xx rdy okq hw hj) g).1
 have ci:=KI rdy ok okq inv ag (OS c r l).2
 have wa:=Vx l (qOf c r l)
 have cm:=Vl c (Rc42.rising ((l.foldl (JG c r (qOf c r l)) []).filter λs=>!(qOf c r l).isIn.contains s)) (l.foldl (λp w=>Rc42.acts p w.acts) (qOf c r l)) (λi hi=>by rw [wa.1] at hi;have:=(okq.ii i hi).1;omega) (λi hi=>(d8.mp hi).1)
 rw [step_eq]
 refine ⟨λi=>?_,cm.2.trans (wa.2.trans (OS c r l).2)⟩
 rw [cm.1 i,wa.1,(OS c r l).1 i,d8,List.mem_filter,ci i]
 constructor
 ·rintro (h | ⟨_,h,_⟩)
  ·exact .inl h
  ·exact .inr h
 ·rintro (h | h)
  ·exact .inl h
  ·by_cases z:i∈(qOf c r l).isIn
   ·exact .inl (((OS c r l).1 i).mp z)
   ·exact .inr ⟨by have:=gok i h;omega,h,by simp [z]⟩
theorem ajX {c:Rc42.Chart} {r:Rc42.Run} {l:List Rc42.Way} (rdy:Rdy c) (ok:jg c r) (okq:jg c (qOf c r l)) (inv:eS c r) (ag:Agr c r l):eS c (Rc42.step c r l):=by
 have wf:=rdy.wf
 obtain ⟨si,sk⟩:=anB rdy ok okq inv ag
 have hw:∀ w∈l,nS c w:=λw h=>wf.wy w (ag.ways w h)
 have gok:∀ i,Gr c (Ex c r (qOf c r l) l) i->i < c.states.length/\i≠0/\(c.at_ i).kind<=2:=λi g=>akW wf (λj hj=>Xx rdy okq hw hj) g
 have hq:=(OS c r l).2
 have stayNot:∀ {w tg a},w∈l->w.target=some tg->Rc42.stays c r w=some a->(a=0\/(a∈r.isIn/\a∉tE c r l)):=λ{w tg a} hwl et ea=>by
  obtain ⟨a',ea',an,ak,wa,_⟩:=kL rdy ok (hw w hwl) et
  rw [ea] at ea';cases ea'
  have up:∀ {s},s∈r.isIn->∀ {b},Rc42.within c s b=true->b=0\/b∈r.isIn:=by
   intro s
   induction s using Nat.strongRecOn with
   | ind s ih=>
    intro hs b w
    have hsn:=ok.ii s hs
    obtain ⟨s0,z⟩:=(aH wf hsn.1).mp w
    have pr:=(wf.par s (by omega) hsn.1).1
    rcases inv.i2 s hs with p0 | pi
    ·rcases z with z | z
     ·exact .inl (by omega)
     ·rw [p0] at z
      have:=eG wf (by omega) z;omega
    ·rcases z with z | z
     ·exact .inr (z▸pi)
     ·exact ih _ pr pi z
  rcases up (ag.src w hwl) wa with z | z
  ·exact .inl z
  ·refine .inr ⟨z,λh=>?_⟩
   obtain ⟨v,hv,hvl⟩:=(yY ok wf).mp h
   cases ev:Rc42.stays c r v with
   | none=>rw [gb ev] at hvl;cases hvl
   | some b=>
    have wab:=((bW ev).mp hvl).2
    by_cases e:v=w
    ·subst e
     rw [ea] at ev;cases ev
     exact absurd (eG wf an wab) (Nat.lt_irrefl _)
    ·exact RP ag.dis (λh s x y=>h s y x) hv hwl e w.source ((bW ev).mpr ⟨ag.src w hwl,bB wf (hw w hwl).s1 wa wab⟩) ((bW ea).mpr ⟨ag.src w hwl,wa⟩)
 have toldUp:∀ {y A},Ex c r (qOf c r l) l y->Rc42.within c y A=true->∀ {w tg a},w∈l->w.target=some tg->Rc42.stays c r w=some a->(∃ x∈Rc42.leads c (qOf c r l) 64 tg,y=x\/(Rc42.within c x y=true/\y < c.states.length/\Rc42.within c y a=true))->A < c.states.length->Rc42.within c A a=true->Ex c r (qOf c r l) l A:=λ{y A} _ hyA {w tg a} hwl et ea ⟨x,hx,z⟩ hA hAa=>by
  refine ⟨w,hwl,tg,et,a,ea,x,hx,.inr ⟨?_,hA,hAa⟩⟩
  rcases z with rfl | z
  ·exact hyA
  ·exact bB wf (l7 rdy okq ((hw w hwl).tg tg et).2 (by have:=((hw w hwl).tg tg et).1;omega) hx).1 z.1 hyA
 refine ⟨λs hs np=>?_,λs hs=>?_,λx hx=>?_⟩
 ·-- a part
  have fromG:Gr c (Ex c r (qOf c r l) l) s->∃ p∈Rc42.parts c s,p∈(Rc42.step c r l).isIn:=λg=>by
   have gs:=gok s g
   have ne:Rc42.parts c s≠[]:=λz=>by unfold Rc42.plain at np;rw [z] at np;cases np
   by_cases k1:(c.at_ s).kind=1
   ·obtain ⟨p,hp⟩:=List.exists_mem_of_ne_nil _ ne
    exact ⟨p,hp,(si p).mpr (.inr (.side g k1 hp))⟩
   ·cases eb:Rc42.beginning c s with
    | none=>exact absurd ((kU wf gs.1).mp eb) ne
    | some b=>
     by_cases no:∀ y,Ex c r (qOf c r l) l y->Rc42.within c y s=false
     ·exact ⟨b,bO wf gs.1 eb,(si b).mpr (.inr (.beg g k1 eb no))⟩
     ·obtain ⟨y,hy⟩:=Classical.not_forall.mp no
      obtain ⟨hy,wy⟩:=Classical.not_imp.mp hy
      have wy:Rc42.within c y s=true:=by simpa using wy
      have yo:=Xx rdy okq hw hy
      obtain ⟨p,hp,sp⟩:=toward wf yo.1 yo.2.2 wy
      refine ⟨p,hp,(si p).mpr (.inr ?_)⟩
      rcases sp with rfl | sp
      ·exact .ex hy
      ·obtain ⟨w,hwl,tg,et,a,ea,x,hx,z⟩:=id hy
       obtain ⟨m1,m2,m3,m4⟩:=aI.mp hp
       have sa:Rc42.within c s a=true\/s=a:=by
        have wga:Rc42.within c y a=true:=by
         rcases z with rfl | z
         ·exact (EG rdy ok inv ag hq hwl et ea).1 _ hx
         ·exact z.2.2
        rcases mZ wf yo.1 wy wga with e | e | e
        ·exact .inr e
        ·exact .inl e
        ·-- a within s: s is in no way come to
         exfalso
         have:∀ {s},Gr c (Ex c r (qOf c r l) l) s->∃ v∈l,WG c r (qOf c r l) v s:=λ{s} g=>(Vi rdy ok okq inv ag hq l [] [] rfl (λy=>by simp) s).mp ((KI rdy ok okq inv ag hq s).mpr g)
         obtain ⟨v,hv,gv⟩:=this g
         obtain ⟨tv,b,etv,ebv,_⟩:=id gv
         have sb:=af3 rdy ok okq inv ag hq hv ebv gv
         obtain ⟨a',ea',an,ak,wa,_⟩:=kL rdy ok (hw w hwl) et
         rw [ea] at ea';cases ea'
         have wab:=bB wf an e sb.2
         by_cases ev:v=w
         ·subst ev
          rw [ea] at ebv;cases ebv
          exact absurd (eG wf an wab) (Nat.lt_irrefl _)
         ·exact RP ag.dis (λh s x y=>h s y x) hv hwl ev w.source ((bW ebv).mpr ⟨ag.src w hwl,bB wf (hw w hwl).s1 wa wab⟩) ((bW ea).mpr ⟨ag.src w hwl,wa⟩)
       have pa:Rc42.within c p a=true:=(aH wf m1).mpr ⟨m2,by rw [m3];exact sa.symm⟩
       exact .ex (toldUp hy sp hwl et ea ⟨x,hx,z⟩ m1 pa)
  rcases (si s).mp hs with ⟨h1,h2⟩ | h
  ·obtain ⟨p,hp,hpi⟩:=inv.i1 s h1 np
   by_cases z:p∈tE c r l
   ·obtain ⟨w,hwl,hpw⟩:=(yY ok wf).mp z
    cases ew:Rc42.stays c r w with
    | none=>rw [gb ew] at hpw;cases hpw
    | some a=>
     obtain ⟨_,pa⟩:=(bW ew).mp hpw
     obtain ⟨m1,m2,m3,m4⟩:=aI.mp hp
     obtain ⟨_,pa'⟩:=(aH wf m1).mp pa
     rw [m3] at pa'
     rcases pa' with e | e
     ·-- s is what's stayed in: one comes to a part of it
      subst e
      cases et:w.target with
      | none=>rw [K2 et] at ew;cases ew
      | some tg=>
       have li:=EG rdy ok inv ag hq hwl et ew
       obtain ⟨x,hx⟩:=List.exists_mem_of_ne_nil _ li.2
       have xo:=l7 rdy okq ((hw w hwl).tg tg et).2 (by have:=((hw w hwl).tg tg et).1;omega) hx
       obtain ⟨p',hp',sp'⟩:=toward wf xo.1 xo.2.2 (li.1 x hx)
       obtain ⟨q1,q2,q3,q4⟩:=aI.mp hp'
       refine ⟨p',hp',(si p').mpr (.inr (.ex ⟨w,hwl,tg,et,s,ew,x,hx,?_⟩))⟩
       rcases sp' with e | e
       ·exact .inl e.symm
       ·exact .inr ⟨e,q1,(aH wf q1).mpr ⟨q2,.inl q3⟩⟩
     ·exact absurd ((yY ok wf).mpr ⟨w,hwl,(bW ew).mpr ⟨h1,e⟩⟩) h2
   ·exact ⟨p,hp,(si p).mpr (.inl ⟨hpi,z⟩)⟩
  ·exact fromG h
 ·-- the parent
  rcases (si s).mp hs with ⟨h1,h2⟩ | h
  ·rcases inv.i2 s h1 with z | z
   ·exact .inl z
   ·by_cases zl:(c.at_ s).parent∈tE c r l
    ·exfalso
     obtain ⟨w,hwl,hpw⟩:=(yY ok wf).mp zl
     cases ew:Rc42.stays c r w with
     | none=>rw [gb ew] at hpw;cases hpw
     | some a=>
      obtain ⟨_,pa⟩:=(bW ew).mp hpw
      have so:=ok.ii s h1
      exact h2 ((yY ok wf).mpr ⟨w,hwl,(bW ew).mpr ⟨h1,(aH wf so.1).mpr ⟨so.2.1,.inr pa⟩⟩⟩)
    ·exact .inr ((si _).mpr (.inl ⟨z,zl⟩))
  ·cases h with
   | ex h=>
    obtain ⟨w,hwl,tg,et,a,ea,x,hx,z⟩:=id h
    have so:=Xx rdy okq hw h
    have sa:Rc42.within c s a=true:=by
     rcases z with rfl | z
     ·exact (EG rdy ok inv ag hq hwl et ea).1 _ hx
     ·exact z.2.2
    obtain ⟨s0,z'⟩:=(aH wf so.1).mp sa
    rcases z' with e | e
    ·rcases stayNot hwl et ea with q | q
     ·exact .inl (e.trans q)
     ·exact .inr ((si _).mpr (.inl (by rw [e];exact q)))
    ·have pr:=(wf.par s (by omega) so.1).1
     exact .inr ((si _).mpr (.inr (.ex (toldUp h ((aH wf so.1).mpr ⟨s0,.inl rfl⟩) hwl et ea ⟨x,hx,z⟩ (by omega) e))))
   | side g k hp=>rw [(aI.mp hp).2.2.1];exact .inr ((si _).mpr (.inr g))
   | beg g k hb no=>rw [(aI.mp (bO wf (gok _ g).1 hb)).2.2.1];exact .inr ((si _).mpr (.inr g))
 ·rw [sk] at hx
  rcases List.mem_append.mp hx with hx | hx
  ·obtain ⟨m1,m2,m3,m4,m5⟩:=Bg.mp hx
   rw [m5]
   obtain ⟨w,hwl,hpw⟩:=(yY ok wf).mp m4
   cases ew:Rc42.stays c r w with
   | none=>rw [gb ew] at hpw;cases hpw
   | some a=>exact ahN rdy ok inv m1 m3 ((bW ew).mp hpw).1
  ·exact inv.ne x (List.mem_filter.mp hx).1
seal Rc42.step
def C1 (t:Adr):Sp:=λvs H Q _=>∃ S A c r hd T R ml l,vs=[.ref A.ra,.ref ml]/\cu t S H A c r hd T R/\Aj t S A H ml c r l/\Agr c r l/\eS c r/\l.length<=64/\R<=8000000/\T<=8000000 /\
 ∀ H',cu t S H' A c (Rc42.step c r l) hd (T+128) (R+3200)->eS c (Rc42.step c r l)->Frm A H H'->Q .non H'
theorem ald {S H:Hp} {Q:VK} {E:XK} {A:RA} {c:Rc42.Chart} {r:Rc42.Run} {hd T R:Nat} {ml:Addr} {l:List Rc42.Way} (h:cu t S H A c r hd T R) (hm:Aj t S A H ml c r l) (ag:Agr c r l) (inv:eS c r) (hl:l.length<=64) (hR:R<=8000000) (hT:T<=8000000)
  (q:∀ H',cu t S H' A c (Rc42.step c r l) hd (T+128) (R+3200)->eS c (Rc42.step c r l)->Frm A H H'->Q .non H'):C1 t [.ref A.ra,.ref ml] H Q E:=⟨S,A,c,r,hd,T,R,ml,l,rfl,h,hm,ag,inv,hl,hR,hT,q⟩
theorem al8 {Sp:Sps} (T:Txt K mg t) (g1:Sp.jJ=yL t) (g2:Sp.qx=Mj t) (g3:Sp.qS=Xm t) (g4:Sp.lW=LB t) (g5:Sp.kq=Cb t) {vs H Q E} (h:C1 t vs H Q E):KH K t Sp (fin Q) (L2.start ["self","moves","left","one"] vs) H:=by
 obtain ⟨S,A,c,r,hd,TT,R,ml,l,rfl,h,hm,ag,inv,hl64,hR,hT,q⟩:=h
 have rdy:=h.pl.rdy
 have wf:=rdy.wf
 have n2:=wf.n2
 have ok:=h.ok
 have hw:∀ w∈l,nS c w:=λw h=>wf.wy w (ag.ways w h)
 obtain ⟨ms,m1,m2,m3,m4,m5⟩:=id hm
 unfold KH
 simp?
 refine ⟨⟨_,SqL.of m1⟩,?_⟩
 obtain ⟨Pv,hP⟩:∃ Pv:Nat->St->Hp->Prop,∀ k σ H1,Pv k σ H1↔H1=H/\∃ v,σ=[some (.ref A.ra),some (.ref ml),some (.int (M λi=>∃ w∈l.take k,i∈Rc42.leaves c r w)),v]:=⟨_,λ_ _ _=>Iff.rfl⟩
 refine jL (xs:=ms.map V.ref) Pv ((hP _ _ _).mpr ⟨rfl,none,?_⟩) (λk σ H1 _ p=>by rw [((hP _ _ _).mp p).1];exact m1) ?_ ?_
 ·have e:M (λi=>∃ w∈l.take 0,i∈Rc42.leaves c r w)=0:=by rw [<-wk];exact fD λi _=>by simp
  rw [e]
 ·intro k x σ H1 hx hp
  obtain ⟨rfl,v,rfl⟩:=(hP _ _ _).mp hp
  rw [List.getElem?_map] at hx
  obtain ⟨m,em,rfl⟩:=Option.map_eq_some_iff.mp hx
  have hk:k < l.length:=by rw [<-m2];exact (List.getElem?_eq_some_iff.mp em).1
  obtain ⟨w,ew⟩:∃ w,l[k]?=some w:=⟨_,List.getElem?_eq_getElem hk⟩
  obtain ⟨dm,wa,lb',j,x1,x2⟩:=m5 k w m ew em
  simp? [x1]
  rw [Sg]
  refine (hP _ _ _).mpr ⟨rfl,some (.ref m),?_⟩
  have e:M (λi=>(∃ w∈l.take k,i∈Rc42.leaves c r w)\/i∈Rc42.leaves c r w)=M (λi=>∃ w∈l.take (k+1),i∈Rc42.leaves c r w):=fD λi _=>by
   rw [List.take_add_one,ew]
   constructor
   ·rintro (⟨v,hv,z⟩ | z)
    ·exact ⟨v,List.mem_append_left _ hv,z⟩
    ·exact ⟨w,List.mem_append_right _ (by simp),z⟩
   ·rintro ⟨v,hv,z⟩
    rcases List.mem_append.mp hv with hv | hv
    ·exact .inl ⟨v,hv,z⟩
    ·simp at hv;subst hv;exact .inr z
  rw [e]
 ·intro σ H1 hp
  obtain ⟨rfl,v,rfl⟩:=(hP _ _ _).mp hp
  rw [List.length_map,m2,List.take_length]
  have eL:M (λi=>∃ w∈l,i∈Rc42.leaves c r w)=M (λi=>i∈tE c r l):=fD λi _=>(yY ok wf).symm
  rw [eL]
  have lft_n:∀ i∈tE c r l,i < c.states.length:=λi hi=>by
   obtain ⟨w,_,hi⟩:=(yY ok wf).mp hi
   cases e:Rc42.stays c r w with
   | none=>rw [gb e] at hi;cases hi
   | some a=>exact (ok.ii i ((bW e).mp hi).1).1
  simp? [h.ra,g1]
  refine aho h (λi hi=>by have:=lft_n i hi;omega) λH2 h2 f2=>?_
  simp? [h2.ra,g2]
  refine alX h2 lft_n (by omega) (by omega) λH3 h3 f3=>?_
  have eel:el (λi=>i∈tE c r l)=tE c r l:=ahA (lU _) λx=>⟨λz=>⟨(d8.mp z).1,z⟩,λz=>z.2⟩
  rw [eel] at h3
  have h3:cu t S H3 A c (qOf c r l) hd (TT+64) (R+1024):=h3
  have okq:=h3.ok
  have mv3:=hm.frm (f2.trans f3)
  obtain ⟨ms3,m31,m32,m33,m34,m35⟩:=id mv3
  simp?
  refine ⟨⟨_,SqL.of m31⟩,?_⟩
  obtain ⟨Pv2,hP2⟩:∃ Pv:Nat->St->Hp->Prop,∀ k σ H4,Pv k σ H4↔cu t S H4 A c ((l.take k).foldl (λp w=>Rc42.acts p w.acts) (qOf c r l)) hd (TT+64) (R+1024+16 * k)/\Frm A H3 H4/\∃ v,σ=[some (.ref A.ra),some (.ref ml),some (.int (M λi=>i∈tE c r l)),v]:=⟨_,λ_ _ _=>Iff.rfl⟩
  refine jL (xs:=ms3.map V.ref) Pv2 ((hP2 _ _ _).mpr ⟨h3,Frm.refl _ _,_,rfl⟩) (λk σ H4 _ p=>((hP2 _ _ _).mp p).2.1 _ _ m31 m33) ?_ ?_
  ·intro k x σ H4 hx hp4
   obtain ⟨p1,p2,v,rfl⟩:=(hP2 _ _ _).mp hp4
   rw [List.getElem?_map] at hx
   obtain ⟨m,em,rfl⟩:=Option.map_eq_some_iff.mp hx
   have hk:k < l.length:=by rw [<-m32];exact (List.getElem?_eq_some_iff.mp em).1
   obtain ⟨w,ew⟩:∃ w,l[k]?=some w:=⟨_,List.getElem?_eq_getElem hk⟩
   obtain ⟨dm,wa,lb',j,x1,dw,waa,x2,x3,_⟩:=m35 k w m ew em
   have x1':=p2 _ _ x1 (m34 m (List.mem_of_getElem? em))
   have wok:=hw w (List.mem_of_getElem? ew)
   simp? [p1.ra,x1',p1.st _ _ x2,g3]
   refine aog p1 x3 wok.ac wok.al (by omega) λH5 h5 f5=>(hP2 _ _ _).mpr ⟨?_,p2.trans f5,_,rfl⟩
   rw [List.take_add_one,ew,List.foldl_append]
   exact h5.mono (Nat.le_refl _) (by omega)
  ·intro σ H4 hp4
   obtain ⟨p1,p2,v,rfl⟩:=(hP2 _ _ _).mp hp4
   rw [List.length_map,m32,List.take_length] at p1
   have mv4:=mv3.frm p2
   simp? [p1.ra,g4,g5]
   have hst:∀ w∈l,∀ tg,w.target=some tg->∃ a,Rc42.stays c r w=some a/\a < c.states.length:=λw hwl tg et=>by
    obtain ⟨a,ea,an,_⟩:=kL rdy ok (hw w hwl) et
    exact ⟨a,ea,an⟩
   refine ajv p1 mv4 hw hst λH5 s5=>?_
   have h5:=p1.same s5
   have wa:=Vx l (qOf c r l)
   simp? [h5.ra]
   rw [AN]
   have eEx:∀ i,Ex c r (l.foldl (λp w=>Rc42.acts p w.acts) (qOf c r l)) l i↔Ex c r (qOf c r l) l i:=λi=>by
    unfold Ex
    simp only [qw wa.2]
   have eGr:∀ i,Gr c (Ex c r (l.foldl (λp w=>Rc42.acts p w.acts) (qOf c r l)) l) i↔Gr c (Ex c r (qOf c r l) l) i:=λi=>by
    have:Ex c r (l.foldl (λp w=>Rc42.acts p w.acts) (qOf c r l)) l=Ex c r (qOf c r l) l:=funext λi=>propext (eEx i)
    rw [this]
   have gok:∀ i,Gr c (Ex c r (qOf c r l) l) i->i < c.states.length/\i≠0/\(c.at_ i).kind<=2:=λi g=>akW wf (λj hj=>Xx rdy okq hw hj) g
   refine ajW h5 (λi hi=>gok i ((eGr i).mp hi.1)) (by omega) (by omega) λH6 h6 f6=>?_
   have ci:=KI rdy ok okq inv ag (OS c r l).2
   have es:el (λi=>Gr c (Ex c r (l.foldl (λp w=>Rc42.acts p w.acts) (qOf c r l)) l) i/\¬i∈(l.foldl (λp w=>Rc42.acts p w.acts) (qOf c r l)).isIn)=Rc42.rising ((l.foldl (JG c r (qOf c r l)) []).filter λs=>!(qOf c r l).isIn.contains s):=W8 λi hi=>by
    rw [List.mem_filter,ci i,eGr i,wa.1]
    simp
   rw [es,<-step_eq] at h6
   exact q H6 (h6.mono (by omega) (by omega)) (ajX rdy ok okq inv ag) (f2.trans (f3.trans (p2.trans ((Frm.of_same s5).trans f6))))
structure ajg (t:Adr) (H:Hp) (ra na:Addr) (c:Rc42.Chart) (r:Rc42.Run):Prop where
 ex:∃ dx pa dp wl x2 x3 x4 x5 x6 x7 y0 y2 y3 y4 y5 y6 y7 y8 y9 y10 ws,H ra=some (.ins t.aV dx (bF (.ref pa) (.ref na) x2 x3 x4 x5 x6 x7))/\H pa=some (.ins t.bz dp (bJ y0 (.ref wl) y2 y3 y4 y5 y6 y7 y8 y9 y10))/\H wl=some (.lst (List.map V.ref ws)) /\
  ∀ j,j < c.ways.length->∃ a dw wa,ws[j]?=some a/\H a=some (.ins t.eV dw (fR (.int ((bu c j).source:Nat)) (.int ((bu c j).event:Nat)) (.int (ko (bu c j).target)) (.int ((bu c j).ask:Nat)) (.int ((bu c j).which:Nat)) (.int (bu c j).much) (.ref wa)))
 na:H na=some (.lst (r.numbers.map V.int))
 nl:r.numbers.length=16
 wf:Wf c
theorem cu.ask {S H:Hp} {A:RA} {c:Rc42.Chart} {r:Rc42.Run} {hd T R:Nat} (h:cu t S H A c r hd T R):ajg t H A.ra A.na c r:=by
 obtain ⟨rdy,dx,sla,wl,a1,a2,a3,a4,a5,a6,a7,lb,ss,ws,h0,hc,_⟩:=h.plan
 refine ⟨⟨_,_,_,wl,_,_,_,_,_,_,_,_,_,_,_,_,_,_,_,_,ws,h.ra,h0,hc.w1,λj hj=>?_⟩,h.na,h.ok.nl,rdy.wf⟩
 obtain ⟨a,e1,_,dw,wa,e2,_⟩:=hc.wy (xQ hj)
 exact ⟨a,dw,wa,e1,e2⟩
theorem ajg.keep {H H':Hp} {ra na:Addr} {c:Rc42.Chart} {r:Rc42.Run} (h:ajg t H ra na c r) (k:∀ a o,H a=some o->(∀ kvs,o≠.dK kvs)->H' a=some o):ajg t H' ra na c r:=by
 obtain ⟨⟨dx,pa,dp,wl,x2,x3,x4,x5,x6,x7,y0,y2,y3,y4,y5,y6,y7,y8,y9,y10,ws,h1,h2,h3,h4⟩,h5,h6,h7⟩:=h
 exact ⟨⟨dx,pa,dp,wl,x2,x3,x4,x5,x6,x7,y0,y2,y3,y4,y5,y6,y7,y8,y9,y10,ws,k _ _ h1 (by simp),k _ _ h2 (by simp),k _ _ h3 (by simp),λj hj=>let ⟨a,dw,wa,e1,e2⟩:=h4 j hj;⟨a,dw,wa,e1,k _ _ e2 (by simp)⟩⟩,k _ _ h5 (by simp),h6,h7⟩
def sC (t:Adr):Sp:=λvs H Q _=>∃ ra na nl c r ns,vs=[.ref ra,.ref nl]/\ajg t H ra na c r/\H nl=some (.lst (nts ns))/\(∀ j∈ns,j < c.ways.length)/\Q (.int (ko (ns.find? λj=>Rc42.asks r (bu c j)))) H
theorem agH {H:Hp} {Q:VK} {E:XK} {ra na nl:Addr} {c:Rc42.Chart} {r:Rc42.Run} {ns:List Nat} (h:ajg t H ra na c r) (hn:H nl=some (.lst (nts ns))) (hj:∀ j∈ns,j < c.ways.length) (q:Q (.int (ko (ns.find? λj=>Rc42.asks r (bu c j)))) H):sC t [.ref ra,.ref nl] H Q E:=⟨ra,na,nl,c,r,ns,rfl,h,hn,hj,q⟩
theorem aiv {p:Nat->Bool} {l:List Nat} {i:Nat} {x:Nat} (hx:l[i]?=some x) (no:∀ y∈l.take i,p y=false):(p x=true->l.find? p=some x)/\(p x=false->∀ y∈l.take (i+1),p y=false):=by
 refine ⟨λh=>?_,λh y hy=>?_⟩
 ·have e:l=l.take i++x::l.drop (i+1):=by
   obtain ⟨hi,ex⟩:=List.getElem?_eq_some_iff.mp hx
   rw [<-ex,List.getElem_cons_drop,List.take_append_drop]
  rw [e,List.find?_append]
  have:(l.take i).find? p=none:=List.find?_eq_none.mpr λy hy=>by simp [no y hy]
  rw [this,Option.none_or,List.find?_cons,h]
 ·rw [List.take_add_one,hx] at hy
  rcases List.mem_append.mp hy with hy | hy
  ·exact no y hy
  ·simp at hy;subst hy;exact h
theorem aew {Sp:Sps} (T:Txt K mg t) (g1:Sp.Vr=Vc) {vs H Q E} (h:sC t vs H Q E):ve K t Sp (fin Q) (L2.start ["self","numbers","number","way"] vs) H:=by
 obtain ⟨ra,na,nl,c,r,ns,rfl,⟨⟨dx,pa,dp,wl,x2,x3,x4,x5,x6,x7,y0,y2,y3,y4,y5,y6,y7,y8,y9,y10,ws,h1,h2,h3,h4⟩,h5,h6,wf⟩,hn,hj,q⟩:=h
 unfold ve
 simp?
 refine ⟨⟨_,SqL.of hn⟩,?_⟩
 obtain ⟨Pv,hP⟩:∃ Pv:Nat->St->Hp->Prop,∀ k σ H1,Pv k σ H1↔H1=H/\(∀ y∈ns.take k,Rc42.asks r (bu c y)=false)/\∃ v w,σ=[some (.ref ra),some (.ref nl),v,w]:=⟨_,λ_ _ _=>Iff.rfl⟩
 refine jL (xs:=nts ns) Pv ((hP _ _ _).mpr ⟨rfl,by simp,_,_,rfl⟩) (λk σ H1 _ p=>by rw [((hP _ _ _).mp p).1];exact hn) ?_ ?_
 ·intro k x σ H1 hx hp
  obtain ⟨rfl,p2,v,w,rfl⟩:=(hP _ _ _).mp hp
  obtain ⟨j,ej,rfl⟩:=yt hx
  have hjl:=hj j (List.mem_of_getElem? ej)
  obtain ⟨a,dw,wa,e1,e2⟩:=h4 j hjl
  have ok:=wf.wy _ (NK hjl)
  have ft:=aiv (p:=λj=>Rc42.asks r (bu c j)) ej p2
  simp? [h1,h2]
  refine ix h3 rfl (j:=j) (v:=.ref a) (by rw [List.getElem?_map,e1];rfl) ?_
  simp? [e2,h1]
  have nx:Rc42.asks r (bu c j)=false->Pv (k+1) [some (.ref ra),some (.ref nl),some (.int (j:Nat)),some (.ref a)] H1:=λz=>(hP _ _ _).mpr ⟨rfl,ft.2 z,_,_,rfl⟩
  have yes:Rc42.asks r (bu c j)=true->Q (.int (j:Nat)) H1:=λz=>by rw [ft.1 z] at q;exact q
  by_cases a0:(bu c j).ask=0
  ·rw [if_pos (by omega)]
   exact yes (by unfold Rc42.asks;simp [a0])
  ·rw [if_neg (by omega)]
   have wl':(bu c j).which < r.numbers.length:=by have:=ok.wh;omega
   have eg:r.numbers[(bu c j).which]?=some (r.numbers.getD (bu c j).which 0):=by rw [List.getD_eq_getElem?_getD,List.getElem?_eq_getElem wl'];rfl
   refine ix h5 rfl (j:=(bu c j).which) (v:=.int (r.numbers.getD (bu c j).which 0)) (by rw [List.getElem?_map,eg];rfl) ?_
   simp? [e2,g1]
   have ak:=ok.ak
   refine ⟨(bu c j).ask,_,_,rfl,by omega,ak,?_⟩
   have ea:Rc42.asks r (bu c j)=(((bu c j).ask==1&&r.numbers.getD (bu c j).which 0==(bu c j).much)||(((bu c j).ask==2&&decide (r.numbers.getD (bu c j).which 0 < (bu c j).much))||((bu c j).ask==3&&decide ((bu c j).much<=r.numbers.getD (bu c j).which 0)))):=by
    unfold Rc42.asks
    have:((bu c j).ask==0)=false:=by simpa using a0
    simp only [this,Bool.false_or]
   rw [<-ea]
   simp?
   cases z:Rc42.asks r (bu c j) with
   | true=>simp?;exact yes z
   | false=>simp?;exact nx z
 ·intro σ H1 hp
  obtain ⟨rfl,p2,v,w,rfl⟩:=(hP _ _ _).mp hp
  rw [dJ,List.take_length] at p2
  simp?
  have e:(ns.find? λj=>Rc42.asks r (bu c j))=none:=List.find?_eq_none.mpr λy hy=>by simp [p2 y hy]
  rw [e] at q;exact q
def oz (c:Rc42.Chart) (r:Rc42.Run) (acc:List Nat) (p:Nat×List Nat):List Nat:=if p.1∈r.isIn then (match p.2.find? λj=>Rc42.asks r (bu c j) with
 | none=>acc
 | some j=>if j∈acc then acc else acc++[j]) else acc
noncomputable def Rz (c:Rc42.Chart) (r:Rc42.Run) (e:Nat):List Nat:=(ly c (el (plP c)) e).foldl (oz c r) []
theorem ahy {c:Rc42.Chart} {r:Rc42.Run} {n:Nat}:∀ (tl:List (Nat×List Nat)) (acc:List Nat),(∀ p∈tl,∀ j∈p.2,j < n)->(∀ j∈acc,j < n)->∀ j∈tl.foldl (oz c r) acc,j < n
 | [],_,_,h=>h
 | p::tl,acc,hp,h=>ahy tl _ (λq hq=>hp q (List.mem_cons_of_mem _ hq)) λj hj=>by
  unfold oz at hj
  split at hj
  ·split at hj
   ·exact h j hj
   ·rename_i k ek
    split at hj
    ·exact h j hj
    ·rcases List.mem_append.mp hj with z | z
     ·exact h j z
     ·rw [List.mem_singleton.mp z];exact hp p (List.mem_cons_self ..) k (List.mem_of_find?_eq_some ek)
  ·exact h j hj
theorem TR {c:Rc42.Chart} {r:Rc42.Run}:∀ (tl:List (Nat×List Nat)) (acc:List Nat),(tl.foldl (oz c r) acc).length<=acc.length+tl.length
 | [],acc=>by simp
 | p::tl,acc=>by
  have ih:=TR (c:=c) (r:=r) tl (oz c r acc p)
  have:(oz c r acc p).length<=acc.length+1:=by
   unfold oz
   split
   ·split
    ·omega
    ·split<;>simp
   ·omega
  rw [List.foldl_cons,List.length_cons]
  omega
theorem alw {c:Rc42.Chart} {s j:Nat} (h:j∈chain c s):j < c.ways.length:=by
 unfold chain at h
 obtain ⟨a,_,h⟩:=List.mem_flatMap.mp h
 exact (RJ.mp h).1
theorem aie {c:Rc42.Chart} {done:List Nat} {e:Nat} {p:Nat×List Nat} (h:p∈ly c done e):∀ j∈p.2,j < c.ways.length:=by
 unfold ly at h
 obtain ⟨s,_,h⟩:=List.mem_flatMap.mp h
 unfold xM at h
 split at h
 ·cases h
 ·simp at h
  rw [h]
  intro j hj
  exact alw (List.mem_filter.mp hj).1
def fkv (l:List Nat):List (Key×V):=l.map λ(j:Nat)=>((Sum.inl (j:Int):Key),V.bl true)
theorem ah3 {l:List Nat} {j:Nat}:iN (fkv l) (Sum.inl (j:Int))=if j∈l then some (.bl true) else none:=by
 induction l with
 | nil=>rfl
 | cons a l ih=>
  by_cases e:a=j
  ·subst e
   rw [if_pos (List.mem_cons_self ..)]
   exact jj rfl
  ·have:iN (fkv (a::l)) (Sum.inl (j:Int))=iN (fkv l) (Sum.inl (j:Int)):=iC (λz=>e (by have:=Sum.inl.inj z;omega))
   rw [this,ih]
   by_cases m:j∈l
   ·rw [if_pos m,if_pos (List.mem_cons_of_mem _ m)]
   ·rw [if_neg m,if_neg (λz=>(List.mem_cons.mp z).elim (λy=>e y.symm) m)]
theorem anh {l:List Nat} {j:Nat}:putK (fkv l) (Sum.inl (j:Int)) (.bl true)=fkv (if j∈l then l else l++[j]):=by
 by_cases m:j∈l
 ·rw [if_pos m]
  unfold putK
  have:((fkv l).any λkv=>decide (kv.1=Sum.inl (j:Int)))=true:=by rw [vZ,ah3,if_pos m];rfl
  rw [if_pos this]
  unfold fkv
  rw [List.map_map]
  refine List.map_congr_left λa _=>?_
  show (if (Sum.inl (a:Int):Key)=Sum.inl (j:Int) then ((Sum.inl (a:Int):Key),V.bl true) else (Sum.inl (a:Int),V.bl true))=_
  split<;>rfl
 ·rw [if_neg m,HV _ (by rw [ah3,if_neg m])]
  unfold fkv;simp
def NU (t:Adr):Sp:=λvs H Q _=>∃ S A c r hd T R,∃ e:Nat,vs=[.ref A.ra,.int e]/\cu t S H A c r hd T R/\∀ H' l,aP H H'->H l=none->H' l=some (.lst (nts (Rz c r e)))->Q (.ref l) H'
theorem amN {S H:Hp} {Q:VK} {E:XK} {A:RA} {c:Rc42.Chart} {r:Rc42.Run} {hd T R e:Nat} (h:cu t S H A c r hd T R) (q:∀ H' l,aP H H'->H l=none->H' l=some (.lst (nts (Rz c r e)))->Q (.ref l) H'):NU t [.ref A.ra,.int e] H Q E:=⟨S,A,c,r,hd,T,R,e,rfl,h,q⟩
theorem alp {Sp:Sps} (T:Txt K mg t) (g1:Sp.jO=sC t) {vs H Q E} (h:NU t vs H Q E):Gd K t Sp (fin Q) (L2.start ["self","event","found","place","numbers","number"] vs) H:=by
 obtain ⟨S,A,c,r,hd,TT,R,e,rfl,h,q⟩:=h
 have slz:=sizeLine_eq
 have n2:=h.pl.rdy.wf.n2
 have ask:=h.ask
 obtain ⟨rdy,dx,sla,wl,a1,a2,a3,a4,a5,a6,a7,lb,ss,ws,h0,hc,_,_,_,_,_,_,lab,Hb,kvs,off⟩:=h.plan
 unfold Gd
 simp? [BL]
 intro fo hfo
 have s1:aP H (upd H fo (.dK [])):=aT hfo
 obtain ⟨H1,hH1⟩:∃ H1,H1=upd H fo (.dK []):=⟨_,rfl⟩
 have fo1:H1 fo=some (.dK []):=by rw [hH1,ay]
 rw [<-hH1] at s1 ⊢
 have lenT:(ly c (el (plP c)) e).length<=64:=Nat.le_trans (Mg c e _) (J9 _)
 have walk:∀ (NF:Addr->Prop) (H3:Hp) (d:Addr) (tl:List (Nat×List Nat)) (ls:List Addr),aP H H3->H3 fo=some (.dK [])->d≠fo->H3 d=some (.dK (dOf tl ls))->tl=ly c (el (plP c)) e->ls.length=tl.length->(∀ (k:Nat) s ns l,tl[k]?=some (s,ns)->ls[k]?=some l->H3 l=some (.lst (nts ns)))->NF d ->
   ∀ od,K0 (Iti d od (dOf tl ls)) (ael K 2 (wI (aX 3) (wI (aX 4) abo))) (cP (bw (tOp rNe (tOp (rI0 λi j=>.int (Builtin.bitAnd i j)) (aN K (aa 0) "active") (aa 3)) (tC (.int 0)))) (aK (c5 (bD t.aV "first_so" (sC t) [] E0 (aa 0) (aB (aa 4) aJ)) (aX 5))
    (cP (bw (tOp rNe (aa 5) (tC (.int (-1))))) (ahU (aa 2) (aa 5) (tC (.bl true))) bL)) bL) (aj2 NF { nx:=bG (tCB agT (aB (aa 2) aJ)) (fin Q),rt:=Q }) [some (.ref A.ra),some (.int e),some (.ref fo),none,none,none] (upd H3 d (.frz od (.dK (dOf tl ls)))):=by
  intro NF H3 d tl ls s3 f3 dfo hd3 etl hls hll hNF od
  have dl:=aae hls
  obtain ⟨Pv,hP⟩:∃ Pv:Nat->St->Hp->Prop,∀ k σ H4,Pv k σ H4↔(∀ a o,H3 a=some o->a≠d->a≠fo->H4 a=some o)/\H4 d=some (.frz od (.dK (dOf tl ls)))/\H4 fo=some (.dK (fkv ((tl.take k).foldl (oz c r) [])))/\∃ v3 v4 v5,σ=[some (.ref A.ra),some (.int e),some (.ref fo),v3,v4,v5]:=⟨_,λ_ _ _=>Iff.rfl⟩
  refine amf Pv ((hP _ _ _).mpr ⟨λa o z n _=>by rw [aq n];exact z,ay,by rw [aq (Ne.symm dfo)];exact f3,_,_,_,rfl⟩) (λk σ H4 _ p=>((hP _ _ _).mp p).2.1) ?_ ?_
  ·intro k key v σ H4 T1 hkv hp hT
   obtain ⟨p1,p2,p3,v3,v4,v5,rfl⟩:=(hP _ _ _).mp hp
   rw [ahY hls] at hkv
   obtain ⟨⟨s,ns⟩,es,hkv⟩:=Option.bind_eq_some_iff.mp hkv
   obtain ⟨l,el',hkv⟩:=Option.map_eq_some_iff.mp hkv
   cases hkv
   have hl3:=hll k s ns l es el'
   have hsl:(s,ns)∈tl:=List.mem_of_getElem? es
   have spl:=WT (c:=c) (done:=el (plP c)) (e:=e) (s:=s) (l:=ns) (etl▸hsl)
   have s64:=(qA.mp spl).1
   have nlt:=aie (etl▸hsl:(s,ns)∈ly c (el (plP c)) e)
   have ld:l≠d:=fL hl3 hd3 (by simp)
   have lf:l≠fo:=fL hl3 f3 (by simp)
   obtain ⟨H5,hH5⟩:∃ H5,H5=upd H4 T1 (.tup [kV (kM s),.ref l]):=⟨_,rfl⟩
   have t5:aP H4 H5:=by rw [hH5];exact aT hT
   refine gT (xs:=[kV (kM s),.ref l]) ay rfl ?_
   rw [<-hH5]
   have kv:kV (kM s)=V.int (M λi=>i=s):=rfl
   rw [kv]
   have kp:∀ a o,H a=some o->(∀ kvs,o≠.dK kvs)->H5 a=some o:=λa o z n=>t5 _ _ (p1 _ _ (s3 _ _ z) (λy=>by rw [y] at z;have:=s3 _ _ z;rw [hd3] at this;cases this;exact n _ rfl) (λy=>by rw [y] at z;have:=s3 _ _ z;rw [f3] at this;cases this;exact n _ rfl))
   have ask5:=ask.keep kp
   have ra5:=kp _ _ h.ra (by simp)
   simp! [ra5]
   rw [xh]
   have nx:∀ {H6:Hp} {v:Option V},(∀ a o,H3 a=some o->a≠d->a≠fo->H6 a=some o)->H6 d=some (.frz od (.dK (dOf tl ls)))->H6 fo=some (.dK (fkv (oz c r ((tl.take k).foldl (oz c r) []) (s,ns))))->Pv (k+1) [some (.ref A.ra),some (.int e),some (.ref fo),some (V.int (M λi=>i=s)),some (.ref l),v] H6:=λ{H6 v} a b d'=>(hP _ _ _).mpr ⟨a,b,by rw [List.take_add_one,es,List.foldl_append];exact d',_,_,_,rfl⟩
   have keep5:∀ a o,H3 a=some o->a≠d->a≠fo->H5 a=some o:=λa o z n m=>t5 _ _ (p1 a o z n m)
   by_cases z:M (λi=>i∈r.isIn/\i=s)=0
   ·rw [if_neg (λy=>y z)]
    have ns':¬s∈r.isIn:=λy=>lY.mp z s s64 ⟨y,rfl⟩
    refine nx keep5 (t5 _ _ p2) ?_
    have e1:oz c r ((tl.take k).foldl (oz c r) []) (s,ns)=(tl.take k).foldl (oz c r) []:=by unfold oz;rw [if_neg ns']
    rw [e1];exact t5 _ _ p3
   ·rw [if_pos z]
    have ys:s∈r.isIn:=Classical.byContradiction λy=>z (lY.mpr λi _ ⟨a,b⟩=>y (b▸a))
    refine agH ask5 (keep5 _ _ hl3 ld lf) nlt ?_
    simp?
    cases ef:ns.find? λj=>Rc42.asks r (bu c j) with
    | none=>
     simp? [ko,not_true_eq_false]
     refine nx keep5 (t5 _ _ p2) ?_
     have e1:oz c r ((tl.take k).foldl (oz c r) []) (s,ns)=(tl.take k).foldl (oz c r) []:=by unfold oz;rw [if_pos ys,ef]
     rw [e1];exact t5 _ _ p3
    | some j=>
     have nn:¬(j:Int)=-1:=by omega
     simp? [ko,nn,not_false_eq_true,ahU]
     have p5:=t5 _ _ p3
     have ln:((tl.take k).foldl (oz c r) []).length<=64:=by
      have h1:=TR (c:=c) (r:=r) (tl.take k) []
      have h2:(tl.take k).length<=tl.length:=by rw [List.length_take];exact Nat.min_le_right _ _
      have h3:tl.length<=64:=by rw [etl];exact lenT
      simp only [List.length_nil] at h1
      omega
     refine ⟨_,alb.k (k:=Sum.inl (j:Int)) p5 (by unfold fkv;rw [List.length_map];omega),nx (λa o z n m=>by rw [aq m];exact keep5 a o z n m) (by rw [aq dfo];exact t5 _ _ p2) ?_⟩
     have e1:oz c r ((tl.take k).foldl (oz c r) []) (s,ns)=if j∈(tl.take k).foldl (oz c r) [] then (tl.take k).foldl (oz c r) [] else (tl.take k).foldl (oz c r) []++[j]:=by unfold oz;rw [if_pos ys,ef]
     rw [ay,anh,e1]
  ·intro σ H4 hp
   obtain ⟨p1,p2,p3,v3,v4,v5,rfl⟩:=(hP _ _ _).mp hp
   rw [dl,List.take_length,etl] at p3
   refine ⟨d,od,_,p2,hNF,?_⟩
   simp?
   have pf:upd H4 d (.dK (dOf tl ls)) fo=some (.dK (fkv (Rz c r e))):=by rw [aq (Ne.symm dfo)];exact p3
   refine ⟨fo,_,rfl,.inl pf,λl hl=>?_⟩
   have sm:aP H (upd H4 d (.dK (dOf tl ls))):=λa o z=>by
    by_cases y:a=d
    ·rw [y,ay];rw [y] at z;rw [<-hd3];exact s3 _ _ z
    ·rw [aq y];exact p1 a o (s3 a o z) y (ao z hfo)
   refine q _ l (sm.trans (aT hl)) (sm.free hl) ?_
   rw [ay]
   unfold fkv nts
   rw [List.map_map]
   rfl
 intro NF
 simp? [h0,agD,apb,s1 _ _ h.ra,s1 _ _ h0,g1,BL]
 refine ⟨.inl ⟨kvs,.inl (s1 _ _ off.at_)⟩,λp hp=>?_⟩
 have s3:aP H1 (upd H1 p (.dK [])):=aT hp
 have fp:p≠fo:=(ao fo1 hp).symm
 rcases off.ev e with ⟨ev1,ev2⟩ | ⟨d,ev1,ld,ls,ev2,ev3,ev4⟩
 ·refine ⟨none,.inl ⟨kvs,Sum.inl (e:Int),.inl (s3 _ _ (s1 _ _ off.at_)),rfl,ev1.symm⟩,p,rfl,[],ay,λod hNF=>?_⟩
  exact walk NF (upd H1 p (.dK [])) p [] [] (s1.trans s3) (s3 _ _ fo1) fp ay ev2.symm rfl (λk s ns l g=>by simp at g) hNF od
 ·refine ⟨some (.ref d),.inl ⟨kvs,Sum.inl (e:Int),.inl (s3 _ _ (s1 _ _ off.at_)),rfl,ev1.symm⟩,d,rfl,_,s3 _ _ (s1 _ _ ev2),λod hNF=>?_⟩
  exact walk NF (upd H1 p (.dK [])) d _ ls (s1.trans s3) (s3 _ _ fo1) (ao ev2 hfo) (s3 _ _ (s1 _ _ ev2)) rfl ev3 (λk s ns l g1 g2=>s3 _ _ (s1 _ _ (ev4 k s ns l g1 g2).1)) hNF od
end SC
namespace SC
open Rc42
variable {c:Chart} {r:Run} {e:Nat}
def ahj (c:Chart) (r:Run) (e a:Nat):Option Nat:=(evL c e (own c a)).find? λj=>asks r (bu c j)
theorem aml (c:Chart) (r:Run) (e a:Nat) (ka:(c.at_ a).kind < 3):(c.ways.find? λw=>w.source==a&&(w.event==e&&((c.at_ a).kind < 3&&asks r w)))=(ahj c r e a).map (bu c):=by
 have ew:c.ways=(List.range c.ways.length).map (bu c):=by
  apply List.ext_getElem?
  intro j
  by_cases h:j < c.ways.length
  ·rw [xQ h,List.getElem?_map,List.getElem?_range h];rfl
  ·rw [List.getElem?_eq_none (by omega),List.getElem?_eq_none (by simp;omega)]
 conv=>lhs;rw [ew]
 rw [List.find?_map]
 congr 1
 unfold ahj evL own Wl
 rw [List.filter_filter,List.find?_filter]
 congr 1
 funext j
 show ((bu c j).source==a&&((bu c j).event==e&&(decide ((c.at_ a).kind < 3)&&asks r (bu c j))))=_
 rw [decide_eq_true ka,Bool.true_and,<-Bool.and_assoc,Bool.eq_iff_iff]
 simp
 exact λ_=>And.comm
theorem adY {α β:Type} {f g:α->Option β}:∀ {l:List α},(∀ a∈l,f a=g a)->l.filterMap f=l.filterMap g
 | [],_=>rfl
 | a::l,h=>by rw [List.filterMap_cons,List.filterMap_cons,h a (List.mem_cons_self ..),adY λx hx=>h x (List.mem_cons_of_mem _ hx)]
theorem N9 {α β:Type} (p:β->Bool) (f:α->List β):∀ l:List α,(l.flatMap f).find? p=(l.filterMap λa=>(f a).find? p).head?
 | []=>rfl
 | a::l=>by
  rw [List.flatMap_cons,List.find?_append,List.filterMap_cons,N9 p f l]
  cases (f a).find? p with
  | none=>rfl
  | some b=>rfl
def UC (c:Chart) (r:Run) (e s:Nat):Option Way:=((s::around c s).filterMap λa=>c.ways.find? λw=>w.source==a&&(w.event==e&&((c.at_ a).kind < 3&&asks r w))).head?
def Of (c:Chart) (r:Run) (e s:Nat):Option Nat:=(evL c e (chain c s)).find? λj=>asks r (bu c j)
theorem aoy (wf:Wf c) {s:Nat} (hs:s < c.states.length) (ks:(c.at_ s).kind<=2):UC c r e s=(Of c r e s).map (bu c):=by
 have e1:Of c r e s=((s::around c s).filterMap (ahj c r e)).head?:=by
  unfold Of chain evL
  rw [List.filter_flatMap,N9]
  rfl
 rw [e1]
 unfold UC
 have ka:∀ a∈s::around c s,(c.at_ a).kind < 3:=λa ha=>by
  rcases List.mem_cons.mp ha with rfl | ha
  ·omega
  ·have:within c s a=true:=by unfold within;simpa using ha
   have:=Gk wf hs this;omega
 have e2:((s::around c s).filterMap λa=>c.ways.find? λw=>w.source==a&&(w.event==e&&((c.at_ a).kind < 3&&asks r w)))=((s::around c s).filterMap (ahj c r e)).map (bu c):=by
  rw [List.map_filterMap]
  exact adY λa ha=>aml c r e a (ka a ha)
 rw [e2,List.head?_map]
def Fst (c:Chart) (r:Run) (e j:Nat):Prop:=ahj c r e (bu c j).source=some j
theorem am9 {s j:Nat} (h:Of c r e s=some j):Fst c r e j:=by
 have e1:Of c r e s=((s::around c s).filterMap (ahj c r e)).head?:=by
  unfold Of chain evL
  rw [List.filter_flatMap,N9]
  rfl
 rw [e1] at h
 have hm:=List.mem_of_mem_head? h
 obtain ⟨a,_,ha⟩:=List.mem_filterMap.mp hm
 have:(bu c j).source=a:=by
  unfold ahj at ha
  have:=List.mem_of_find?_eq_some ha
  unfold evL at this
  exact (RJ.mp (List.mem_filter.mp this).1).2
 unfold Fst
 rw [this];exact ha
theorem amR {j j':Nat} (h:Fst c r e j) (h':Fst c r e j') (w:bu c j=bu c j'):j=j':=by
 unfold Fst at h h'
 rw [w,h'] at h
 exact (Option.some.inj h).symm
def aiw (acc:List Nat):Option Nat->List Nat
 | none=>acc
 | some j=>if j∈acc then acc else acc++[j]
def addW (l:List Way):Option Way->List Way
 | none=>l
 | some w=>if l.contains w=true then l else l++[w]
theorem add_eq {acc:List Nat} {o:Option Nat} (ha:∀ j∈acc,Fst c r e j) (ho:∀ j,o=some j->Fst c r e j):addW (acc.map (bu c)) (o.map (bu c))=(aiw acc o).map (bu c)/\∀ j∈aiw acc o,Fst c r e j:=by
 cases o with
 | none=>exact ⟨rfl,ha⟩
 | some j=>
  have hj:=ho j rfl
  have iff:(acc.map (bu c)).contains (bu c j)=true↔j∈acc:=by
   rw [List.contains_iff_mem,List.mem_map]
   constructor
   ·rintro ⟨k,hk,ek⟩
    rw [<-amR (ha k hk) hj ek];exact hk
   ·exact λh=>⟨j,h,rfl⟩
  by_cases m:j∈acc
  ·refine ⟨?_,?_⟩
   ·show (if _ then _ else _)=(if _ then _ else _:List Nat).map _
    rw [if_pos (iff.mpr m),if_pos m]
   ·show ∀ k∈(if j∈acc then acc else acc++[j]),_
    rw [if_pos m];exact ha
  ·refine ⟨?_,?_⟩
   ·show (if _ then _ else _)=(if _ then _ else _:List Nat).map _
    rw [if_neg (λz=>m (iff.mp z)),if_neg m];simp
   ·show ∀ k∈(if j∈acc then acc else acc++[j]),_
    rw [if_neg m]
    intro k hk
    rcases List.mem_append.mp hk with z | z
    ·exact ha k z
    ·rw [List.mem_singleton.mp z];exact hj
theorem fold_eq (wf:Wf c):∀ (L:List Nat) (acc:List Nat),(∀ s∈L,s < c.states.length/\(c.at_ s).kind<=2)->(∀ j∈acc,Fst c r e j)->L.foldl (λl s=>addW l (UC c r e s)) (acc.map (bu c))=(L.foldl (λa s=>aiw a (Of c r e s)) acc).map (bu c)
 | [],_,_,_=>rfl
 | s::L,acc,hL,ha=>by
  have hs:=hL s (List.mem_cons_self ..)
  obtain ⟨e1,e2⟩:=add_eq (c:=c) (r:=r) (e:=e) (o:=Of c r e s) ha λj hj=>am9 hj
  rw [List.foldl_cons,List.foldl_cons,aoy wf hs.1 hs.2,e1]
  exact fold_eq wf L _ (λz hz=>hL z (List.mem_cons_of_mem _ hz)) e2
theorem WX:∀ (P:List Nat) (acc:List Nat),(ly c P e).foldl (oz c r) acc=(P.filter λs=>r.isIn.contains s).foldl (λa s=>aiw a (Of c r e s)) acc
 | [],_=>rfl
 | s::P,acc=>by
  have e1:ly c (s::P) e=xM s (evL c e (chain c s))++ly c P e:=by unfold ly;rw [List.flatMap_cons]
  rw [e1,List.foldl_append,WX P]
  have e2:(xM s (evL c e (chain c s))).foldl (oz c r) acc=if s∈r.isIn then aiw acc (Of c r e s) else acc:=by
   unfold xM
   by_cases z:evL c e (chain c s)=[]
   ·rw [if_pos z]
    have:Of c r e s=none:=by unfold Of;rw [z];rfl
    rw [this]
    show acc=if s∈r.isIn then acc else acc
    split<;>rfl
   ·rw [if_neg z]
    show oz c r acc (s,evL c e (chain c s))=_
    unfold oz Of aiw
    rfl
  rw [e2,List.filter_cons]
  by_cases m:s∈r.isIn
  ·rw [if_pos m,if_pos (by simpa using m)];rfl
  ·rw [if_neg m,if_neg (by simpa using m)]
theorem UI (wf:Wf c) (ok:jg c r) (e:Nat):taken c r e=(Rz c r e).map (bu c):=by
 have e1:taken c r e=(r.isIn.filter (plain c)).foldl (λl s=>addW l (UC c r e s)) []:=by
  unfold taken
  refine congrArg (λf=>(r.isIn.filter (plain c)).foldl f []) ?_
  funext l s
  unfold addW UC
  rfl
 have e2:(el (plP c)).filter (λs=>r.isIn.contains s)=r.isIn.filter (plain c):=by
  refine wM ((uF _).filter _) (ok.so.filter _) λx=>?_
  rw [List.mem_filter,List.mem_filter,qA]
  unfold plP
  constructor
  ·rintro ⟨⟨_,_,a⟩,b⟩;exact ⟨by simpa using b,a⟩
  ·rintro ⟨a,b⟩
   have:=(ok.ii x a).1
   have:=wf.n2
   exact ⟨⟨by omega,(ok.ii x a).1,b⟩,by simpa using a⟩
 rw [e1]
 unfold Rz
 rw [WX,e2]
 exact fold_eq wf _ [] (λs hs=>by have:=ok.ii s (List.mem_filter.mp hs).1;exact ⟨this.1,this.2.2⟩) (by simp)
theorem WO (wf:Wf c) (ok:jg c r) (inv:eS c r) {w:Way} (h:w∈taken c r e):w∈c.ways/\w.source∈r.isIn:=by
 have e1:taken c r e=(r.isIn.filter (plain c)).foldl (λl s=>addW l (UC c r e s)) []:=by
  unfold taken
  refine congrArg (λf=>(r.isIn.filter (plain c)).foldl f []) ?_
  funext l s
  unfold addW UC
  rfl
 rw [e1] at h
 have go:∀ (L:List Nat) (acc:List Way),(∀ s∈L,s∈r.isIn)->(∀ w∈acc,w∈c.ways/\w.source∈r.isIn)->∀ w∈L.foldl (λl s=>addW l (UC c r e s)) acc,w∈c.ways/\w.source∈r.isIn:=by
  intro L
  induction L with
  | nil=>intro acc _ h;exact h
  | cons s L ih=>
   intro acc hL ha
   refine ih _ (λz hz=>hL z (List.mem_cons_of_mem _ hz)) λw hw=>?_
   have hs:=hL s (List.mem_cons_self ..)
   have hw:w∈addW acc (UC c r e s):=hw
   cases eo:UC c r e s with
   | none=>rw [eo] at hw;exact ha w hw
   | some v=>
    rw [eo] at hw
    have hw:w∈(if acc.contains v=true then acc else acc++[v]):=hw
    split at hw
    ·exact ha w hw
    ·rcases List.mem_append.mp hw with z | z
     ·exact ha w z
     ·rw [List.mem_singleton.mp z]
      unfold UC at eo
      obtain ⟨a,ham,hf⟩:=List.mem_filterMap.mp (List.mem_of_mem_head? eo)
      have hv:=List.mem_of_find?_eq_some hf
      have hp:=List.find?_some hf
      have es:v.source=a:=by
       rw [Bool.and_eq_true] at hp;simpa using hp.1
      refine ⟨hv,?_⟩
      rw [es]
      have v0:=(wf.wy v hv).s0
      rw [es] at v0
      have up:∀ {s},s∈r.isIn->a∈s::around c s->a∈r.isIn:=by
       intro s
       induction s using Nat.strongRecOn with
       | ind s ih2=>
        intro hs hm
        rcases List.mem_cons.mp hm with rfl | hm
        ·exact hs
        ·have so:=ok.ii s hs
         rw [nR wf so.1,if_neg so.2.1] at hm
         have pr:=(wf.par s (by omega) so.1).1
         rcases inv.i2 s hs with p0 | pi
         ·rw [p0] at hm
          rcases List.mem_cons.mp hm with z | z
          ·omega
          ·have n1:=wf.n1
           rw [nR wf (by omega),if_pos rfl] at z;cases z
         ·exact ih2 _ pr pi hm
      exact up hs ham
 exact go _ [] (λs hs=>(List.mem_filter.mp hs).1) (by simp) w h
def agS (c:Chart) (r:Run) (m:List Way) (w:Way):List Way:=
 let clash:=m.filter λv=>(leaves c r v).any λs=>(leaves c r w).contains s
 if (clash.all λv=>within c w.source v.source)=true then (m.filter λv=>!clash.contains v)++[w] else m
theorem EK (l:List Way):agreed c r l=l.foldl (agS c r) []:=rfl
def meets (c:Chart) (r:Run) (v w:Way):Bool:=(leaves c r v).any λs=>(leaves c r w).contains s
theorem alK (m:List Way) (w:Way):agS c r m w=if (m.all λv=>!meets c r v w||within c w.source v.source)=true then (m.filter λv=>!meets c r v w)++[w] else m:=by
 unfold agS
 have e1:((m.filter λv=>(leaves c r v).any λs=>(leaves c r w).contains s).all λv=>within c w.source v.source)=m.all λv=>!meets c r v w||within c w.source v.source:=by
  rw [List.all_filter]
  rfl
 have e2:(m.filter λv=>!(m.filter λv=>(leaves c r v).any λs=>(leaves c r w).contains s).contains v)=m.filter λv=>!meets c r v w:=by
  refine List.filter_congr λv hv=>?_
  congr 1
  rw [Bool.eq_iff_iff,List.contains_iff_mem,List.mem_filter]
  exact ⟨λh=>h.2,λh=>⟨hv,h⟩⟩
 simp only [e1,e2]
theorem Iu {v w:Way}:meets c r v w=true↔∃ s,s∈leaves c r v/\s∈leaves c r w:=by
 unfold meets
 rw [List.any_eq_true]
 constructor
 ·rintro ⟨s,a,b⟩;exact ⟨s,a,by simpa using b⟩
 ·rintro ⟨s,a,b⟩;exact ⟨s,a,by simpa using b⟩
theorem U7 (l:List Way) (h:∀ w∈l,w∈c.ways/\w.source∈r.isIn):Agr c r (agreed c r l)/\(agreed c r l).length<=l.length:=by
 rw [EK]
 have go:∀ (l m:List Way),(∀ w∈l,w∈c.ways/\w.source∈r.isIn)->Agr c r m->Agr c r (l.foldl (agS c r) m)/\(l.foldl (agS c r) m).length<=m.length+l.length:=by
  intro l
  induction l with
  | nil=>intro m _ h;exact ⟨h,by simp⟩
  | cons w l ih=>
   intro m hl hm
   have hw:=hl w (List.mem_cons_self ..)
   have:Agr c r (agS c r m w)/\(agS c r m w).length<=m.length+1:=by
    rw [alK]
    split
    ·refine ⟨⟨λv hv=>?_,λv hv=>?_,?_⟩,?_⟩
     ·rcases List.mem_append.mp hv with z | z
      ·exact hm.ways v (List.mem_filter.mp z).1
      ·rw [List.mem_singleton.mp z];exact hw.1
     ·rcases List.mem_append.mp hv with z | z
      ·exact hm.src v (List.mem_filter.mp z).1
      ·rw [List.mem_singleton.mp z];exact hw.2
     ·rw [List.pairwise_append]
      refine ⟨hm.dis.filter _,by simp,λv hv w' hw' s a b=>?_⟩
      rw [List.mem_singleton.mp hw'] at b
      have:=(List.mem_filter.mp hv).2
      rw [Iu.mpr ⟨s,a,b⟩] at this
      cases this
     ·have:=List.length_filter_le (λv=>!meets c r v w) m
      rw [List.length_append,List.length_singleton];omega
    ·exact ⟨hm,by omega⟩
   have:=ih (agS c r m w) (λv hv=>hl v (List.mem_cons_of_mem _ hv)) this.1 |> λz=>(⟨z.1,by have:=z.2;have:=this;simp at *;omega⟩:Agr c r (l.foldl (agS c r) (agS c r m w))/\(l.foldl (agS c r) (agS c r m w)).length<=m.length+(w::l).length)
   exact this
 have:=go l [] h ⟨by simp,by simp,List.Pairwise.nil⟩
 exact ⟨this.1,by simpa using this.2⟩
end SC
namespace SC
open PySem L2
variable {K:W.Frag} {mg:Str->Option Value} {t:Adr}
seal Rc42.leads Rc42.ended Rc42.stays Rc42.leaves Rc42.enter Rc42.upTo Rc42.step
def RV (t:Adr):Sp:=λvs H Q _=>∃ S A c r hd T R wa lb j w,vs=[.ref A.ra,.ref wa]/\cu t S H A c r hd T R/\WyR t lb S wa j w/\nS c w/\∀ H' m,aP H H'->H m=none->aaQ t S H' m c r w->Q (.ref m) H'
theorem aoa {S H:Hp} {Q:VK} {E:XK} {A:RA} {c:Rc42.Chart} {r:Rc42.Run} {hd T R:Nat} {wa:Addr} {lb:Addr->Lb} {j:Nat} {w:Rc42.Way} (h:cu t S H A c r hd T R) (hw:WyR t lb S wa j w) (ok:nS c w) (q:∀ H' m,aP H H'->H m=none->aaQ t S H' m c r w->Q (.ref m) H'):RV t [.ref A.ra,.ref wa] H Q E:=⟨S,A,c,r,hd,T,R,wa,lb,j,w,rfl,h,hw,ok,q⟩
theorem akP {c:Rc42.Chart} {r:Rc42.Run} (ok:jg c r) {w:Rc42.Way} {a:Nat} (ea:Rc42.stays c r w=some a):M (λi=>i∈r.isIn/\i < c.states.length/\Rc42.within c i a=true)=M (λi=>i∈Rc42.leaves c r w):=fD λi _=>by
 rw [bW ea]
 exact ⟨λ⟨a,b,d⟩=>⟨a,d⟩,λ⟨a,d⟩=>⟨a,(ok.ii i a).1,d⟩⟩
theorem amx {Sp:Sps} (T:Txt K mg t) (g1:Sp.nJ=ur t) (g2:Sp.jA=B6 t) {vs H Q E} (h:RV t vs H Q E):JU K t Sp (fin Q) (L2.start ["self","way","stays"] vs) H:=by
 obtain ⟨S,A,c,r,hd,TT,R,wa,lb',j,w,rfl,h,hw,wok,q⟩:=h
 obtain ⟨dw,waa,x2,x3⟩:=id hw
 obtain ⟨rdy,dx,sla,wl,a1,a2,a3,a4,a5,a6,a7,lb,ss,ws,h0,hc,h1,h2,_⟩:=h.plan
 have make:∀ (H0:Hp) (simp? lv:V),aP H H0->simp?=.int (ko (Rc42.stays c r w))->lv=.int (M λi=>i∈Rc42.leaves c r w)->∀ x dxm,H0 x=none->H0 dxm=none->dxm≠x->ur t [.ref x,.ref wa,simp?,lv] (upd (upd H0 dxm (.own x)) x (.ins t.fN dxm [])) (λv H2=>v=.non/\Q (.ref x) H2) E0:=λH0 simp? lv s0 esv elv x dxm hx hdx _=>by
  refine ⟨x,.ref wa,simp?,lv,dxm,rfl,ay,λH' e b=>⟨rfl,?_⟩⟩
  have s1:aP H0 H':=λa o z=>b a o (ao z hx) (by rw [aq (ao z hx),aq (ao z hdx)];exact z)
  rw [esv,elv] at e
  exact q H' x (s0.trans s1) (s0.free hx) ⟨dxm,wa,lb',j,e,hw⟩
 unfold JU
 simp! [h.st _ _ x2,h.ra]
 cases et:w.target with
 | none=>
  simp! [ko,g1]
  refine make H _ _ (aP.refl H) (by rw [K2 et];rfl) ?_
  rw [gb (K2 et)]
  simp [wk]
 | some tg=>
  have nn:¬(tg:Int)=-1:=by omega
  have tk:=wok.tg tg et
  simp! [ko,nn,h0,h.st _ _ x2,h.ra,et,g2]
  refine ix h.la rfl (gO tk.2) ?_
  refine ajn h.plan wok.s1 (by have:=wok.s0;omega) (λx hx=>by have:=l7 rdy h.ok tk.2 (by omega) hx;exact ⟨this.1,this.2.1⟩) λa an aw af=>?_
  have ea:Rc42.stays c r w=some a:=by unfold Rc42.stays;rw [et];exact af
  simp! [h.ra,h0,g1]
  refine ix h2 rfl (gO an) ?_
  simp!
  rw [xh]
  exact make H _ _ (aP.refl H) (by rw [ea];rfl) (by rw [akP h.ok ea])
def DX (l:List Rc42.Way) (ms:List Addr):List (Rc42.Way×Addr):=l.zip ms
theorem aoN {l:List Rc42.Way} {ms:List Addr} {k:Nat} {w:Rc42.Way} {m:Addr} (h:(DX l ms)[k]?=some (w,m)):l[k]?=some w/\ms[k]?=some m:=List.getElem?_zip_eq_some.mp h
theorem alZ {l:List Rc42.Way} {ms:List Addr} (h:ms.length=l.length):(DX l ms).map (λz=>V.ref z.2)=ms.map V.ref:=by
 have:(DX l ms).map (·.2)=ms:=List.map_snd_zip (by omega)
 rw [<-this,List.map_map];rw [this];rfl
theorem amJ {l:List Rc42.Way} {ms:List Addr} (h:ms.length=l.length) (p:Rc42.Way->Bool):((DX l ms).filter λz=>p z.1).map (·.1)=l.filter p:=by
 have e:(DX l ms).map (·.1)=l:=List.map_fst_zip (by omega)
 conv=>rhs;rw [<-e]
 rw [List.filter_map]
 rfl
theorem anN {H:Hp} {D kl:Addr} {zs:List (Rc42.Way×Addr)} {p:Rc42.Way×Addr->Bool} {tt:TT} {te:TE} {σ:St} {vs:List Nat} {g:TG} {Qd:Hp->Prop} (hn:zs.length<=1000) (hk:H kl=some (.lst (zs.map λz=>V.ref z.2))) (hD:H D=none)
  (hs:∀ (k:Nat) z H1 (N:Hp->Prop),zs[k]?=some z->aP H H1->(p z=false->N H1)->(p z=true->∃ a,H1 D=some (.lst a)/\a.length < sizeLine/\N (upd H1 D (.lst (a++[.ref z.2])))) ->
   g (.ref z.2) (wipe σ vs) H1 λσ2 H2=>wipe σ2 vs=wipe σ vs/\tt σ2 H2 λb H3=>if b=true then te σ2 H3 λy H4=>∃ a,H4 D=some (.lst a)/\a.length < sizeLine/\N (upd H4 D (.lst (a++[y]))) else N H3)
  (hd:∀ H1,aP H H1->H1 D=some (.lst ((zs.filter p).map λz=>V.ref z.2))->Qd H1):anC (Itl K kl) g tt te vs σ H D Qd:=by
 obtain ⟨Pv,hP⟩:∃ Pv:Nat->Hp->Prop,∀ i H1,Pv i H1↔aP H H1/\H1 D=some (.lst (((zs.take i).filter p).map λz=>V.ref z.2)):=⟨_,λ_ _=>Iff.rfl⟩
 refine ZY (xs:=zs.map λz=>V.ref z.2) Pv ((hP _ _).mpr ⟨aT hD,by rw [ay];rfl⟩) (λi H1 _ h=>((hP _ _).mp h).1 _ _ hk) (λi x H1 hx hp=>?_) λH1 hp=>?_
 ·obtain ⟨p1,p2⟩:=(hP _ _).mp hp
  rw [List.getElem?_map] at hx
  obtain ⟨z,ez,rfl⟩:=Option.map_eq_some_iff.mp hx
  have hi:=(List.getElem?_eq_some_iff.mp ez).1
  have tk:zs.take (i+1)=zs.take i++[z]:=by rw [List.take_add_one,ez];rfl
  refine hs i z H1 (Pv (i+1)) ez p1 (λe=>(hP _ _).mpr ⟨p1,?_⟩) λe=>⟨_,p2,?_,(hP _ _).mpr ⟨λb o e'=>?_,?_⟩⟩
  ·rw [tk,List.filter_append,List.filter_cons,if_neg (by simp [e])];simpa using p2
  ·have:=List.length_filter_le p (zs.take i)
   rw [List.length_map,sizeLine_eq]
   have:(zs.take i).length<=zs.length:=by rw [List.length_take];exact Nat.min_le_right _ _
   omega
  ·rw [aq (ao e' hD)];exact p1 b o e'
  ·rw [ay,tk,List.filter_append,List.filter_cons,if_pos e];simp
 ·obtain ⟨p1,p2⟩:=(hP _ _).mp hp
  rw [List.length_map,List.take_length] at p2
  exact hd H1 p1 p2
def HZ (t:Adr):Sp:=λvs H Q _=>∃ S A c r hd T R kl m l w,vs=[.ref A.ra,.ref kl,.ref m]/\cu t S H A c r hd T R/\Aj t S A H kl c r l/\aaQ t S H m c r w/\¬A.has m/\nS c w/\(∀ v∈l,nS c v)/\l.length<=100 /\
 ∀ H' kl',aP H H'->Aj t S A H' kl' c r (agS c r l w)->Q (.ref kl') H'
theorem akj {S H:Hp} {Q:VK} {E:XK} {A:RA} {c:Rc42.Chart} {r:Rc42.Run} {hd T R:Nat} {kl m:Addr} {l:List Rc42.Way} {w:Rc42.Way} (h:cu t S H A c r hd T R) (hk:Aj t S A H kl c r l) (hm:aaQ t S H m c r w) (nm:¬A.has m) (ok:nS c w) (okl:∀ v∈l,nS c v) (hl:l.length<=100)
  (q:∀ H' kl',aP H H'->Aj t S A H' kl' c r (agS c r l w)->Q (.ref kl') H'):HZ t [.ref A.ra,.ref kl,.ref m] H Q E:=⟨S,A,c,r,hd,T,R,kl,m,l,w,rfl,h,hk,hm,nm,ok,okl,hl,q⟩
theorem aaQ.same {S H H':Hp} {m:Addr} {c:Rc42.Chart} {r:Rc42.Run} {w:Rc42.Way} (h:aaQ t S H m c r w) (e:aP H H'):aaQ t S H' m c r w:=let ⟨dx,wa,lb,j,a,b⟩:=h;⟨dx,wa,lb,j,e _ _ a,b⟩
theorem RK {c:Rc42.Chart} {r:Rc42.Run} (ok:jg c r) (wf:Wf c) {v w:Rc42.Way}:M (λi=>i∈Rc42.leaves c r v/\i∈Rc42.leaves c r w)=0↔meets c r v w=false:=by
 rw [lY]
 constructor
 ·intro h
  cases e:meets c r v w with
  | false=>rfl
  | true=>
   obtain ⟨s,a,b⟩:=Iu.mp e
   refine absurd ⟨a,b⟩ (h s ?_)
   cases es:Rc42.stays c r v with
   | none=>rw [gb es] at a;cases a
   | some x=>have:=(ok.ii s ((bW es).mp a).1).1;have:=wf.n2;omega
 ·rintro h i _ ⟨a,b⟩
  rw [Iu.mpr ⟨i,a,b⟩] at h;cases h
theorem ajm {Sp:Sps} (T:Txt K mg t) (g1:Sp.mark=gP) {vs H Q E} (h:HZ t vs H Q E):Bu K t Sp (fin Q) (L2.start ["self","kept","more","rivals","around","one"] vs) H:=by
 obtain ⟨S,A,c,r,hd,TT,R,kl,m,l,w,rfl,h,hk,hm,nm,wok,okl,hl,q⟩:=h
 have slz:=sizeLine_eq
 obtain ⟨rdy,dx,sla,wl,a1,a2,a3,a4,a5,a6,a7,lb,ss,ws,h0,hc,h1,h2,_⟩:=h.plan
 have wf:=rdy.wf
 have n2:=wf.n2
 obtain ⟨ms,k1,k2,k3,k4,k5⟩:=id hk
 obtain ⟨dm,wa,lb',j,x1,dw,waa,x2,x3⟩:=id hm
 have zlen:(DX l ms).length=l.length:=by unfold DX;simp [k2]
 have k1z:H kl=some (.lst ((DX l ms).map λz=>V.ref z.2)):=by rw [alZ k2];exact k1
 have zmv:∀ {z:Rc42.Way×Addr},z∈DX l ms->z.1∈l/\aaQ t S H z.2 c r z.1/\¬A.has z.2:=λ{z} hz=>by
  obtain ⟨i,hi⟩:=List.mem_iff_getElem?.mp hz
  obtain ⟨e1,e2⟩:=aoN (w:=z.1) (m:=z.2) hi
  exact ⟨List.mem_of_getElem? e1,k5 i _ _ e1 e2,k4 _ (List.mem_of_getElem? e2)⟩
 have mkR:∀ {H1:Hp} {p:Addr} (zs:List (Rc42.Way×Addr)),aP H H1->(∀ z∈zs,z∈DX l ms)->H1 p=none->Aj t S A (upd H1 p (.lst ((zs.map λz=>V.ref z.2)++[.ref m]))) p c r (zs.map (·.1)++[w]):=λ{H1 p} zs s1 hzs hp=>by
  have sp:=s1.trans (aT (o:=.lst ((zs.map λz=>V.ref z.2)++[.ref m])) hp)
  refine ⟨zs.map (·.2)++[m],by rw [ay];simp [List.map_map,Function.comp_def],by simp,yw h (s1.free hp),λa ha=>?_,λk v a e1 e2=>?_⟩
  ·rcases List.mem_append.mp ha with z | z
   ·obtain ⟨y,hy,rfl⟩:=List.mem_map.mp z
    exact (zmv (hzs y hy)).2.2
   ·rw [List.mem_singleton.mp z];exact nm
  ·by_cases hkk:k < zs.length
   ·rw [List.getElem?_append_left (by simpa using hkk),List.getElem?_map] at e1 e2
    obtain ⟨y,ey,rfl⟩:=Option.map_eq_some_iff.mp e1
    rw [ey] at e2
    cases e2
    exact (zmv (hzs y (List.mem_of_getElem? ey))).2.1.same sp
   ·rw [List.getElem?_append_right (by simpa using hkk)] at e1 e2
    have i0:k - zs.length=0:=by have:=(List.getElem?_eq_some_iff.mp e1).1;simp at this;omega
    simp [i0] at e1 e2
    subst e1 e2
    exact hm.same sp
 unfold Bu
 simp! [x1]
 have ags:=alK (c:=c) (r:=r) l w
 by_cases z:M (λi=>i∈Rc42.leaves c r w)=0
 ·rw [if_pos z]
  refine ⟨by decide,λp hp=>?_⟩
  have s1:aP H (upd H p (.lst [.ref m])):=aT hp
  refine ⟨kl,p,_,[.ref m],rfl,rfl,s1 _ _ k1z,ay,by rw [List.length_map,zlen];simp;omega,λp2 hp2=>?_⟩
  refine q _ p2 (s1.trans (aT hp2)) ?_
  have nome:∀ v,meets c r v w=false:=λv=>by
   cases e:meets c r v w with
   | false=>rfl
   | true=>
    obtain ⟨s,a,b⟩:=Iu.mp e
    refine absurd b (lY.mp z s ?_)
    cases es:Rc42.stays c r v with
    | none=>rw [gb es] at a;cases a
    | some y=>have:=(h.ok.ii s ((bW es).mp a).1).1;omega
  have e:agS c r l w=(DX l ms).map (·.1)++[w]:=by
   rw [ags,if_pos (List.all_eq_true.mpr λv _=>by simp [nome v])]
   congr 1
   have:l.filter (λv=>!meets c r v w)=l:=List.filter_eq_self.mpr λv _=>by simp [nome v]
   rw [this]
   exact (List.map_fst_zip (by omega)).symm
  rw [e]
  exact mkR _ s1 (λz hz=>hz) hp2
 ·rw [if_neg z]
  refine ⟨⟨_,SqL.of k1z⟩,λrv hrv=>anN (p:=λz=>meets c r z.1 w) (zs:=DX l ms) (by omega) k1z hrv (λk z H1 N ez s1 n0 n1=>?_) λH1 s1 e1=>?_⟩
  ·obtain ⟨zl,zm,_⟩:=zmv (List.mem_of_getElem? ez)
   obtain ⟨dz,wz,lbz,jz,y1,_⟩:=zm
   simp? [wipe,s1 _ _ y1,s1 _ _ x1]
   rw [xh]
   cases e:meets c r z.1 w with
   | false=>rw [if_neg (λy=>y ((RK h.ok wf).mpr e))];exact n0 e
   | true=>rw [if_pos (λy=>by rw [(RK h.ok wf).mp y] at e;cases e)];exact n1 e
  ·simp? [s1 _ _ h.ra,s1 _ _ h0,s1 _ _ x1,s1 _ _ (h.st _ _ x2)]
   refine ix (s1 _ _ h1) rfl (gO wok.s1) ?_
   simp?
   refine ⟨⟨_,SqL.of e1⟩,?_⟩
   obtain ⟨rs,hrs⟩:∃ rs,rs=(DX l ms).filter λz=>meets c r z.1 w:=⟨_,rfl⟩
   rw [<-hrs] at e1
   have rsm:∀ {z},z∈rs->z∈DX l ms/\meets c r z.1 w=true:=λ{z} hz=>by rw [hrs] at hz;exact List.mem_filter.mp hz
   have allI:(∀ z∈rs,Rc42.within c w.source z.1.source=true)↔(l.all λv=>!meets c r v w||Rc42.within c w.source v.source)=true:=by
    rw [List.all_eq_true]
    constructor
    ·intro hh v hv
     cases e:meets c r v w with
     | false=>rfl
     | true=>
      obtain ⟨i,hi⟩:=List.mem_iff_getElem?.mp hv
      have hil:=(List.getElem?_eq_some_iff.mp hi).1
      obtain ⟨a,ea⟩:∃ a,ms[i]?=some a:=⟨_,List.getElem?_eq_getElem (by omega)⟩
      have:(v,a)∈DX l ms:=List.mem_of_getElem? (List.getElem?_zip_eq_some.mpr ⟨hi,ea⟩)
      have:=hh (v,a) (by rw [hrs];exact List.mem_filter.mpr ⟨this,e⟩)
      simpa using this
    ·intro hh z hz
     have:=rsm hz
     have h2:=hh z.1 (zmv this.1).1
     rw [this.2] at h2
     simpa using h2
   obtain ⟨Pv,hP⟩:∃ Pv:Nat->St->Hp->Prop,∀ k σ H2,Pv k σ H2↔H2=H1/\(∀ z∈rs.take k,Rc42.within c w.source z.1.source=true)/\∃ v,σ=[some (.ref A.ra),some (.ref kl),some (.ref m),some (.ref rv),some (.int (M λi=>Rc42.within c w.source i=true)),v]:=⟨_,λ_ _ _=>Iff.rfl⟩
   refine jL (xs:=rs.map λz=>V.ref z.2) Pv ((hP _ _ _).mpr ⟨rfl,by simp,_,rfl⟩) (λk σ H2 _ p=>by rw [((hP _ _ _).mp p).1];exact e1) ?_ ?_
   ·intro k x σ H2 hx hp
    obtain ⟨rfl,p2,v,rfl⟩:=(hP _ _ _).mp hp
    rw [List.getElem?_map] at hx
    obtain ⟨z,ez,rfl⟩:=Option.map_eq_some_iff.mp hx
    have zr:=rsm (List.mem_of_getElem? ez)
    obtain ⟨zl,zm,_⟩:=zmv zr.1
    obtain ⟨dz,wz,lbz,jz,y1,dwz,waz,y2,_⟩:=zm
    have zok:=okl z.1 zl
    simp? [s1 _ _ y1,s1 _ _ (h.st _ _ y2),g1]
    refine j5 (by have:=zok.s1;omega) ?_
    simp?
    rw [xh]
    by_cases y:M (λi=>Rc42.within c w.source i=true/\i=z.1.source)=0
    ·rw [if_pos y]
     refine q H2 kl s1 ?_
     have no:¬Rc42.within c w.source z.1.source=true:=λx=>lY.mp y z.1.source (by have:=zok.s1;omega) ⟨x,rfl⟩
     rw [ags,if_neg (λx=>no (allI.mpr x z (List.mem_of_getElem? ez)))]
     exact hk.frm (Frm.of_same s1)
    ·rw [if_neg y]
     refine (hP _ _ _).mpr ⟨rfl,λz' hz'=>?_,_,rfl⟩
     rw [List.take_add_one,ez] at hz'
     rcases List.mem_append.mp hz' with x | x
     ·exact p2 z' x
     ·simp at x
      subst x
      refine Classical.byContradiction λno=>y (lY.mpr λi _ ⟨a,b⟩=>no (b▸a))
   ·intro σ H2 hp
    obtain ⟨rfl,p2,v,rfl⟩:=(hP _ _ _).mp hp
    rw [List.length_map,List.take_length] at p2
    have pall:=p2
    have k1z2:=s1 _ _ k1z
    simp?
    refine ⟨⟨_,SqL.of k1z2⟩,λD hD=>anN (p:=λz=>!meets c r z.1 w) (zs:=DX l ms) (by omega) k1z2 hD (λk z H3 N ez s3 n0 n1=>?_) λH3 s3 e3=>?_⟩
    ·obtain ⟨zl,zm,_⟩:=zmv (List.mem_of_getElem? ez)
     obtain ⟨dz,wz,lbz,jz,y1,_⟩:=zm
     simp? [wipe,s3 _ _ (s1 _ _ y1),s3 _ _ (s1 _ _ x1)]
     rw [xh]
     cases e:meets c r z.1 w with
     | false=>rw [if_pos ((RK h.ok wf).mpr e)];exact n1 (by simp [e])
     | true=>rw [if_neg (λy=>by rw [(RK h.ok wf).mp y] at e;cases e)];exact n0 (by simp [e])
    ·refine ⟨by decide,λp hp=>?_⟩
     have s4:aP H3 (upd H3 p (.lst [.ref m])):=aT hp
     refine ⟨D,p,_,[.ref m],rfl,rfl,s4 _ _ e3,ay,?_,λp2 hp2=>?_⟩
     ·have:=List.length_filter_le (λz=>!meets c r z.1 w) (DX l ms)
      simp;omega
     ·have sA:=s1.trans (s3.trans s4)
      refine q _ p2 (sA.trans (aT hp2)) ?_
      have e:agS c r l w=((DX l ms).filter λz=>!meets c r z.1 w).map (·.1)++[w]:=by
       rw [ags,if_pos (allI.mp pall),amJ k2 (λv=>!meets c r v w)]
      rw [e]
      exact mkR _ sA (λz hz=>(List.mem_filter.mp hz).1) hp2
seal Rc42.taken Rc42.agreed
def A8 (t:Adr):Sp:=λvs H Q _=>∃ S A c r hd T R,∃ e:Nat,vs=[.ref A.ra,.int e]/\cu t S H A c r hd T R/\eS c r/\∀ H' ml,aP H H'->Aj t S A H' ml c r (Rc42.agreed c r (Rc42.taken c r e))->Q (.ref ml) H'
theorem YM {S H:Hp} {Q:VK} {E:XK} {A:RA} {c:Rc42.Chart} {r:Rc42.Run} {hd T R e:Nat} (h:cu t S H A c r hd T R) (inv:eS c r) (q:∀ H' ml,aP H H'->Aj t S A H' ml c r (Rc42.agreed c r (Rc42.taken c r e))->Q (.ref ml) H'):A8 t [.ref A.ra,.int e] H Q E:=⟨S,A,c,r,hd,T,R,e,rfl,h,inv,q⟩
theorem ae4 (c:Rc42.Chart) (r:Rc42.Run) (e:Nat):(Rz c r e).length<=64:=by
 unfold Rz
 have h1:=TR (c:=c) (r:=r) (ly c (el (plP c)) e) []
 have h2:=Mg c e (el (plP c))
 have h3:=J9 (plP c)
 simp only [List.length_nil] at h1
 omega
theorem OX {c:Rc42.Chart} {r:Rc42.Run} (wf:Wf c) (ok:jg c r) (inv:eS c r) (e:Nat):Agr c r (Rc42.agreed c r (Rc42.taken c r e))/\(Rc42.agreed c r (Rc42.taken c r e)).length<=64:=by
 have h:=U7 (Rc42.taken c r e) λw hw=>WO wf ok inv hw
 refine ⟨h.1,Nat.le_trans h.2 ?_⟩
 rw [UI wf ok,List.length_map]
 exact ae4 c r e
theorem aj8 {Sp:Sps} (T:Txt K mg t) (g1:Sp.qE=NU t) (g2:Sp.ng=HZ t) (g3:Sp.wg=RV t) {vs H Q E} (h:A8 t vs H Q E):Gx K t Sp (fin Q) (L2.start ["self","event","kept","number"] vs) H:=by
 obtain ⟨S,A,c,r,hd,TT,R,e,rfl,h,inv,q⟩:=h
 have rdy:=h.pl.rdy
 have wf:=rdy.wf
 obtain ⟨_,dx,sla,wl,a1,a2,a3,a4,a5,a6,a7,lb,ss,ws,h0,hc,_⟩:=h.pl
 unfold Gx
 simp?
 refine ⟨Nat.zero_le _,λk0 hk0=>?_⟩
 have s0:aP H (upd H k0 (.lst [])):=aT hk0
 simp! [s0 _ _ h.ra,g1]
 refine amN (h.same s0) λH1 nl s1 hnl e1=>?_
 simp!
 refine ⟨⟨_,SqL.of e1⟩,?_⟩
 have tl:=ae4 c r e
 have lt:∀ j∈Rz c r e,j < c.ways.length:=ahy _ [] (λp hp=>aie hp) (by simp)
 obtain ⟨fw,hfw⟩:∃ fw:Nat->List Rc42.Way,∀ k,fw k=(((Rz c r e).take k).map (bu c)).foldl (agS c r) []:=⟨_,λ_=>rfl⟩
 have fwin:∀ k,(∀ v∈fw k,v∈c.ways)/\(fw k).length<=k:=λk=>by
  have hw:∀ w∈((Rz c r e).take k).map (bu c),w∈c.ways/\w.source∈r.isIn:=λw hw=>by
   obtain ⟨j,hj,rfl⟩:=List.mem_map.mp hw
   exact WO wf h.ok inv (e:=e) (by rw [UI wf h.ok];exact List.mem_map.mpr ⟨j,List.mem_of_mem_take hj,rfl⟩)
  have:=U7 _ hw
  rw [EK] at this
  rw [hfw]
  refine ⟨this.1.ways,Nat.le_trans this.2 ?_⟩
  rw [List.length_map,List.length_take]
  exact Nat.min_le_left _ _
 obtain ⟨Pv,hP⟩:∃ Pv:Nat->St->Hp->Prop,∀ k σ H2,Pv k σ H2↔aP H1 H2/\∃ kl v,Aj t S A H2 kl c r (fw k)/\σ=[some (.ref A.ra),some (.int e),some (.ref kl),v]:=⟨_,λ_ _ _=>Iff.rfl⟩
 refine jL (xs:=nts (Rz c r e)) Pv ((hP _ _ _).mpr ⟨aP.refl _,k0,_,⟨[],s1 _ _ ay,by rw [hfw];rfl,yw h hk0,by simp,λk w m g=>by rw [hfw] at g;simp at g⟩,rfl⟩) (λk σ H2 _ p=>((hP _ _ _).mp p).1 _ _ e1) ?_ ?_
 ·intro k x σ H2 hx hp
  obtain ⟨p1,kl,v,p2,rfl⟩:=(hP _ _ _).mp hp
  obtain ⟨j,ej,rfl⟩:=yt hx
  have hk:k < 64:=by have:=(List.getElem?_eq_some_iff.mp ej).1;omega
  have hj:=lt j (List.mem_of_getElem? ej)
  have hs:=s0.trans (s1.trans p1)
  have h2:=h.same hs
  obtain ⟨a,f1,f2,f3⟩:=hc.wy (xQ hj)
  have wok:=wf.wy _ (NK hj)
  simp! [h2.ra,h2.st _ _ h0,g2,g3]
  refine ix (h2.st _ _ hc.w1) rfl f2 ?_
  refine aoa h2 f3 wok λH3 m s3 hm mv=>?_
  simp!
  refine akj (h2.same s3) (p2.frm (Frm.of_same s3)) mv (yw h2 hm) wok (λv hv=>wf.wy v ((fwin k).1 v hv)) (by have:=(fwin k).2;omega) λH4 kl' s4 mv4=>?_
  refine (hP _ _ _).mpr ⟨p1.trans (s3.trans s4),kl',some (.int (j:Nat)),?_,rfl⟩
  have:fw (k+1)=agS c r (fw k) (bu c j):=by rw [hfw,hfw,List.take_add_one,ej,List.map_append,List.foldl_append];rfl
  rw [this];exact mv4
 ·intro σ H2 hp
  obtain ⟨p1,kl,v,p2,rfl⟩:=(hP _ _ _).mp hp
  simp!
  refine q H2 kl (s0.trans (s1.trans p1)) ?_
  have:fw (nts (Rz c r e)).length=Rc42.agreed c r (Rc42.taken c r e):=by rw [hfw,dJ,List.take_length,EK,UI wf h.ok]
  rw [<-this];exact p2
def Bh (t:Adr):Sp:=λvs H Q _=>∃ S A c r T,vs=[.ref A.ra]/\cu t S H A c r 0 T 3200/\eS c r/\T<=100000 /\
 ∀ H' rl',(∀ a o,H a=some o->¬A.has a->H' a=some o)->H rl'=none->cu t S H' { A with rl:=rl' } c (Rc42.settle c 1000 r).1 0 (T+128000) 0->eS c (Rc42.settle c 1000 r).1->Q (.int ((Rc42.settle c 1000 r).2:Nat)) H'
theorem aec {S H:Hp} {Q:VK} {E:XK} {A:RA} {c:Rc42.Chart} {r:Rc42.Run} {T:Nat} (h:cu t S H A c r 0 T 3200) (inv:eS c r) (hT:T<=100000)
  (q:∀ H' rl',(∀ a o,H a=some o->¬A.has a->H' a=some o)->H rl'=none->cu t S H' { A with rl:=rl' } c (Rc42.settle c 1000 r).1 0 (T+128000) 0->eS c (Rc42.settle c 1000 r).1->Q (.int ((Rc42.settle c 1000 r).2:Nat)) H'):Bh t [.ref A.ra] H Q E:=⟨S,A,c,r,T,rfl,h,inv,hT,q⟩
theorem ET (c:Rc42.Chart) (n:Nat) (r:Rc42.Run):Rc42.settle c (n+1) r=if r.over=true then ({ r with raised:=[] },0) else if (Rc42.agreed c r (Rc42.taken c r 0)).isEmpty=false then Rc42.settle c n (Rc42.step c r (Rc42.agreed c r (Rc42.taken c r 0))) else match r.raised with
  | []=>(r,0)
  | e::rest=>Rc42.settle c n (Rc42.step c { r with raised:=rest } (Rc42.agreed c { r with raised:=rest } (Rc42.taken c { r with raised:=rest } e))):=rfl
theorem Ff (c:Rc42.Chart) (r:Rc42.Run):Rc42.settle c 0 r=if r.over=true then ({ r with raised:=[] },0) else if ((Rc42.agreed c r (Rc42.taken c r 0)).isEmpty&&r.raised.isEmpty)=true then (r,0) else ({ r with raised:=[] },1):=rfl
end SC
namespace SC
open PySem L2
variable {K:W.Frag} {mg:Str->Option Value} {t:Adr}
seal Rc42.leads
theorem TN {c:Rc42.Chart} {r r':Rc42.Run} (h:r'.kept=r.kept) (w:Rc42.Way):Rc42.stays c r' w=Rc42.stays c r w:=by
 unfold Rc42.stays
 have e:∀ t,Rc42.leads c r' 64 t=Rc42.leads c r 64 t:=qw h 64
 simp only [e]
theorem PV {c:Rc42.Chart} {r r':Rc42.Run} (h:r'.kept=r.kept) (hi:r'.isIn=r.isIn) (w:Rc42.Way):Rc42.leaves c r' w=Rc42.leaves c r w:=by unfold Rc42.leaves;rw [TN h,hi]
theorem ajH {r r':Rc42.Run} (h:r'.numbers=r.numbers) (w:Rc42.Way):Rc42.asks r' w=Rc42.asks r w:=by unfold Rc42.asks;rw [h]
theorem ahe {c:Rc42.Chart} {r r':Rc42.Run} (hn:r'.numbers=r.numbers) (hi:r'.isIn=r.isIn) (e:Nat):Rc42.taken c r' e=Rc42.taken c r e:=by
 unfold Rc42.taken
 simp only [hi,ajH hn]
theorem afc {c:Rc42.Chart} {r r':Rc42.Run} (h:r'.kept=r.kept) (hi:r'.isIn=r.isIn) (l:List Rc42.Way):Rc42.agreed c r' l=Rc42.agreed c r l:=by
 unfold Rc42.agreed
 simp only [PV h hi]
seal Rc42.ended Rc42.stays Rc42.leaves Rc42.enter Rc42.upTo Rc42.step Rc42.taken Rc42.agreed Rc42.settle
theorem eO {a b:TS} {D:Ends} {σ:St} {H:Hp} (h:a { D with nx:=b D } σ H):aK a b D σ H:=h
theorem Aj.apC {S:Hp} {A:RA} {H:Hp} {ml:Addr} {c:Rc42.Chart} {r r':Rc42.Run} {l:List Rc42.Way} (h:Aj t S A H ml c r l) (hk:r'.kept=r.kept) (hi:r'.isIn=r.isIn):Aj t S A H ml c r' l:=by
 obtain ⟨ms,a,b,d,e,f⟩:=h
 refine ⟨ms,a,b,d,e,λk w m g1 g2=>?_⟩
 obtain ⟨dx,wa,lb,j,x1,x2⟩:=f k w m g1 g2
 exact ⟨dx,wa,lb,j,by rw [TN hk,PV hk hi];exact x1,x2⟩
theorem ahW {S:Hp} {A:RA} {H:Hp} {ml:Addr} {c:Rc42.Chart} {r:Rc42.Run} {l:List Rc42.Way} (h:Aj t S A H ml c r l):akv K (.ref ml) H (!l.isEmpty):=by
 obtain ⟨ms,a,b,_⟩:=h
 refine .inl ⟨_,SqL.of a,?_⟩
 cases l<;>cases ms<;>simp at b ⊢
theorem aiI {Sp:Sps} (T:Txt K mg t) (g1:Sp.jk=A8 t) (g2:Sp.l6=C1 t) {vs H Q E} (h:Bh t vs H Q E):B7 K t Sp (fin Q) (L2.start ["self","made","went","moves"] vs) H:=by
 obtain ⟨S,A,c,r,TT,rfl,h,inv,hT,q⟩:=h
 have rdy:=h.pl.rdy
 have wf:=rdy.wf
 have aft:∀ (H1:Hp) (r1:Rc42.Run) (hd T1 R1:Nat) (made v:Option V) (went:Nat),cu t S H1 A c r1 hd T1 R1->eS c r1->Frm A H H1->T1<=TT+128000->Rc42.settle c 1000 r=({ r1 with raised:=[] },went) ->
   (aK (fm K (aa 0) (kC aJ) "raised") (aK (fm K (aa 0) (tC (.int 0)) "heard") (bG (aa 2)))) (fin Q) [some (.ref A.ra),made,some (.int (went:Nat)),v] H1:=by
  intro H1 r1 hd T1 R1 made v went h1 inv1 f1 hT1 es
  simp? [h1.ra]
  refine ⟨Nat.zero_le _,λp hp=>?_⟩
  have ap:=h1.ap
  obtain ⟨m1,m2,m3,m4⟩:=h1.nes
  obtain ⟨al,b1,_⟩:=h1.rl
  have pra:A.ra≠p:=ao h1.ra hp
  simp? [aq pra,h1.ra,ay]
  have hpn:H p=none:=by
   cases e:H p with
   | none=>rfl
   | some o=>
    exfalso
    have:=f1 p o e (yw h1 hp)
    rw [hp] at this;cases this
  have up:∀ {H:Hp} {p:Addr} {a b:HO},upd (upd H p a) p b=upd H p b:=λ{H p a b}=>by funext z;unfold upd;split<;>rfl
  rw [up]
  have k:∀ b,b≠A.ra->b≠p->upd (upd H1 p (.lst [])) A.ra (.ins t.aV A.dx (bF (.ref A.pa) (.ref A.na) (.ref A.la) (.int (M λi=>i∈r1.isIn)) (.bl r1.over) (.ref p) (.int 0) (.ref A.tl))) b=H1 b:=λb n1 n2=>by rw [aq n1,aq n2]
  have Sp0:S p=none:=h1.st.free hp
  have es1:(Rc42.settle c 1000 r).1={ r1 with raised:=[] }:=by rw [es]
  have es2:(Rc42.settle c 1000 r).2=went:=by rw [es]
  have ew:(went:Int)=((Rc42.settle c 1000 r).2:Nat):=by rw [es2]
  rw [ew]
  refine q _ p (λa o e n=>?_) hpn ?_ ?_
  ·rw [k a (λz=>n (.inl z)) (ao e hpn)];exact f1 a o e n
  ·rw [es1]
   refine ⟨λa o e=>?_,h1.pl,?_,?_,?_,⟨[],?_,Nat.le_refl _,rfl,Nat.le_refl _⟩,?_,⟨ap.ra,ap.na,ap.la,Sp0,ap.tl,ap.n1,ao h1.na hp,ap.n3,ao h1.la hp,ap.n5,(ao h1.tl hp).symm⟩,⟨h1.ok.nl,h1.ok.ii,h1.ok.so,h1.ok.kp⟩,Nat.le_trans h1.bt hT1⟩
   ·rw [k a (ao e ap.ra) (ao e Sp0)];exact h1.st a o e
   ·exact ay
   ·rw [k A.na (Ne.symm m1) (ao h1.na hp)];exact h1.na
   ·rw [k A.la (Ne.symm m2) (ao h1.la hp),h1.la];exact ldm rfl
   ·show upd _ A.ra _ p=_
    rw [aq (Ne.symm pra),ay];rfl
   ·rw [k A.tl (Ne.symm m4) (ao h1.tl hp)];exact h1.tl
  ·rw [es1];exact ⟨inv1.i1,inv1.i2,inv1.ne⟩
 unfold B7
 rw [g1,g2]
 refine eO ?_
 simp_arith
 refine eO ?_
 simp_arith
 refine eO ?_
 obtain ⟨W,hW⟩:∃ W:Nat->St->Hp->Prop,∀ n σ H1,W n σ H1↔∃ k r1 hd v,k<=1000/\n=1001 - k/\cu t S H1 A c r1 hd (TT+128 * k) (3200+3200 * k)/\eS c r1/\Frm A H H1/\Rc42.settle c 1000 r=Rc42.settle c (1000 - k) r1/\σ=[some (.ref A.ra),some (.int (k:Nat)),some (.int 0),v]:=⟨_,λ_ _ _=>Iff.rfl⟩
 refine ⟨W,⟨1001,(hW _ _ _).mpr ⟨0,r,0,none,by omega,rfl,h,inv,Frm.refl _ _,by rw [Nat.sub_zero],rfl⟩⟩,λn σ H1 hw=>?_⟩
 obtain ⟨k,r1,hd,v,hk,rfl,h1,inv1,f1,es,rfl⟩:=(hW _ _ _).mp hw
 simp_arith [h1.ra]
 have zero:(0:Int)=((0:Nat):Int):=rfl
 cases ov:r1.over with
 | true=>
  simp_arith [Bool.true_eq_false]
  refine aft H1 r1 hd _ _ _ _ 0 h1 inv1 f1 (by omega) ?_
  rw [es]
  cases hk':1000 - k with
  | zero=>rw [Ff,if_pos ov]
  | succ m=>rw [ET,if_pos ov]
 | false=>
  simp_arith
  refine ⟨_,λ_ _ z=>z,eO ?_⟩
  simp_arith [h1.ra,g1]
  have ovf:¬r1.over=true:=by rw [ov];exact Bool.false_ne_true
  refine YM (e:=0) h1 inv1 λH2 ml s2 mv=>?_
  have h2:=h1.same s2
  have f2:Frm A H H2:=f1.trans (Frm.of_same s2)
  obtain ⟨l0,hl0⟩:∃ l0,l0=Rc42.agreed c r1 (Rc42.taken c r1 0):=⟨_,rfl⟩
  rw [<-hl0] at mv
  have ag0:=OX wf h1.ok inv1 0
  rw [<-hl0] at ag0
  obtain ⟨al,b1,b2,b3,b4⟩:=h2.rl
  simp_arith
  have rest:(l0.isEmpty=false\/r1.raised≠[])->(aK (cP (bw (tOp rEq (aa 1) (tC (.int (1000))))) (aK (c5 (tC (.int 1)) (aX 2)) VE) bL)
    (aK (cP (pK (Ag K (aa 3))) (aK (c5 (bD t.aV "moves" (A8 t) [] E0 (aa 0) (aB (tOp (bY K) (aN K (aa 0) "raised") (aN K (aa 0) "heard")) aJ)) (aX 3)) (Im K (aa 0) (tC (.int 1)) (ipI λi j=>i+j) "heard")) bL)
    (aK (fT (bD t.aV "step" (C1 t) [] E0 (aa 0) (aB (aa 3) aJ))) (QU 1 (tC (.int 1)) (ipI λi j=>i+j)))))
    { nx:=λσ' H'=>∃ m',m' < 1001 - k/\W m' σ' H',rt:=Q,bk:=(aK (fm K (aa 0) (kC aJ) "raised") (aK (fm K (aa 0) (tC (.int 0)) "heard") (bG (aa 2)))) (fin Q),ct:=λσ' H'=>∃ m',m' < 1001 - k/\W m' σ' H' } [some (.ref A.ra),some (.int (k:Nat)),some (.int 0),some (.ref ml)] H2:=λmore=>by
   refine eO ?_
   simp_arith
   by_cases k1:k=1000
   ·rw [if_pos (by omega)]
    refine eO ?_
    simp_arith
    refine aft H2 r1 hd _ _ _ _ 1 h2 inv1 f2 (by omega) ?_
    rw [es,k1,Nat.sub_self,Ff,if_neg ovf,if_neg ?_]
    rw [<-hl0]
    intro z
    rw [Bool.and_eq_true] at z
    rcases more with y | y
    ·rw [z.1] at y;cases y
    ·exact y (List.isEmpty_iff.mp z.2)
   ·rw [if_neg (by omega)]
    have es':1000 - k=(999 - k)+1:=by omega
    have e3:=ET c (999 - k) r1
    rw [if_neg ovf,<-hl0] at e3
    rw [es',e3] at es
    have stepx:∀ (H3:Hp) (r2:Rc42.Run) (hd2:Nat) (ml3:Addr) (l:List Rc42.Way),cu t S H3 A c r2 hd2 (TT+128 * k) (3200+3200 * k)->eS c r2->Frm A H H3->Aj t S A H3 ml3 c r2 l->Agr c r2 l->l.length<=64->Rc42.settle c 1000 r=Rc42.settle c (999 - k) (Rc42.step c r2 l) ->
      (aK (fT (bD t.aV "step" (C1 t) [] E0 (aa 0) (aB (aa 3) aJ))) (QU 1 (tC (.int 1)) (ipI λi j=>i+j))) { nx:=λσ' H'=>∃ m',m' < 1001 - k/\W m' σ' H',rt:=Q,bk:=(aK (fm K (aa 0) (kC aJ) "raised") (aK (fm K (aa 0) (tC (.int 0)) "heard") (bG (aa 2)))) (fin Q),ct:=λσ' H'=>∃ m',m' < 1001 - k/\W m' σ' H' } [some (.ref A.ra),some (.int (k:Nat)),some (.int 0),some (.ref ml3)] H3:=by
     intro H3 r2 hd2 ml3 l h3 inv3 f3 mv3 ag3 hl3 es3
     refine eO ?_
     simp_arith [h3.ra,g2]
     refine ald h3 mv3 ag3 inv3 hl3 (by omega) (by omega) λH4 h4 inv4 f4=>?_
     simp_arith
     refine ⟨1001 - (k+1),by omega,(hW _ _ _).mpr ⟨k+1,_,hd2,some (.ref ml3),by omega,rfl,h4.mono (by omega) (by omega),inv4,f3.trans f4,?_,?_⟩⟩
     ·have e9:999 - k=1000 - (k+1):=by omega
      rw [es3,e9]
     ·have:((k+1:Nat):Int)=(k:Int)+1:=by omega
      rw [this]
    refine eO ?_
    simp_arith [Ag]
    refine ⟨_,ahW mv,?_⟩
    cases em:l0.isEmpty with
    | false=>
     rw [em,if_pos rfl] at es
     simp_arith [Bool.not_false,Bool.true_eq_false]
     exact stepx H2 r1 hd ml l0 h2 inv1 f2 mv ag0.1 ag0.2 es
    | true=>
     rw [em,if_neg (by simp)] at es
     simp_arith [Bool.not_true]
     refine eO ?_
     simp_arith [h2.ra,g1]
     have rne:r1.raised≠[]:=more.resolve_left (by rw [em];simp)
     cases er:r1.raised with
     | nil=>exact absurd er rne
     | cons e rest=>
      rw [er] at es
      have eal:al[hd]?=some e:=by
       have:(al.drop hd)[0]?=some e:=by rw [<-b3,er];rfl
       rw [List.getElem?_drop] at this
       simpa using this
      refine ix b1 rfl (anS eal) ?_
      refine YM h2 inv1 λH3 ml3 s3 mv3=>?_
      have h3:=h2.same s3
      simp_arith [h3.ra]
      obtain ⟨r2,hr2⟩:∃ r2:Rc42.Run,r2={ r1 with raised:=rest }:=⟨_,rfl⟩
      obtain ⟨m1,m2,m3,m4⟩:=h3.nes
      have ap:=h3.ap
      have c1:=s3 _ _ b1
      have hdl:hd < al.length:=(List.getElem?_eq_some_iff.mp eal).1
      have eh:(hd:Int)+1=((hd+1:Nat):Int):=by omega
      rw [eh]
      obtain ⟨H4,hH4⟩:∃ H4,H4=upd H3 A.ra (.ins t.aV A.dx (bF (.ref A.pa) (.ref A.na) (.ref A.la) (.int (M λi=>i∈r1.isIn)) (.bl r1.over) (.ref A.rl) (.int ((hd+1:Nat):Int)) (.ref A.tl))):=⟨_,rfl⟩
      rw [<-hH4]
      have f4:Frm A H3 H4:=by rw [hH4];exact o7 (.inl rfl)
      have h4:cu t S H4 A c r2 (hd+1) (TT+128 * k) (3200+3200 * k):=by
       rw [hr2,hH4]
       refine ⟨λa o z=>?_,h3.pl,ay,?_,?_,⟨al,?_,by omega,?_,b4⟩,?_,ap,⟨h3.ok.nl,h3.ok.ii,h3.ok.so,h3.ok.kp⟩,h3.bt⟩
       ·rw [aq (ao z ap.ra)];exact h3.st a o z
       ·rw [aq (Ne.symm m1)];exact h3.na
       ·rw [aq (Ne.symm m2),h3.la];exact ldm rfl
       ·rw [aq (Ne.symm m3)];exact c1
       ·have:al.drop hd=e::al.drop (hd+1):=by
         rw [List.drop_eq_getElem_cons hdl]
         congr 1
         exact (List.getElem?_eq_some_iff.mp eal).2
        rw [b3,this] at er
        exact (List.cons.inj er).2.symm
       ·rw [aq (Ne.symm m4)];exact h3.tl
      have inv4:eS c r2:=by rw [hr2];exact ⟨inv1.i1,inv1.i2,inv1.ne⟩
      have e2:Rc42.agreed c r2 (Rc42.taken c r2 e)=Rc42.agreed c r1 (Rc42.taken c r1 e):=by
       rw [hr2]
       exact (afc (r:=r1) (r':={ r1 with raised:=rest }) rfl rfl _).trans (congrArg (Rc42.agreed c r1) (ahe (r:=r1) (r':={ r1 with raised:=rest }) rfl rfl e))
      have ag4:=OX wf h4.ok inv4 e
      have mv4:Aj t S A H4 ml3 c r2 (Rc42.agreed c r2 (Rc42.taken c r2 e)):=by
       rw [e2]
       exact (mv3.frm f4).apC (by rw [hr2]) (by rw [hr2])
      refine stepx _ r2 (hd+1) ml3 _ h4 inv4 (f2.trans ((Frm.of_same s3).trans f4)) mv4 ag4.1 ag4.2 ?_
      rw [es,hr2]
  refine eO ?_
  simp_arith [Ag]
  refine ⟨_,ahW mv,?_⟩
  cases em:l0.isEmpty with
  | false=>
   simp_arith [Bool.not_false,Bool.true_eq_false]
   exact rest (.inl em)
  | true=>
   simp_arith [Bool.not_true,h2.ra]
   refine len b1 ?_
   simp_arith
   by_cases hl:hd=al.length
   ·rw [if_pos (by rw [dJ];omega)]
    have re:r1.raised=[]:=by rw [b3,hl];simp
    refine aft H2 r1 hd _ _ _ _ 0 h2 inv1 f2 (by omega) ?_
    have er:({ r1 with raised:=[] }:Rc42.Run)=r1:=by
     obtain ⟨a,b,d,e,f,g⟩:=r1
     simp at re
     rw [re]
    rw [es,er]
    cases hk':1000 - k with
    | zero=>rw [Ff,if_neg ovf,<-hl0,em,re];rfl
    | succ m=>rw [ET,if_neg ovf,<-hl0,em,if_neg (by simp),re]
   ·rw [if_neg (by rw [dJ];omega)]
    refine rest (.inr λz=>?_)
    rw [b3] at z
    have:=List.drop_eq_nil_iff.mp z
    omega
theorem Oh {C C' f f':Addr} {q q' x x':Str} {st st':Stmt} {d d':FuncData} (m:Mk K C f) (m':Mk K C' f') (F:Fun K x q st f d) (F':Fun K x' q' st' f' d') (n:q≠q'):C≠C':=λe=>by
 have h1:=m.init
 have h2:=m'.init
 rw [e,h2] at h1
 have h3:f'=f:=by injection h1 with h1;injection h1 with h1;injection h1
 obtain ⟨oc,od,kV,doc,pm,an,cdv,ct,osl,e1,e2,_⟩:=F.ex
 obtain ⟨oc',od',kV',doc',pm',an',cdv',ct',osl',e1',e2',_⟩:=F'.ex
 rw [h3,e2] at e2'
 injection e2' with z
 injection z with _ _ z
 injection z with z
 rw [e1,e1'] at z
 exact n (congrArg (λd:FuncData=>d.qualname) z)
section
variable {C:Addr} {H H':Hp} (k:∀ a o,H a=some o->(∀ d fs,o≠.ins C d fs)->H' a=some o)
include k
theorem gG.keep {l:Addr} {as:List Rc42.Act} (h:gG H l as):gG H' l as:=let ⟨ts,a,b,d⟩:=h;⟨ts,k _ _ a (by simp),b,λi x y h1 h2=>k _ _ (d i x y h1 h2) (by simp)⟩
theorem ChL.keep (n1:t.bA≠C) (n2:t.eV≠C) {lb:Addr->Lb} {sl wl:Addr} {ss ws:List Addr} {c:Rc42.Chart} (h:ChL t lb H sl wl ss ws c):ChL t lb H' sl wl ss ws c where
 s1:=k _ _ h.s1 (by simp)
 s2:=h.s2
 s3:=λi s a h1 h2=>let ⟨dx,ca,la,x1,x2,x3,x4⟩:=h.s3 i s a h1 h2;⟨dx,ca,la,k _ _ x1 (λd fs e=>n1 (by injection e)),x2.keep k,x3.keep k,x4⟩
 s4:=h.s4
 w1:=k _ _ h.w1 (by simp)
 w2:=h.w2
 w3:=λj w a h1 h2=>let ⟨dx,wa,x1,x2,x4⟩:=h.w3 j w a h1 h2;⟨dx,wa,k _ _ x1 (λd fs e=>n2 (by injection e)),x2.keep k,x4⟩
 w4:=h.w4
theorem lZ.keep (n1:t.bA≠C) (n2:t.eV≠C) (n3:t.bz≠C) {pa:Addr} {c:Rc42.Chart} (h:lZ t H pa c):lZ t H' pa c:=by
 obtain ⟨r,dx,sl,wl,a1,a2,a3,a4,a5,a6,a7,lb,ss,ws,h0,hc,h1,h2,h3,h4,h5,h6,lab,Hb,kvs,o⟩:=h
 exact ⟨r,dx,sl,wl,a1,a2,a3,a4,a5,a6,a7,lb,ss,ws,k _ _ h0 (λd fs e=>n3 (by injection e)),hc.keep k n1 n2,k _ _ h1 (by simp),k _ _ h2 (by simp),k _ _ h3 (by simp),k _ _ h4 (by simp),k _ _ h5 (by simp),k _ _ h6 (by simp),lab,Hb,kvs,k _ _ o.at_ (by simp),o.nd,o.ks,o.lf,o.nf,o.nw,
  λev=>(o.ev ev).imp id λ⟨d,y,l1,ls,y1,y2,y3⟩=>⟨d,y,l1,ls,k _ _ y1 (by simp),y2,λi s ns l g1 g2=>⟨k _ _ (y3 i s ns l g1 g2).1 (by simp),(y3 i s ns l g1 g2).2⟩⟩⟩
end
def HQ (t:Adr):Sp:=λvs H Q _=>∃ x dx ca c H0,vs=[.ref x,.ref ca]/\H x=some (.ins t.aV dx [])/\H0 x=none/\aP H0 H/\ChI t H0 ca c/\Rdy c /\
 ∀ H' S A,A.ra=x->cu t S H' A c {} 0 0 0->aP H0 H'->(∀ a,A.has a->a=x\/H a=none)->But x H H'->(∀ p,H p≠none->H0 p=none->p≠x->lZ t (wo p S) A.pa c)->Q .non H'
theorem aey {Sp:Sps} (T:Txt K mg t) (g1:Sp.qK=BF t) {vs H Q E} (h:HQ t vs H Q E):Ke K t Sp (fin Q) (L2.start ["self","chart"] vs) H:=by
 obtain ⟨x,dx,ca,c,H0,rfl,hx,hx0,s0,hI,rdy,q⟩:=h
 rw [anY] at hx
 have n1:t.bA≠t.aV:=Oh T.p9 T.B5 T.jK T.kQ (by decide)
 have n2:t.eV≠t.aV:=Oh T.Hj T.B5 T.mR T.kQ (by decide)
 have n3:t.bz≠t.aV:=Oh T.yG T.B5 T.kX T.kQ (by decide)
 unfold Ke
 refine eO ?_
 simp_arith [g1]
 refine λy dy hy hdy _=>?_
 have sy0:∀ u v,aP H (upd (upd H dy u) y v):=λu v a o z=>by rw [aq (ao z hy),aq (ao z hdy)];exact z
 refine ⟨y,dy,ca,c,H0,rfl,ay,s0.free hy,s0.trans (sy0 _ _),hI,rdy,λH1 pl s1o b1o plp=>⟨rfl,?_⟩⟩
 have s1:aP H H1:=λa o z=>b1o a o (ao z hy) (sy0 _ _ a o z)
 simp_arith [s1 _ _ hx]
 refine ⟨anj,F3 λG1 x1 b1=>?_⟩
 rw [amD] at x1
 obtain ⟨S,hS⟩:∃ S,S=wo x H1:=⟨_,rfl⟩
 have x1':=s1 _ _ hx
 have plS:lZ t S y c:=pl.keep (C:=t.aV) (λa o z n=>by rw [hS];exact iB z λe=>by rw [e,x1'] at z;cases z;exact n _ _ rfl) n1 n2 n3
 have Sx:S x=none:=by rw [hS];exact xN
 have k1:aP S G1:=bU Sx (by rw [hS];exact lB) b1
 have c0:aP H0 S:=by rw [hS];exact MC hx0 (s0.trans s1)
 refine eO ?_
 simp_arith
 refine ⟨by decide,λz0 hz0=>?_⟩
 refine ⟨z0,16,[.int 0],rfl,rfl,ay,by decide,by decide,by decide,λna hna=>?_⟩
 have sA:=(aT (o:=HO.lst [V.int 0]) hz0)
 have enum:(List.replicate (Int.toNat 16) [V.int 0]).flatten=(({}:Rc42.Run).numbers).map V.int:=rfl
 rw [enum]
 obtain ⟨H2,hH2⟩:∃ H2,H2=upd (upd G1 z0 (.lst [.int 0])) na (.lst ((({}:Rc42.Run).numbers).map V.int)):=⟨_,rfl⟩
 rw [<-hH2]
 have s2:aP G1 H2:=by rw [hH2];exact sA.trans (aT hna)
 have na2:H2 na=some (.lst ((({}:Rc42.Run).numbers).map V.int)):=by rw [hH2,ay]
 have Gna:G1 na=none:=sA.free hna
 have x2:=s2 _ _ x1
 simp_arith [x2]
 refine ⟨ana,F3 λG2 x2' b2=>?_⟩
 rw [amt] at x2'
 have k2:aP S G2:=bU Sx (k1.trans s2) b2
 have nax:na≠x:=(ao x1 Gna).symm
 have na3:=b2 _ _ nax na2
 refine eO ?_
 obtain ⟨_,dp,sl,wl,a1,a2,a3,a4,a5,a6,a7,lb,ss,ws,p0,hc,p1,p2,p3,p4,p5,p6,p7⟩:=id plS
 simp_arith [x2',aaa,k2 _ _ p0]
 refine ⟨a6,_,rfl,.inl (SqL.of (k2 _ _ p6)),λla hla=>?_⟩
 have s3:aP G2 (upd G2 la (.lst (msk c.states.length λs i=>i=jP c s))):=aT hla
 simp_arith [s3 _ _ x2']
 refine ⟨anf,F3 λG3 x3 b3=>?_⟩
 rw [amT] at x3
 have k3:aP S G3:=bU Sx (k2.trans s3) b3
 have lax:la≠x:=(ao x2' hla).symm
 have la3:=b3 la _ lax ay
 have na4:=b3 _ _ nax (s3 _ _ na3)
 have Sla:S la=none:=k2.free hla
 have nla:na≠la:=ao na3 hla
 refine eO ?_
 simp_arith [x3]
 refine ⟨amr,F3 λG4 x4 b4=>?_⟩
 rw [al3] at x4
 refine eO ?_
 simp_arith [x4]
 refine ⟨amS,F3 λG5 x5 b5=>?_⟩
 rw [ani] at x5
 have k5:aP S G5:=bU Sx (bU Sx k3 b4) b5
 have la5:=b5 _ _ lax (b4 _ _ lax la3)
 have na5:=b5 _ _ nax (b4 _ _ nax na4)
 refine eO ?_
 simp_arith [x5]
 refine ⟨Nat.zero_le _,λrl hrl=>?_⟩
 have s6:aP G5 (upd G5 rl (.lst [])):=aT hrl
 simp_arith [s6 _ _ x5]
 refine ⟨amc,F3 λG6 x6 b6=>?_⟩
 rw [ams] at x6
 have k6:aP S G6:=bU Sx (k5.trans s6) b6
 have rlx:rl≠x:=(ao x5 hrl).symm
 have rl6:=b6 rl _ rlx ay
 have la6:=b6 _ _ lax (s6 _ _ la5)
 have na6:=b6 _ _ nax (s6 _ _ na5)
 have Srl:S rl=none:=k5.free hrl
 refine eO ?_
 simp_arith [x6]
 refine ⟨amw,?_⟩
 obtain ⟨G7,hG7⟩:∃ G,G=upd G6 x (HO.ins t.aV dx (cj "heard" (V.int 0) (RN (V.ref y) (V.ref na) (V.ref la) (V.int 0) (V.bl false) (V.ref rl)))):=⟨_,rfl⟩
 rw [<-hG7]
 have x7:=(congrFun hG7 x).trans ay
 rw [amF] at x7
 have b7:But x G6 G7:=λa o n e=>by rw [hG7,aq n];exact e
 have k7:aP S G7:=bU Sx k6 b7
 simp_arith [x7]
 refine ⟨Nat.zero_le _,λtl htl=>?_⟩
 have s8:aP G7 (upd G7 tl (.lst [])):=aT htl
 simp_arith [s8 _ _ x7]
 refine ⟨am6,F3 (R:=λH=>Q V.non H) λG8 x8 b8=>?_⟩
 rw [amj,an0] at x8
 have tlx:tl≠x:=(ao x7 htl).symm
 have tl8:=b8 tl _ tlx ay
 have up8:∀ {a o},a≠x->G6 a=some o->G8 a=some o:=λ{a o} n e=>b8 _ _ n (s8 _ _ (b7 _ _ n e))
 have ne7:∀ {a o},a≠x->G6 a=some o->a≠tl:=λ{a o} n e=>ao (b7 _ _ n e) htl
 have k8:aP S G8:=bU Sx (k7.trans s8) b8
 have Sna:S na=none:=k1.free Gna
 have Stl:S tl=none:=k7.free htl
 refine q G8 S ⟨x,dx,y,na,la,rl,tl⟩ rfl ⟨k8,plS,?_,up8 nax na6,?_,⟨[],up8 rlx rl6,Nat.le_refl _,rfl,Nat.le_refl _⟩,tl8,⟨Sx,Sna,Sla,Srl,Stl,nla,ao na5 hrl,ne7 nax na6,ao la5 hrl,ne7 lax la6,ne7 rlx rl6⟩,⟨rfl,by simp,List.Pairwise.nil,by simp⟩,Nat.le_refl _⟩ (c0.trans k8) (λa ha=>?_) (λa o n e=>k8 _ _ (by rw [hS];exact iB (s1 _ _ e) n)) λp hp hp0 px=>?_
 ·have e:M (λi=>i∈({}:Rc42.Run).isIn)=0:=by rw [<-wk];exact fD λi _=>by simp
  rw [e];exact x8
 ·show G8 la=_
  rw [up8 lax la6,Ip (P:=λs i=>i=jP c s) (Q:=λs i=>i∈Rc42.leads c {} 64 s) λs hs i _=>?_]
  rw [n9 rdy _ hs]
  by_cases k3:(c.at_ s).kind < 3
  ·rw [if_pos k3]
   have:jP c s=s:=by unfold jP;rw [if_pos k3]
   rw [this];simp
  ·rw [if_neg k3]
   show _↔i∈[jP c s]
   simp
 ·have cz:∀ {a},S a=none->a=x\/H a=none:=λ{a} e=>by
   by_cases z:a=x
   ·exact .inl z
   ·refine .inr ?_
    cases eh:H a with
    | none=>rfl
    | some o=>rw [hS,iB (s1 _ _ eh) z] at e;cases e
  rcases ha with e | e | e | e | e
  ·exact .inl e
  ·rw [e];exact cz Sna
  ·rw [e];exact cz Sla
  ·rw [e];exact cz Srl
  ·rw [e];exact cz Stl
 ·have py:p≠y:=λz=>hp (by rw [z];exact hy)
  obtain ⟨o,ho⟩:∃ o,H p=some o:=Option.ne_none_iff_exists'.mp hp
  refine (plp p (by rw [sy0 _ _ _ _ ho];simp) hp0 py).keep (C:=t.aV) (λa u z n=>?_) n1 n2 n3
  unfold wo at z
  split at z
  ·cases z
  ·rename_i np
   exact iB (by rw [hS];exact iB z λe=>by rw [e,x1'] at z;cases z;exact n _ _ rfl) np
def Rest (t:Adr) (S H:Hp) (A:RA) (c:Rc42.Chart) (r:Rc42.Run):Prop:=cu t S H A c r 0 200000 0/\eS c r
structure RNx (A A':RA) (H H':Hp):Prop where
 ra:A'.ra=A.ra
 own:∀ a,A'.has a->A.has a\/H a=none
 stay:∀ a o,H a=some o->¬A.has a->H' a=some o
theorem gr0 {c:Rc42.Chart} (wf:Wf c) {y:Nat}:Gr c (λi=>i=0) y↔De c 0 y:=by
 have n1:=wf.n1
 constructor
 ·intro g
  induction g with
  | ex h=>rw [h];exact .self 0
  | side _ k hp ih=>exact ih.ahB k hp
  | beg _ k hb _ ih=>exact ih.alh k hb
 ·intro d
  refine d.gr wf (λe he=>by rw [he];omega) (by omega) (.ex rfl) λe he=>?_
  rw [he];exact Wr wf (by omega)
def lM (c:Rc42.Chart):Rc42.Run:=Rc42.come c {} ((Rc42.enter c {} Rc42.FUEL 0 []).filter λx=>x != 0)
theorem alo {c:Rc42.Chart} (wf:Wf c) (y:Nat):y∈Rc42.enter c {} Rc42.FUEL 0 []↔Gr c (λi=>i=0) y:=by
 have n1:=wf.n1
 rw [AV wf {} Rc42.FUEL 0 [] (by decide) (by omega) (by rw [wf.k0];omega) (by simp) (by simp) y,gr0 wf]
 simp
theorem aiC {c:Rc42.Chart} (rdy:Rdy c):(∀ i,i∈(lM c).isIn↔Gr c (λi=>i=0) i/\i≠0)/\(lM c).kept=[]:=by
 have wf:=rdy.wf
 have n1:=wf.n1
 have n2:=wf.n2
 have glt:∀ i,Gr c (λi=>i=0) i->i < c.states.length:=λi g=>g.lt wf λy hy=>by rw [hy];omega
 unfold lM
 rw [Oe]
 have cm:=Vl c (Rc42.rising ((Rc42.enter c {} Rc42.FUEL 0 []).filter λx=>x != 0)) {} (by simp) (λi hi=>(d8.mp hi).1)
 refine ⟨λi=>?_,cm.2⟩
 rw [cm.1 i,d8,List.mem_filter,alo wf]
 simp
 exact λg _=>by have:=glt i g;omega
theorem ahs {c:Rc42.Chart} (rdy:Rdy c):eS c (lM c):=by
 have wf:=rdy.wf
 have n1:=wf.n1
 obtain ⟨si,sk⟩:=aiC rdy
 have glt:∀ i,Gr c (λi=>i=0) i->i < c.states.length:=λi g=>g.lt wf λy hy=>by rw [hy];omega
 refine ⟨λs hs np=>?_,λs hs=>?_,λx hx=>by rw [sk] at hx;cases hx⟩
 ·obtain ⟨g,s0⟩:=(si s).mp hs
  have sn:=glt s g
  have ne:Rc42.parts c s≠[]:=λz=>by unfold Rc42.plain at np;rw [z] at np;cases np
  by_cases k1:(c.at_ s).kind=1
  ·obtain ⟨p,hp⟩:=List.exists_mem_of_ne_nil _ ne
   exact ⟨p,hp,(si p).mpr ⟨.side g k1 hp,(aI.mp hp).2.1⟩⟩
  ·cases eb:Rc42.beginning c s with
   | none=>exact absurd ((kU wf sn).mp eb) ne
   | some b=>
    have hb:=bO wf sn eb
    refine ⟨b,hb,(si b).mpr ⟨.beg g k1 eb λy hy=>?_,(aI.mp hb).2.1⟩⟩
    rw [hy]
    cases w:Rc42.within c 0 s with
    | false=>rfl
    | true=>have:=eG wf (by omega) w;omega
 ·obtain ⟨g,s0⟩:=(si s).mp hs
  cases g with
  | ex h=>exact absurd h s0
  | @side A p g k hp=>
   rw [(aI.mp hp).2.2.1]
   by_cases z:A=0
   ·exact .inl z
   ·exact .inr ((si A).mpr ⟨g,z⟩)
  | @beg A b g k hb no=>
   rw [(aI.mp (bO wf (glt _ g) hb)).2.2.1]
   by_cases z:A=0
   ·exact .inl z
   ·exact .inr ((si A).mpr ⟨g,z⟩)
def t9 (t:Adr):Sp:=λvs H Q _=>∃ S A c,vs=[.ref A.ra]/\cu t S H A c {} 0 0 0/\∀ H' A',RNx A A' H H'->Rest t S H' A' c (Rc42.settle c 1000 (lM c)).1->Q (.int ((Rc42.settle c 1000 (lM c)).2:Nat)) H'
theorem afV {S H:Hp} {Q:VK} {E:XK} {A:RA} {c:Rc42.Chart} (h:cu t S H A c {} 0 0 0) (q:∀ H' A',RNx A A' H H'->Rest t S H' A' c (Rc42.settle c 1000 (lM c)).1->Q (.int ((Rc42.settle c 1000 (lM c)).2:Nat)) H'):t9 t [.ref A.ra] H Q E:=⟨S,A,c,rfl,h,q⟩
theorem akF {A:RA} {H H1 H':Hp} {rl':Addr} (f:Frm A H H1) (hn:H rl'=none) (st:∀ a o,H1 a=some o->¬A.has a->H' a=some o):RNx A { A with rl:=rl' } H H':=by
 refine ⟨rfl,λa ha=>?_,λa o e n=>st a o (f a o e n) n⟩
 rcases ha with e | e | e | e | e
 ·exact .inl (.inl e)
 ·exact .inl (.inr (.inl e))
 ·exact .inl (.inr (.inr (.inl e)))
 ·exact .inr (by rw [show a=rl' from e];exact hn)
 ·exact .inl (.inr (.inr (.inr (.inr e))))
theorem afU {S:Hp} {A:RA} {H H1:Hp} {c:Rc42.Chart} {r:Rc42.Run} {hd T R:Nat} {p:Addr} (h1:cu t S H1 A c r hd T R) (f:Frm A H H1) (hp:H1 p=none):H p=none:=by
 cases e:H p with
 | none=>rfl
 | some o=>
  have:=f p o e (yw h1 hp)
  rw [hp] at this;cases this
theorem Zy {Sp:Sps} (T:Txt K mg t) (g1:Sp.lW=LB t) (g2:Sp.gg=Bj t) (g3:Sp.mark=gP) (g4:Sp.iY=Bh t) {vs H Q E} (h:t9 t vs H Q E):Gn K t Sp (fin Q) (L2.start ["self"] vs) H:=by
 obtain ⟨S,A,c,rfl,h,q⟩:=h
 have rdy:=h.pl.rdy
 have wf:=rdy.wf
 have n1:=wf.n1
 have n2:=wf.n2
 obtain ⟨_,dx,sla,wl,a1,a2,a3,a4,a5,a6,a7,lb,ss,ws,h0,_⟩:=h.plan
 unfold Gn
 simp? [h.ra,h0,g1,g2,g3]
 refine j5 (s:=0) (by omega) ?_
 simp?
 refine af8 h.plan (λy hy=>by rw [hy];omega) ?_
 simp?
 refine j5 (s:=0) (by omega) ?_
 simp?
 rw [AN]
 have gok:∀ i,Gr c (λi=>i=0) i/\¬i=0->i < c.states.length/\i≠0/\(c.at_ i).kind<=2:=λi hi=>⟨hi.1.lt wf λy hy=>by rw [hy];omega,hi.2,by
  cases hi.1 with
  | ex h=>exact absurd h hi.2
  | side _ _ hp=>exact (aI.mp hp).2.2.2
  | beg g _ hb _=>exact (aI.mp (bO wf (g.lt wf λy hy=>by rw [hy];omega) hb)).2.2.2⟩
 refine ajW h gok (by omega) (by omega) λH1 h1 f1=>?_
 have es:(el λi=>Gr c (λi=>i=0) i/\¬i=0).foldl (rR c) {}=lM c:=by
  unfold lM
  rw [Oe]
  congr 1
  refine W8 λi _=>?_
  rw [List.mem_filter,alo wf]
  simp
 rw [es] at h1
 simp? [h1.ra,g4]
 refine aec (h1.mono (Nat.le_refl _) (by omega)) (ahs rdy) (by omega) λH2 rl' st hn h2 inv2=>?_
 exact q H2 _ (akF f1 (afU h1 f1 hn) st) ⟨h2.mono (by omega) (Nat.le_refl _),inv2⟩
def rP (c:Rc42.Chart) (r:Rc42.Run) (e:Int):Rc42.Run×Int:=if e < 1\/255 < e then (r,-1) else if r.over=true then (r,-5) else if 65536 < r.told.length then (r,-2) else
 ((Rc42.settle c 1000 (Rc42.step c r (Rc42.agreed c r (Rc42.taken c r e.toNat)))).1,((Rc42.settle c 1000 (Rc42.step c r (Rc42.agreed c r (Rc42.taken c r e.toNat)))).2:Nat))
def RS (t:Adr):Sp:=λvs H Q _=>∃ S A c r e,vs=[.ref A.ra,.int e]/\Rest t S H A c r/\∀ H' A',RNx A A' H H'->Rest t S H' A' c (rP c r e).1->Q (.int (rP c r e).2) H'
theorem aom {S H:Hp} {Q:VK} {E:XK} {A:RA} {c:Rc42.Chart} {r:Rc42.Run} {e:Int} (h:Rest t S H A c r) (q:∀ H' A',RNx A A' H H'->Rest t S H' A' c (rP c r e).1->Q (.int (rP c r e).2) H'):RS t [.ref A.ra,.int e] H Q E:=⟨S,A,c,r,e,rfl,h,q⟩
theorem akx (A:RA) (H:Hp):RNx A A H H:=⟨rfl,λa h=>.inl h,λa o e _=>e⟩
theorem am5 {Sp:Sps} (T:Txt K mg t) (g1:Sp.l6=C1 t) (g2:Sp.jk=A8 t) (g4:Sp.iY=Bh t) {vs H Q E} (h:RS t vs H Q E):J3 K t Sp (fin Q) (L2.start ["self","event"] vs) H:=by
 obtain ⟨S,A,c,r,e,rfl,⟨h,inv⟩,q⟩:=h
 have wf:=h.pl.rdy.wf
 have no:∀ v,rP c r e=(r,v)->Q (.int v) H:=λv hv=>by rw [hv] at q;exact q H A (akx A H) ⟨h,inv⟩
 unfold J3
 simp? [h.ra]
 by_cases e1:1<=e
 ·by_cases e2:e<=255
  ·simp? [e1,e2,not_true_eq_false,h.ra]
   have ev:¬(e < 1\/255 < e):=by omega
   cases ov:r.over with
   | true=>simp?;exact no (-5) (by unfold rP;rw [if_neg ev,if_pos ov])
   | false=>
    have ovf:¬r.over=true:=by rw [ov];exact Bool.false_ne_true
    simp? [h.ra]
    refine len h.tl ?_
    simp? [dJ]
    by_cases tl:65536 < r.told.length
    ·rw [if_pos (by omega)]
     exact no (-2) (by unfold rP;rw [if_neg ev,if_neg ovf,if_pos tl])
    ·rw [if_neg (by omega)]
     obtain ⟨en,rfl⟩:=Int.eq_ofNat_of_zero_le (by omega:0<=e)
     simp? [h.ra,g1,g2]
     have h':cu t S H A c r 0 65536 0:=⟨h.st,h.pl,h.ra,h.na,h.la,h.rl,h.tl,h.ap,h.ok,by omega⟩
     refine YM h' inv λH1 ml s1 mv=>?_
     have ag:=OX wf h.ok inv en
     simp?
     refine ald (h'.same s1) mv ag.1 inv ag.2 (by omega) (by omega) λH2 h2 inv2 f2=>?_
     have h2:=h2.mono (T':=65664) (R':=3200) (by omega) (by omega)
     simp? [h2.ra,g4]
     have f12:Frm A H H2:=(Frm.of_same s1).trans f2
     refine aec h2 inv2 (by omega) λH3 rl' st hn h3 inv3=>?_
     have es:rP c r (en:Int)=((Rc42.settle c 1000 (Rc42.step c r (Rc42.agreed c r (Rc42.taken c r en)))).1,(((Rc42.settle c 1000 (Rc42.step c r (Rc42.agreed c r (Rc42.taken c r en)))).2:Nat):Int)):=by
      unfold rP;rw [if_neg ev,if_neg ovf,if_neg tl,Int.toNat_natCast]
     rw [es] at q
     exact q H3 _ (akF f12 (afU h2 f12 hn) st) ⟨h3.mono (by omega) (Nat.le_refl _),inv3⟩
  ·simp? [e1,e2,not_false_eq_true]
   exact no (-1) (by unfold rP;rw [if_pos (by omega)])
 ·simp? [e1]
  exact no (-1) (by unfold rP;rw [if_pos (by omega)])
def NS (t:Adr):Sp:=λvs H Q _=>∃ S A c r i,vs=[.ref A.ra,.int i]/\Rest t S H A c r/\Q (.int (if Rc42.isState c i=false then -1 else ((r.isIn.contains i.toNat).toNat:Nat))) H
theorem anq {S H:Hp} {Q:VK} {E:XK} {A:RA} {c:Rc42.Chart} {r:Rc42.Run} {i:Int} (h:Rest t S H A c r) (q:Q (.int (if Rc42.isState c i=false then -1 else ((r.isIn.contains i.toNat).toNat:Nat))) H):NS t [.ref A.ra,.int i] H Q E:=⟨S,A,c,r,i,rfl,h,q⟩
theorem ajZ {Sp:Sps} (T:Txt K mg t) (g1:Sp.mark=gP) {vs H Q E} (h:NS t vs H Q E):Hw K t Sp (fin Q) (L2.start ["self","state"] vs) H:=by
 obtain ⟨S,A,c,r,i,rfl,⟨h,inv⟩,q⟩:=h
 have n2:=h.pl.rdy.wf.n2
 obtain ⟨_,dx,sla,wl,a1,a2,a3,a4,a5,a6,a7,lb,ss,ws,h0,hc,_⟩:=h.plan
 unfold Hw
 simp? [h.ra,h0]
 have no:Rc42.isState c i=false->Q (.int (-1)) H:=λz=>by rw [if_pos z] at q;exact q
 by_cases i0:0<=i
 ·simp? [i0]
  refine len hc.s1 ?_
  simp? [List.length_map,hc.s2]
  by_cases i1:i < (c.states.length:Int)
  ·obtain ⟨n,rfl⟩:=Int.eq_ofNat_of_zero_le i0
   have is:Rc42.isState c n=true:=eK.mpr ⟨n,rfl,by omega⟩
   simp? [i1,not_true_eq_false,h.ra,g1]
   refine j5 (by omega) ?_
   simp?
   rw [xh]
   rw [is,if_neg (by simp),Int.toNat_natCast] at q
   by_cases z:n∈r.isIn
   ·rw [if_pos (λy=>lY.mp y n (by omega) ⟨z,rfl⟩)]
    have:r.isIn.contains n=true:=by simpa using z
    rw [this] at q;exact q
   ·rw [if_neg (λy=>y (lY.mpr λk _ ⟨a,b⟩=>z (b▸a)))]
    have:r.isIn.contains n=false:=by simpa using z
    rw [this] at q;exact q
  ·simp? [i1,not_false_eq_true]
   exact no (by unfold Rc42.isState;simp;omega)
 ·simp? [i0]
  exact no (by unfold Rc42.isState;simp;omega)
def Ik (t:Adr):Sp:=λvs H Q _=>∃ S A c r k,vs=[.ref A.ra,.int k]/\Rest t S H A c r/\∀ H' l,aP H H'->H l=none->H' l=some (.lst ((if k < 0\/15 < k then [-1] else [0,r.numbers.getD k.toNat 0]).map V.int))->Q (.ref l) H'
theorem ajO {S H:Hp} {Q:VK} {E:XK} {A:RA} {c:Rc42.Chart} {r:Rc42.Run} {k:Int} (h:Rest t S H A c r) (q:∀ H' l,aP H H'->H l=none->H' l=some (.lst ((if k < 0\/15 < k then [-1] else [0,r.numbers.getD k.toNat 0]).map V.int))->Q (.ref l) H'):Ik t [.ref A.ra,.int k] H Q E:=⟨S,A,c,r,k,rfl,h,q⟩
theorem ajA {Sp:Sps} (T:Txt K mg t) (g1:Sp.gz=ia) {vs H Q E} (h:Ik t vs H Q E):CB K t Sp (fin Q) (L2.start ["self","which"] vs) H:=by
 obtain ⟨S,A,c,r,k,rfl,⟨h,inv⟩,q⟩:=h
 unfold CB
 simp? [h.ra,g1,ia]
 by_cases z:0<=k/\k<=15
 ·obtain ⟨n,rfl⟩:=Int.eq_ofNat_of_zero_le z.1
  rw [if_neg (by simp;omega)]
  have nl:n < r.numbers.length:=by rw [h.ok.nl];omega
  have eg:r.numbers[n]?=some (r.numbers.getD n 0):=by rw [List.getD_eq_getElem?_getD,List.getElem?_eq_getElem nl];rfl
  refine ix h.na rfl (j:=n) (v:=.int (r.numbers.getD n 0)) (by rw [List.getElem?_map,eg];rfl) ?_
  refine ⟨by decide,λp hp=>q _ p (aT hp) hp ?_⟩
  rw [ay,if_neg (by omega),Int.toNat_natCast];rfl
 ·rw [if_pos z]
  refine ⟨by decide,λp hp=>q _ p (aT hp) hp ?_⟩
  rw [ay,if_pos (by omega)];rfl
def R0 (t:Adr):Sp:=λvs H Q _=>∃ S A c r m,vs=[.ref A.ra,.int m]/\Rest t S H A c r/\∀ H' A' l,RNx A A' H H'->H l=none->¬A'.has l->Rest t S H' A' c { r with told:=r.told.drop (Rc42.room_ m) }->H' l=some (.lst ((((r.told.take (Rc42.room_ m)).length:Nat):Int)::(r.told.take (Rc42.room_ m)).map (λ(x:Nat)=>(x:Int)) |>.map V.int))->Q (.ref l) H'
theorem aow {S H:Hp} {Q:VK} {E:XK} {A:RA} {c:Rc42.Chart} {r:Rc42.Run} {m:Int} (h:Rest t S H A c r) (q:∀ H' A' l,RNx A A' H H'->H l=none->¬A'.has l->Rest t S H' A' c { r with told:=r.told.drop (Rc42.room_ m) }->H' l=some (.lst ((((r.told.take (Rc42.room_ m)).length:Nat):Int)::(r.told.take (Rc42.room_ m)).map (λ(x:Nat)=>(x:Int)) |>.map V.int))->Q (.ref l) H'):R0 t [.ref A.ra,.int m] H Q E:=⟨S,A,c,r,m,rfl,h,q⟩
theorem aol {xs:List V} {n:Nat}:Ox xs none (some (n:Int))=xs.take n:=by
 unfold Ox HT.sIx
 simp
 rw [if_neg (by omega)]
 omega
theorem akh {xs:List V} {n:Nat}:Ox xs (some (n:Int)) none=xs.drop n:=by
 unfold Ox HT.sIx
 simp
 rw [if_neg (by omega)]
 by_cases h:n<=xs.length
 ·rw [Nat.min_eq_left h,List.take_of_length_le (by simp)]
 ·rw [Nat.min_eq_right (by omega),List.drop_of_length_le (Nat.le_refl _),List.drop_of_length_le (by omega)];simp
theorem aj0 {l:List Nat} {n:Nat}:(nts l).take n=nts (l.take n):=by unfold nts;rw [List.map_take]
theorem ak2 {l:List Nat} {n:Nat}:(nts l).drop n=nts (l.drop n):=by unfold nts;rw [List.map_drop]
theorem amQ {Sp:Sps} (T:Txt K mg t) {vs H Q E} (h:R0 t vs H Q E):Kr K t Sp (fin Q) (L2.start ["self","most","told"] vs) H:=by
 obtain ⟨S,A,c,r,m,rfl,⟨h,inv⟩,q⟩:=h
 have slz:=sizeLine_eq
 have bt:=h.bt
 unfold Kr
 simp?
 by_cases z:1<=m/\m<=65536
 ·obtain ⟨n,rfl⟩:=Int.eq_ofNat_of_zero_le (by omega:0<=m)
  have er:Rc42.room_ (n:Int)=n:=by unfold Rc42.room_;rw [if_pos z,Int.toNat_natCast]
  rw [er] at q
  simp? [z.1,z.2,not_true_eq_false,h.ra]
  refine ⟨A.tl,_,rfl,SqL.of h.tl,λp hp=>?_⟩
  rw [aol,aj0]
  have s1:aP H (upd H p (.lst (nts (r.told.take n)))):=aT hp
  simp! [s1 _ _ h.ra]
  refine ⟨A.tl,_,rfl,SqL.of (s1 _ _ h.tl),λp2 hp2=>?_⟩
  rw [akh,ak2]
  obtain ⟨H2,hH2⟩:∃ H2,H2=upd (upd H p (.lst (nts (r.told.take n)))) p2 (.lst (nts (r.told.drop n))):=⟨_,rfl⟩
  rw [<-hH2]
  have s2:aP (upd H p (.lst (nts (r.told.take n)))) H2:=by rw [hH2];exact aT hp2
  have s12:=s1.trans s2
  have p2n:H p2=none:=s1.free hp2
  have h2:=h.same s12
  simp! [h2.ra]
  have pra:A.ra≠p:=ao h.ra hp
  have p2ra:A.ra≠p2:=ao h.ra p2n
  have pp2:p≠p2:=by intro e;subst e;rw [ay] at hp2;cases hp2
  have pH2:H2 p=some (.lst (nts (r.told.take n))):=s2 _ _ ay
  have p2H2:H2 p2=some (.lst (nts (r.told.drop n))):=by rw [hH2,ay]
  refine len (xs:=nts (r.told.take n)) (by rw [aq (Ne.symm pra)];exact pH2) ?_
  simp!
  refine ⟨by decide,λp3 hp3=>?_⟩
  obtain ⟨H3,hH3⟩:∃ H3,H3=upd H2 A.ra (.ins t.aV A.dx (bF (.ref A.pa) (.ref A.na) (.ref A.la) (.int (M λi=>i∈r.isIn)) (.bl r.over) (.ref A.rl) (.int ((0:Nat):Int)) (.ref p2))):=⟨_,rfl⟩
  rw [show upd H2 A.ra (.ins t.aV A.dx (bF (.ref A.pa) (.ref A.na) (.ref A.la) (.int (M λi=>i∈r.isIn)) (.bl r.over) (.ref A.rl) (.int ((0:Nat):Int)) (.ref p2)))=H3 from hH3.symm] at hp3 ⊢
  have k3:∀ b o,b≠A.ra->H2 b=some o->H3 b=some o:=λb o n e=>by rw [hH3,aq n];exact e
  have p3p:p≠p3:=ao (k3 p _ (Ne.symm pra) pH2) hp3
  refine ⟨p3,p,[.int ((nts (r.told.take n)).length:Nat)],nts (r.told.take n),rfl,rfl,ay,by rw [aq p3p];exact k3 p _ (Ne.symm pra) pH2,by simp [dJ];omega,λp4 hp4=>?_⟩
  have sF:aP H3 (upd (upd H3 p3 (.lst [.int ((nts (r.told.take n)).length:Nat)])) p4 (.lst ([.int ((nts (r.told.take n)).length:Nat)]++nts (r.told.take n)))):=(aT hp3).trans (aT hp4)
  have p4H3:H3 p4=none:=(aT hp3).free hp4
  have p4H2:H2 p4=none:=by
   cases e:H2 p4 with
   | none=>rfl
   | some o=>
    by_cases y:p4=A.ra
    ·rw [y,hH3,ay] at p4H3;cases p4H3
    ·rw [k3 p4 o y e] at p4H3;cases p4H3
  have p4H:H p4=none:=s12.free p4H2
  obtain ⟨m1,m2,m3,m4⟩:=h.nes
  have ap:=h.ap
  obtain ⟨al,b1,b2⟩:=h.rl
  have Sp2:S p2=none:=h.st.free p2n
  refine q _ { A with tl:=p2 } p4 ⟨rfl,λa ha=>?_,λa o e nn=>?_⟩ p4H (λha=>?_) ⟨⟨λa o e=>?_,h.pl,sF _ _ (by rw [hH3,ay]),sF _ _ (k3 _ _ (Ne.symm m1) (s12 _ _ h.na)),sF _ _ ?_,⟨al,sF _ _ (k3 _ _ (Ne.symm m3) (s12 _ _ b1)),b2⟩,sF _ _ (k3 _ _ (Ne.symm p2ra) p2H2),⟨ap.ra,ap.na,ap.la,ap.rl,Sp2,ap.n1,ap.n2,ao h.na p2n,ap.n4,ao h.la p2n,ao b1 p2n⟩,⟨h.ok.nl,h.ok.ii,h.ok.so,h.ok.kp⟩,?_⟩,⟨inv.i1,inv.i2,inv.ne⟩⟩ ?_
  ·rcases ha with e | e | e | e | e
   ·exact .inl (.inl e)
   ·exact .inl (.inr (.inl e))
   ·exact .inl (.inr (.inr (.inl e)))
   ·exact .inl (.inr (.inr (.inr (.inl e))))
   ·exact .inr (by rw [show a=p2 from e];exact p2n)
  ·exact sF _ _ (k3 _ _ (λz=>nn (.inl z)) (s12 _ _ e))
  ·rcases ha with e | e | e | e | e
   ·rw [show p4=A.ra from e,h.ra] at p4H;cases p4H
   ·rw [show p4=A.na from e,h.na] at p4H;cases p4H
   ·rw [show p4=A.la from e,h.la] at p4H;cases p4H
   ·rw [show p4=A.rl from e,b1] at p4H;cases p4H
   ·rw [show p4=p2 from e,p2H2] at p4H2;cases p4H2
  ·exact sF _ _ (k3 _ _ (ao e ap.ra) (s12 _ _ (h.st _ _ e)))
  ·rw [k3 _ _ (Ne.symm m2) (s12 _ _ h.la)];exact ldm rfl
  ·show (r.told.drop n).length<=_
   rw [List.length_drop];omega
  ·rw [ay,dJ]
   unfold nts
   rw [List.map_cons,List.map_map];rfl
 ·have er:Rc42.room_ m=0:=by unfold Rc42.room_;rw [if_neg z]
  rw [er] at q
  have fin6:1<=sizeLine/\∀ p,H p=none->Q (.ref p) (upd H p (.lst [.int 0])):=by
   refine ⟨by decide,λp hp=>?_⟩
   have s1:aP H (upd H p (.lst [.int 0])):=aT hp
   refine q _ A p ⟨rfl,λa h=>.inl h,λa o e _=>s1 a o e⟩ hp (yw h hp) ?_ (by rw [ay];rfl)
   exact ⟨h.same s1,inv⟩
  by_cases m1:1<=m
  ·simp! [m1,show ¬m<=65536 by omega,not_false_eq_true]
   exact fin6
  ·simp! [m1]
   exact fin6
section
variable {lb:Addr->Lb} {H H':Hp} (k:∀ a o,H a=some o->(lb a≠.no\/∀ xs,o≠.lst xs)->H' a=some o)
include k
theorem gG.Nr {l:Addr} {as:List Rc42.Act} (h:gG H l as) (hl:lb l≠.no):gG H' l as:=let ⟨ts,a,b,d⟩:=h;⟨ts,k _ _ a (.inl hl),b,λi x y h1 h2=>k _ _ (d i x y h1 h2) (.inr (by simp))⟩
theorem ChL.Nr {sl wl:Addr} {ss ws:List Addr} {c:Rc42.Chart} (h:ChL t lb H sl wl ss ws c):ChL t lb H' sl wl ss ws c where
 s1:=k _ _ h.s1 (.inl (by rw [h.s4];simp))
 s2:=h.s2
 s3:=λi s a h1 h2=>let ⟨dx,ca,la,x1,x2,x3,x4,x5,x6⟩:=h.s3 i s a h1 h2;⟨dx,ca,la,k _ _ x1 (.inr (by simp)),x2.Nr k (by rw [x5];simp),x3.Nr k (by rw [x6];simp),x4,x5,x6⟩
 s4:=h.s4
 w1:=k _ _ h.w1 (.inl (by rw [h.w4];simp))
 w2:=h.w2
 w3:=λj w a h1 h2=>let ⟨dx,wa,x1,x2,x3,x4⟩:=h.w3 j w a h1 h2;⟨dx,wa,k _ _ x1 (.inr (by simp)),x2.Nr k (by rw [x4];simp),x3,x4⟩
 w4:=h.w4
end
theorem xK.Nr {F:Addr->Prop} {H H':Hp} {ca:Addr} {c:Rc42.Chart} (h:xK t F H ca c) (k:∀ a o,H a=some o->(F a\/∀ xs,o≠.lst xs)->H' a=some o):xK t F H' ca c:=by
 obtain ⟨lb,dx,sl,wl,ss,ws,h,h1,h2⟩:=h
 exact ⟨lb,dx,sl,wl,ss,ws,⟨k _ _ h.at_ (.inr (by simp)),h.wf,h.ch.Nr λa o e z=>k a o e (z.imp (h2 a) id)⟩,h1,h2⟩
theorem xK.same {F:Addr->Prop} {H H':Hp} {ca:Addr} {c:Rc42.Chart} (h:xK t F H ca c) (e:aP H H'):xK t F H' ca c:=h.Nr λa o z _=>e a o z
theorem xK.own {F:Addr->Prop} {H:Hp} {ca:Addr} {c:Rc42.Chart} (h:xK t F H ca c):F ca:=by
 obtain ⟨lb,dx,sl,wl,ss,ws,h,h1,h2⟩:=h
 exact h2 ca (by rw [h1];simp)
theorem xK.trim {F:Addr->Prop} {H:Hp} {ca:Addr} {c:Rc42.Chart} (h:xK t F H ca c):xK t (λa=>F a/\H a≠none) H ca c:=by
 classical
 obtain ⟨lb,dx,sl,wl,ss,ws,h,h1,h2⟩:=h
 obtain ⟨lb',e⟩:∃ lb':Addr->Lb,∀ a,lb' a=if H a=none then .no else lb a:=⟨_,λ_=>rfl⟩
 have old:∀ b o,H b=some o->lb' b=lb b:=λb o z=>by rw [e,if_neg (by rw [z];simp)]
 refine ⟨lb',dx,sl,wl,ss,ws,⟨h.at_,h.wf,⟨h.ch.s1,h.ch.s2,λi s a g1 g2=>(h.ch.s3 i s a g1 g2).Sn old,by rw [old _ _ h.ch.s1];exact h.ch.s4,h.ch.w1,h.ch.w2,λj w a g1 g2=>(h.ch.w3 j w a g1 g2).Sn old,by rw [old _ _ h.ch.w1];exact h.ch.w4⟩⟩,by rw [old _ _ h.at_];exact h1,λa n=>?_⟩
 rw [e] at n
 split at n
 ·exact absurd rfl n
 ·rename_i z
  exact ⟨h2 a n,z⟩
theorem RI {p a:Addr} {H:Hp} (h:H a=none):wo p H a=none:=by unfold wo;split;rfl;exact h
def Wd (t:Adr) (F:Addr->Prop) (H:Hp) (ca tl:Addr) (s:Rc42.Abs):Prop:=(s.run=none/\xK t F H ca s.chart) \/
 ∃ r S A dx x y,s.run=some r/\H ca=some (.ins t.aE dx (bM x y (.ref A.ra)))/\¬A.has ca/\F ca/\(∀ a,A.has a->F a)/\S tl=none/\Rest t S H A s.chart r
theorem cu.nhs {S H:Hp} {A:RA} {c:Rc42.Chart} {r:Rc42.Run} {hd T R:Nat} {H':Hp} (h:cu t S H A c r hd T R) (k:aP S H') (k2:∀ a o,H a=some o->A.has a->H' a=some o):cu t S H' A c r hd T R:=
 ⟨k,h.pl,k2 _ _ h.ra (.inl rfl),k2 _ _ h.na (.inr (.inl rfl)),k2 _ _ h.la (.inr (.inr (.inl rfl))),let ⟨al,a,b⟩:=h.rl;⟨al,k2 _ _ a (.inr (.inr (.inr (.inl rfl)))),b⟩,k2 _ _ h.tl (.inr (.inr (.inr (.inr rfl)))),h.ap,h.ok,h.bt⟩
theorem Wd.same {F:Addr->Prop} {H H':Hp} {ca tl:Addr} {s:Rc42.Abs} (h:Wd t F H ca tl s) (e:aP H H'):Wd t F H' ca tl s:=by
 rcases h with ⟨a,b⟩ | ⟨r,S,A,dx,x,y,a,b,d,f,g,k,l,m⟩
 ·exact .inl ⟨a,b.same e⟩
 ·exact .inr ⟨r,S,A,dx,x,y,a,e _ _ b,d,f,g,k,l.same e,m⟩
theorem Wd.put {F:Addr->Prop} {H:Hp} {ca tl:Addr} {s:Rc42.Abs} {xs ys:List V} (h:Wd t F H ca tl s) (ht:H tl=some (.lst xs)) (hF:¬F tl):Wd t F (upd H tl (.lst ys)) ca tl s:=by
 rcases h with ⟨a,b⟩ | ⟨r,S,A,dx,x,y,a,b,d,f,g,k,l,m⟩
 ·refine .inl ⟨a,b.Nr λa o e z=>?_⟩
  have:a≠tl:=λq=>by
   subst q
   rcases z with z | z
   ·exact hF z
   ·rw [ht] at e;cases e;exact z _ rfl
  rw [aq this];exact e
 ·refine .inr ⟨r,S,A,dx,x,y,a,by rw [aq (fL b ht (by simp))];exact b,d,f,g,k,l.nhs (λa o e=>?_) λa o e z=>?_,m⟩
  ·rw [aq (ao e k)];exact l.st a o e
  ·rw [aq (λq=>by subst q;exact hF (g _ z))];exact e
inductive Bld:Int->List Int->Rc42.Call->Prop
 | state (a b:Int):Bld 1 [a,b] (.state a b)
 | begins (a b:Int):Bld 2 [a,b] (.begins a b)
 | way (a b c:Int):Bld 3 [a,b,c] (.way a b c)
 | guard (a b c d:Int):Bld 4 [a,b,c,d] (.guard a b c d)
 | act (a b c d:Int) (h:w32 d):Bld 5 [a,b,c,d] (.act a b c d)
 | on (a b c d e:Int) (h:w32 e):Bld 6 [a,b,c,d,e] (.onState a b c d e)
def aaR (t:Adr):Sp:=λvs H Q _=>∃ ca p g as q,vs=[.ref ca,.int p,.ref g]/\H g=some (.lst (as.map V.int))/\Bld p as q/\told t ca q H Q
theorem amE {Sp:Sps} (T:Txt K mg t) (g1:Sp.kE=TM t) (g2:Sp.jr=OY t) (g3:Sp.qP=agC t) (g4:Sp.kW=S3 t) (g5:Sp.qH=agg t) (g6:Sp.vF=akR t) {vs H Q E} (h:aaR t vs H Q E):agO K t Sp (fin Q) (L2.start ["chart","call","given"] vs) H:=by
 obtain ⟨ca,p,g,as,q,rfl,hg,hb,h⟩:=h
 have h0:=h
 obtain ⟨F,c,⟨lb,dx,sl,wl,ss,ws,hc,_⟩,_⟩:=h
 have ha:=hc.at_
 unfold agO
 cases hb with
 | state a b=>
  simp? [ha,g1]
  refine ix hg rfl rfl ?_
  refine ix hg rfl rfl ?_
  exact ⟨ca,a,b,rfl,h0⟩
 | begins a b=>
  simp? [ha,g2,Int.reduceEq]
  refine ix hg rfl rfl ?_
  refine ix hg rfl rfl ?_
  exact ⟨ca,a,b,rfl,h0⟩
 | way a b d=>
  simp? [ha,g3,Int.reduceEq]
  refine ix hg rfl rfl ?_
  refine ix hg rfl rfl ?_
  refine ix hg rfl rfl ?_
  exact ⟨ca,a,b,d,rfl,h0⟩
 | guard a b d e=>
  simp? [ha,g4,Int.reduceEq]
  refine ix hg rfl rfl ?_
  refine ix hg rfl rfl ?_
  refine ix hg rfl rfl ?_
  refine ix hg rfl rfl ?_
  exact ⟨ca,a,b,d,e,rfl,h0⟩
 | act a b d e h5=>
  simp? [ha,g5,Int.reduceEq]
  refine ix hg rfl rfl ?_
  refine ix hg rfl rfl ?_
  refine ix hg rfl rfl ?_
  refine ix hg rfl rfl ?_
  exact ⟨ca,a,b,d,e,rfl,h5,h0⟩
 | on a b d e f h5=>
  simp? [ha,g6,Int.reduceEq]
  refine ix hg rfl rfl ?_
  refine ix hg rfl rfl ?_
  refine ix hg rfl rfl ?_
  refine ix hg rfl rfl ?_
  refine ix hg rfl rfl ?_
  exact ⟨ca,a,b,d,e,f,rfl,h5,h0⟩
theorem Gz {c:Rc42.Chart} (h:mL c=true):Rc42.does { chart:=c } .start=({ chart:=c },⟨-1,[]⟩):=by
 have e:(if mL c=true then (({ chart:=c },Rc42.refused):Rc42.Abs×Rc42.Ans) else Rc42.goes { chart:=c } (Rc42.settle c Rc42.STEPS (lM c)))=({ chart:=c },⟨-1,[]⟩):=by rw [if_pos h];rfl
 exact e
theorem Ef {c:Rc42.Chart} (h:mL c=false):Rc42.does { chart:=c } .start=({ chart:=c,run:=some (Rc42.settle c 1000 (lM c)).1 },⟨((Rc42.settle c 1000 (lM c)).2:Nat),[]⟩):=by
 have e:(if mL c=true then (({ chart:=c },Rc42.refused):Rc42.Abs×Rc42.Ans) else Rc42.goes { chart:=c } (Rc42.settle c Rc42.STEPS (lM c)))=({ chart:=c,run:=some (Rc42.settle c 1000 (lM c)).1 },⟨((Rc42.settle c 1000 (lM c)).2:Nat),[]⟩):=by rw [if_neg (by rw [h];simp)];rfl
 exact e
def M1 (t:Adr):Sp:=λvs H Q _=>∃ ca F c tl xs,vs=[.ref ca]/\xK t F H ca c/\¬F tl/\H tl=some (.lst xs)/\∀ F' H',Wd t F' H' ca tl (Rc42.does { chart:=c } .start).1->Nxt F H F' H'->Q (.int (Rc42.does { chart:=c } .start).2.value) H'
theorem anv {H:Hp} {Q:VK} {E:XK} {ca tl:Addr} {F:Addr->Prop} {c:Rc42.Chart} {xs:List V} (h:xK t F H ca c) (hF:¬F tl) (ht:H tl=some (.lst xs)) (q:∀ F' H',Wd t F' H' ca tl (Rc42.does { chart:=c } .start).1->Nxt F H F' H'->Q (.int (Rc42.does { chart:=c } .start).2.value) H'):M1 t [.ref ca] H Q E:=⟨ca,F,c,tl,xs,rfl,h,hF,ht,q⟩
theorem aef {H:Hp} {Q:VK} {E:XK} {ca:Addr} {c:Rc42.Chart} (h:ChI t H ca c) (q:∀ H',aP H H'->Q (.bl (!mL c)) H'):tW t [.ref ca] H Q E:=⟨ca,c,rfl,h,q⟩
theorem ak4 {Sp:Sps} (T:Txt K mg t) (g1:Sp.fP=tW t) (g2:Sp.wc=HQ t) (g3:Sp.qD=t9 t) {vs H Q E} (h:M1 t vs H Q E):abb K t Sp (fin Q) (L2.start ["chart"] vs) H:=by
 obtain ⟨ca,F,c,tl,xs,rfl,hI,hF,ht,q⟩:=h
 have Fca:=hI.own
 obtain ⟨lb,dx,sl,wl,ss,ws,hc,hl1,hl2⟩:=id hI
 have wf:=hc.wf
 have n1:t.bA≠t.aE:=Oh T.p9 T.p8 T.jK T.ie (by decide)
 have n2:t.eV≠t.aE:=Oh T.Hj T.p8 T.mR T.ie (by decide)
 have n3:t.bz≠t.aE:=Oh T.yG T.p8 T.kX T.ie (by decide)
 unfold abb
 refine eO ?_
 simp_arith [hc.at_,g1]
 refine aef hI.chI λH1 s1=>?_
 cases ns:mL c with
 | true=>
  simp_arith
  rw [Gz ns] at q
  exact q F H1 (.inl ⟨rfl,hI.same s1⟩) ⟨λa h=>.inl h,λa o e _=>s1 a o e⟩
 | false=>
  rw [Ef ns] at q
  simp_arith [Bool.not_false,Bool.true_eq_false]
  refine eO ?_
  simp_arith [g2]
  have ca1:=s1 _ _ hc.at_
  have tl1:=s1 _ _ ht
  have cat:ca≠tl:=λe=>hF (e▸Fca)
  intro y dy hy hdy _
  have sy0:∀ u v,aP H1 (upd (upd H1 dy u) y v):=λu v a o z=>by rw [aq (ao z hy),aq (ao z hdy)];exact z
  have hI0:xK t F (wo tl H1) ca c:=(hI.same s1).Nr λa o e z=>iB e λw=>by
   subst w
   rcases z with z | z
   ·exact hF z
   ·rw [tl1] at e;cases e;exact z _ rfl
  refine ⟨y,dy,ca,c,wo tl H1,rfl,ay,RI hy,λa o e=>sy0 _ _ a o (lB a o e),hI0.chI,⟨wf,ns⟩,λH2 S A era run sm own bt plp=>⟨rfl,?_⟩⟩
  have s12:aP H1 H2:=λa o z=>bt a o (ao z hy) (sy0 _ _ a o z)
  have ca2:=s12 _ _ ca1
  have tl2:=s12 _ _ tl1
  have nh:∀ a,A.has a->H1 a=none:=λa ha=>by
   rcases own a ha with e | e
   ·rw [e];exact hy
   ·exact (sy0 _ _).free e
  have nca:¬A.has ca:=λz=>by have:=nh _ z;rw [ca1] at this;cases this
  simp_arith [ca2]
  obtain ⟨G,hG⟩:∃ G,G=upd H2 ca (HO.ins t.aE dx (bM (V.ref sl) (V.ref wl) (V.ref y))):=⟨_,rfl⟩
  rw [<-hG]
  have xg:G ca=some (HO.ins t.aE dx (bM (V.ref sl) (V.ref wl) (V.ref y))):=by rw [hG,ay]
  have bg:But ca H2 G:=λa o n e=>by rw [hG,aq n];exact e
  obtain ⟨S',hS'⟩:∃ S',S'=wo ca (wo tl S):=⟨_,rfl⟩
  have pl':lZ t S' A.pa c:=by
   rw [hS']
   refine (plp tl (by rw [sy0 _ _ _ _ tl1];simp) xN (ao tl1 hy)).keep (C:=t.aE) (λa u z n=>iB z λe=>?_) n1 n2 n3
   have:=run.st _ _ (lB _ _ z)
   rw [e,ca2] at this
   cases this
   exact n _ _ rfl
  have run':cu t S' G A c {} 0 0 0:=by
   have ap:=run.ap
   have k2:∀ a o,H2 a=some o->A.has a->G a=some o:=λa o e z=>bg a o (λw=>nca (w▸z)) e
   have sn:∀ {a},S a=none->S' a=none:=λe=>by rw [hS'];exact RI (RI e)
   have st:aP S' G:=λa o e=>by
    rw [hS'] at e
    have e2:=lB _ _ e
    exact bg a o (λw=>by rw [w,xN] at e;cases e) (run.st _ _ (lB _ _ e2))
   exact ⟨st,pl',k2 _ _ run.ra (.inl rfl),k2 _ _ run.na (.inr (.inl rfl)),k2 _ _ run.la (.inr (.inr (.inl rfl))),let ⟨al,a,b⟩:=run.rl;⟨al,k2 _ _ a (.inr (.inr (.inr (.inl rfl)))),b⟩,k2 _ _ run.tl (.inr (.inr (.inr (.inr rfl)))),⟨sn ap.ra,sn ap.na,sn ap.la,sn ap.rl,sn ap.tl,ap.n1,ap.n2,ap.n3,ap.n4,ap.n5,ap.n6⟩,run.ok,run.bt⟩
  subst era
  simp_arith [xg,g3,run'.ra]
  refine afV run' λH3 A' rn rest=>?_
  have oG:∀ a o,H a=some o->a≠ca->G a=some o:=λa o e n=>bg a o n (s12 _ _ (s1 _ _ e))
  refine q (λa=>a=ca\/A'.has a) H3 (.inr ⟨_,S',A',dx,.ref sl,.ref wl,rfl,?_,?_,.inl rfl,λa z=>.inr z,by rw [hS'];exact RI xN,rest⟩) ⟨λa z=>?_,λa o e n=>?_⟩
  ·rw [rn.ra];exact rn.stay _ _ xg nca
  ·intro z
   rcases rn.own _ z with z | z
   ·exact nca z
   ·rw [xg] at z;cases z
  ·rcases z with z | z
   ·exact .inl (z▸Fca)
   ·rcases rn.own _ z with z | z
    ·exact .inr (s1.free (nh _ z))
    ·cases e:H a with
     | none=>exact .inr rfl
     | some o=>
      by_cases w:a=ca
      ·exact .inl (w▸Fca)
      ·rw [oG a o e w] at z;cases z
  ·have w:a≠ca:=λw=>n (w▸Fca)
   exact rn.stay _ _ (oG a o e w) λz=>by have:=s1.free (nh _ z);rw [e] at this;cases this
inductive VW:Int->Int->Rc42.Call->Prop
 | send (a:Int):VW 8 a (.send a)
 | isIn (a:Int):VW 9 a (.isIn a)
 | number (a:Int):VW 10 a (.number a)
 | take (a:Int):VW 11 a (.take a)
def abY (t:Adr):Sp:=λvs H Q _=>∃ S A c r g p x q,vs=[.ref A.ra,.int p,.ref g]/\H g=some (.lst [.int x])/\Rest t S H A c r/\VW p x q /\
 ∀ H' A' l r',RNx A A' H H'->Rest t S H' A' c r'->(A.has l\/H l=none)->(Rc42.does ⟨c,some r⟩ q).1=⟨c,some r'⟩->H' l=some (.lst (((Rc42.does ⟨c,some r⟩ q).2.value::(Rc42.does ⟨c,some r⟩ q).2.numbers).map V.int))->Q (.ref l) H'
theorem apq {S H:Hp} {Q:VK} {E:XK} {A:RA} {c:Rc42.Chart} {r:Rc42.Run} {g:Addr} {p x:Int} {q:Rc42.Call} (hg:H g=some (.lst [.int x])) (h:Rest t S H A c r) (hq:VW p x q)
  (k:∀ H' A' l r',RNx A A' H H'->Rest t S H' A' c r'->(A.has l\/H l=none)->(Rc42.does ⟨c,some r⟩ q).1=⟨c,some r'⟩->H' l=some (.lst (((Rc42.does ⟨c,some r⟩ q).2.value::(Rc42.does ⟨c,some r⟩ q).2.numbers).map V.int))->Q (.ref l) H'):abY t [.ref A.ra,.int p,.ref g] H Q E:=⟨S,A,c,r,g,p,x,q,rfl,hg,h,hq,k⟩
theorem XJ {c:Rc42.Chart} {r:Rc42.Run} {e:Int}:Rc42.does ⟨c,some r⟩ (.send e)=(⟨c,some (rP c r e).1⟩,⟨(rP c r e).2,[]⟩):=by
 have z:(if e < 1\/255 < e then ((⟨c,some r⟩,Rc42.refused):Rc42.Abs×Rc42.Ans) else if r.over=true then (⟨c,some r⟩,{ value:=-5 }) else if Rc42.CALM < r.told.length then (⟨c,some r⟩,Rc42.full) else Rc42.goes ⟨c,some r⟩ (Rc42.settle c Rc42.STEPS (Rc42.step c r (Rc42.agreed c r (Rc42.taken c r e.toNat)))))=(⟨c,some (rP c r e).1⟩,⟨(rP c r e).2,[]⟩):=by
  unfold rP
  by_cases h1:e < 1\/255 < e
  ·rw [if_pos h1,if_pos h1];rfl
  ·rw [if_neg h1,if_neg h1]
   by_cases h2:r.over=true
   ·rw [if_pos h2,if_pos h2]
   ·rw [if_neg h2,if_neg h2]
    by_cases h3:65536 < r.told.length
    ·rw [if_pos h3,if_pos (show Rc42.CALM < _ from h3)];rfl
    ·rw [if_neg h3,if_neg (show ¬Rc42.CALM < _ from h3)];rfl
 exact z
theorem XD {c:Rc42.Chart} {r:Rc42.Run} {i:Int}:Rc42.does ⟨c,some r⟩ (.isIn i)=(⟨c,some r⟩,⟨if Rc42.isState c i=false then -1 else ((r.isIn.contains i.toNat).toNat:Nat),[]⟩):=by
 have z:(if Rc42.isState c i=false then ((⟨c,some r⟩,Rc42.refused):Rc42.Abs×Rc42.Ans) else (⟨c,some r⟩,{ value:=((r.isIn.contains i.toNat).toNat:Nat) }))=(⟨c,some r⟩,⟨if Rc42.isState c i=false then -1 else ((r.isIn.contains i.toNat).toNat:Nat),[]⟩):=by
  by_cases h:Rc42.isState c i=false
  ·rw [if_pos h,if_pos h];rfl
  ·rw [if_neg h,if_neg h]
 exact z
theorem Qu {c:Rc42.Chart} {r:Rc42.Run} {k:Int}:(Rc42.does ⟨c,some r⟩ (.number k)).1=⟨c,some r⟩/\(Rc42.does ⟨c,some r⟩ (.number k)).2.value::(Rc42.does ⟨c,some r⟩ (.number k)).2.numbers=if k < 0\/15 < k then [-1] else [0,r.numbers.getD k.toNat 0]:=by
 have z:Rc42.does ⟨c,some r⟩ (.number k)=(if k < 0\/15 < k then ((⟨c,some r⟩,Rc42.refused):Rc42.Abs×Rc42.Ans) else (⟨c,some r⟩,{ value:=0,numbers:=[r.numbers.getD k.toNat 0] })):=rfl
 rw [z]
 by_cases h:k < 0\/15 < k
 ·rw [if_pos h,if_pos h];exact ⟨rfl,rfl⟩
 ·rw [if_neg h,if_neg h];exact ⟨rfl,rfl⟩
theorem aoM {Sp:Sps} (T:Txt K mg t) (g1:Sp.vv=RS t) (g2:Sp.qM=NS t) (g3:Sp.mT=Ik t) (g4:Sp.vL=R0 t) {vs H Q E} (h:abY t vs H Q E):akw K t Sp (fin Q) (L2.start ["run","call","given"] vs) H:=by
 obtain ⟨S,A,c,r,g,p,x,q,rfl,hg,hr,hq,k⟩:=h
 have hra:=hr.1.ra
 unfold akw
 cases hq with
 | send=>
  simp? [hra,g1]
  refine ix hg rfl rfl ?_
  refine aom hr λH1 A1 rn re=>?_
  refine ⟨by decide,λl hl=>?_⟩
  rw [XJ] at k
  have sl:aP H1 (upd H1 l (.lst [.int (rP c r x).2])):=aT hl
  refine k _ A1 l _ ⟨rn.ra,rn.own,λa o e n=>sl _ _ (rn.stay a o e n)⟩ ⟨re.1.same sl,re.2⟩ ?_ rfl ay
  by_cases z:A.has l
  ·exact .inl z
  ·cases e:H l with
   | none=>exact .inr rfl
   | some o=>have:=rn.stay l o e z;rw [hl] at this;cases this
 | isIn=>
  simp? [hra,g2,Int.reduceEq]
  refine ix hg rfl rfl ?_
  refine anq hr ?_
  refine ⟨by decide,λl hl=>?_⟩
  rw [XD] at k
  exact k _ A l _ ⟨rfl,λa h=>.inl h,λa o e _=>aT hl _ _ e⟩ ⟨hr.1.same (aT hl),hr.2⟩ (.inr hl) rfl ay
 | number=>
  simp? [hra,g3,Int.reduceEq]
  refine ix hg rfl rfl ?_
  refine ajO hr λH1 l s1 hl e1=>?_
  have dn:=@Qu c r x
  rw [dn.2] at k
  exact k H1 A l r ⟨rfl,λa h=>.inl h,λa o e _=>s1 _ _ e⟩ ⟨hr.1.same s1,hr.2⟩ (.inr hl) dn.1 e1
 | take=>
  simp? [hra,g4,Int.reduceEq]
  refine ix hg rfl rfl ?_
  refine aow hr λH1 A1 l rn hl _ re e1=>?_
  exact k H1 A1 l _ rn re (.inr hl) rfl e1
inductive Cal:Int->List Int->Rc42.Call->Prop
 | init:Cal 0 [] .init
 | start:Cal 7 [] .start
 | bld {p:Int} {as:List Int} {q:Rc42.Call} (h:Bld p as q):Cal p as q
 | ask {p x:Int} {q:Rc42.Call} (h:VW p x q):Cal p [x] q
theorem Bld.rng {p:Int} {as:List Int} {q:Rc42.Call} (h:Bld p as q):1<=p/\p<=6:=by cases h<;>exact ⟨by decide,by decide⟩
theorem VW.rng {p x:Int} {q:Rc42.Call} (h:VW p x q):8<=p/\p<=11:=by cases h<;>exact ⟨by decide,by decide⟩
theorem aeM {p:Int} {as:List Int} {q:Rc42.Call} (h:Bld p as q) {c:Rc42.Chart}:Rc42.does ⟨c,none⟩ q=(⟨(Rc42.build c q).1,none⟩,(Rc42.build c q).2):=by cases h<;>rfl
theorem aeC {p:Int} {as:List Int} {q:Rc42.Call} (h:Bld p as q) {c:Rc42.Chart} {r:Rc42.Run}:Rc42.does ⟨c,some r⟩ q=(⟨c,some r⟩,⟨-3,[]⟩):=by cases h<;>rfl
theorem apK {p:Prop} [Decidable p] {a b:Rc42.Chart×Rc42.Ans} (h:a.2.numbers=[]) (g:b.2.numbers=[]):(ite p a b).2.numbers=[]:=by split<;>assumption
theorem aeD {p:Int} {as:List Int} {q:Rc42.Call} (h:Bld p as q) {c:Rc42.Chart}:(Rc42.build c q).2.numbers=[]:=by
 cases h<;>(unfold Rc42.build;repeat' (first | refine apK ?_ ?_ | rfl))
theorem afN {p x:Int} {q:Rc42.Call} (h:VW p x q) {c:Rc42.Chart}:Rc42.does ⟨c,none⟩ q=(⟨c,none⟩,⟨-4,[]⟩):=by cases h<;>rfl
def Ii (t:Adr):Sp:=λvs H Q _=>∃ ca p g as q F s tl xs,vs=[.ref ca,.int p,.ref g]/\H g=some (.lst (as.map V.int))/\Cal p as q/\Wd t F H ca tl s/\¬F tl/\H tl=some (.lst xs) /\
 ∀ F' H' l,Wd t F' H' ca tl (Rc42.does s q).1->Nxt F H F' H'->(F l\/H l=none)->H' l=some (.lst (((Rc42.does s q).2.value::(Rc42.does s q).2.numbers).map V.int))->Q (.ref l) H'
theorem akO {H:Hp} {Q:VK} {E:XK} {ca tl g:Addr} {p:Int} {as:List Int} {q:Rc42.Call} {F:Addr->Prop} {s:Rc42.Abs} {xs:List V} (hg:H g=some (.lst (as.map V.int))) (hq:Cal p as q) (h:Wd t F H ca tl s) (hF:¬F tl) (ht:H tl=some (.lst xs))
  (k:∀ F' H' l,Wd t F' H' ca tl (Rc42.does s q).1->Nxt F H F' H'->(F l\/H l=none)->H' l=some (.lst (((Rc42.does s q).2.value::(Rc42.does s q).2.numbers).map V.int))->Q (.ref l) H'):Ii t [.ref ca,.int p,.ref g] H Q E:=⟨ca,p,g,as,q,F,s,tl,xs,rfl,hg,hq,h,hF,ht,k⟩
theorem Wd.at_ {F:Addr->Prop} {H:Hp} {ca tl:Addr} {s:Rc42.Abs} (h:Wd t F H ca tl s):F ca/\∃ dx x y z,H ca=some (.ins t.aE dx (bM x y z)):=by
 rcases h with ⟨_,h⟩ | ⟨r,S,A,dx,x,y,_,b,_,f,_⟩
 ·refine ⟨h.own,?_⟩
  obtain ⟨lb,dx,sl,wl,ss,ws,h,_⟩:=h
  exact ⟨_,_,_,_,h.at_⟩
 ·exact ⟨f,_,_,_,_,b⟩
theorem aix {Sp:Sps} (T:Txt K mg t) (g1:Sp.gw=GH t) (g2:Sp.tell=aaR t) (g3:Sp.start=M1 t) (g4:Sp.ask=abY t) {vs H Q E} (h:Ii t vs H Q E):S2 K t Sp (fin Q) (L2.start ["chart","call","given"] vs) H:=by
 obtain ⟨ca,p,g,as,q,F,s,tl,xs,rfl,hg,hq,hw,hF,ht,k⟩:=h
 obtain ⟨Fca,dx,x,y,z,hca⟩:=hw.at_
 have Fl:∀ {F':Addr->Prop} {H1:Hp} {l:Addr},Nxt F H F' H1->H1 l=none->F l\/H l=none:=λ{F' H1 l} nx hl=>by
  by_cases z:F l
  ·exact .inl z
  ·cases e:H l with
   | none=>exact .inr rfl
   | some o=>have:=nx.stay l o e z;rw [hl] at this;cases this
 have nup:∀ {F':Addr->Prop} {H1:Hp} {l:Addr} {o:HO},Nxt F H F' H1->H1 l=none->Nxt F H F' (upd H1 l o):=λ{F' H1 l o} nx hl=>⟨nx.own,λa u e n=>aT hl _ _ (nx.stay a u e n)⟩
 unfold S2
 cases hq with
 | init=>
  simp? [hca,g1]
  refine ail hca (.inr ⟨x,y,z,rfl⟩) λF' H1 hI own bt=>?_
  refine ⟨by decide,λl hl=>?_⟩
  have nx:Nxt F H F' H1:=⟨λa h=>(own a h).imp (λe=>by rw [e];exact Fca) id,λa o e n=>bt a o (λw=>n (w▸Fca)) e⟩
  exact k F' _ l (.inl ⟨rfl,hI.same (aT hl)⟩) (nup nx hl) (Fl nx hl) ay
 | start=>
  rcases hw with ⟨sr,hI⟩ | ⟨r,S,A,dx,x,y,sr,b,nA,f,g,kt,rest⟩
  ·obtain ⟨lb,dx,sl,wl,ss,ws,hc,_⟩:=id hI
   obtain ⟨c,run⟩:=s
   cases sr
   simp? [hc.at_,Int.reduceEq,Int.reduceLT,decide_true,decide_false,Bool.not_true,not_true_eq_false,g3]
   refine anv hI hF ht λF' H1 hw nx=>?_
   refine ⟨by decide,λl hl=>?_⟩
   refine k F' _ l (hw.same (aT hl)) (nup nx hl) (Fl nx hl) ?_
   rw [ay]
   congr 2
   show _=V.int _::List.map V.int _
   congr 1
   cases ns:mL c with
   | true=>rw [show (Rc42.does ⟨c,none⟩ .start)=_ from Gz ns];rfl
   | false=>rw [show (Rc42.does ⟨c,none⟩ .start)=_ from Ef ns];rfl
  ·obtain ⟨c,run⟩:=s
   cases sr
   simp? [b,Int.reduceEq,Int.reduceLT,YD]
   refine ⟨by decide,λl hl=>?_⟩
   exact k F _ l (.inr ⟨r,S,A,dx,x,y,rfl,aT hl _ _ b,nA,f,g,kt,rest.1.same (aT hl),rest.2⟩) (nup (Nxt.refl F H) hl) (.inr hl) ay
 | bld hb=>
  have rg:=hb.rng
  have p0:¬p=0:=by omega
  have p7:¬7 < p:=by omega
  have p7':¬p=7:=by omega
  rcases hw with ⟨sr,hI⟩ | ⟨r,S,A,dx,x,y,sr,b,nA,f,g,kt,rest⟩
  ·obtain ⟨lb,dx,sl,wl,ss,ws,hc,_⟩:=id hI
   obtain ⟨c,run⟩:=s
   cases sr
   rw [aeM hb] at k
   simp? [hc.at_,p0,p7,p7',decide_true,decide_false,Bool.not_true,g2]
   refine ⟨ca,p,g,as,q,rfl,hg,hb,F,c,hI,λF' H1 hI' nx=>?_⟩
   refine ⟨by decide,λl hl=>?_⟩
   refine k F' _ l (.inl ⟨rfl,hI'.same (aT hl)⟩) (nup nx hl) (Fl nx hl) ?_
   rw [ay,aeD hb];rfl
  ·obtain ⟨c,run⟩:=s
   cases sr
   rw [aeC hb] at k
   simp? [b,p0,p7,p7',YD]
   refine ⟨by decide,λl hl=>?_⟩
   exact k F _ l (.inr ⟨r,S,A,dx,x,y,rfl,aT hl _ _ b,nA,f,g,kt,rest.1.same (aT hl),rest.2⟩) (nup (Nxt.refl F H) hl) (.inr hl) ay
 | @ask p x q hb=>
  have rg:=hb.rng
  have p0:¬p=0:=by omega
  have p7:7 < p:=by omega
  rcases hw with ⟨sr,hI⟩ | ⟨r,S,A,dx,x,y,sr,b,nA,f,g,kt,rest⟩
  ·obtain ⟨lb,dx,sl,wl,ss,ws,hc,_⟩:=id hI
   obtain ⟨c,run⟩:=s
   cases sr
   rw [afN hb] at k
   simp? [hc.at_,p0,p7,decide_true]
   refine ⟨by decide,λl hl=>?_⟩
   exact k F _ l (.inl ⟨rfl,hI.same (aT hl)⟩) (nup (Nxt.refl F H) hl) (.inr hl) ay
  ·obtain ⟨c,run⟩:=s
   cases sr
   simp? [b,p0,p7,YD,g4]
   refine apq (E:=E0) hg rest hb λH1 A1 l r' rn re hl e1 e2=>?_
   have e0:(Rc42.does ⟨c,some r⟩ q).1=⟨c,some r'⟩:=e1
   have nca:¬A1.has ca:=λz=>by
    rcases rn.own _ z with z | z
    ·exact nA z
    ·rw [b] at z;cases z
   refine k (λa=>F a\/A1.has a) H1 l ?_ ⟨λa h=>?_,λa o e n=>rn.stay a o e λz=>n (g a z)⟩ (hl.imp (g l) id) e2
   ·rw [e0]
    exact .inr ⟨r',S,A1,dx,x,y,rfl,by rw [rn.ra];exact rn.stay _ _ b nA,nca,.inl f,λa z=>.inr z,kt,re⟩
   ·rcases h with h | h
    ·exact .inl h
    ·exact (rn.own a h).imp (g a) id
inductive Dec:List Int->List (List (List Int))->Prop
 | nil:Dec [] []
 | cons {p:Int} {as r:List Int} {cs:List (List (List Int))} (h:Dec r cs):Dec (p::(as++r)) ([p::as]::cs)
theorem an9 {p:Int} {n k:Nat} (h:PyRc42.shape p=some (n,k)):k=0:=by
 unfold PyRc42.shape at h
 repeat' split at h
 all_goals first | (injection h with h;injection h with _ h;exact h.symm) | cases h
theorem anU:∀ (f:Nat) (l:List Int) (cs:List (List (List Int))),PyFlat.calls PyRc42.shape f l=some cs->Dec l cs:=by
 intro f
 induction f with
 | zero=>
  intro l cs h
  cases l with
  | nil=>unfold PyFlat.calls at h;cases h;exact .nil
  | cons p r=>unfold PyFlat.calls at h;cases h
 | succ f ih=>
  intro l cs h
  cases l with
  | nil=>unfold PyFlat.calls at h;cases h;exact .nil
  | cons p r=>
   unfold PyFlat.calls at h
   split at h
   ·cases h
   ·rename_i c u e
    split at h
    ·cases h
    ·rename_i cs' e2
     cases h
     cases es:PyRc42.shape p with
     | none=>simp only [PyFlat.call,es] at e;cases e
     | some nk=>
      obtain ⟨n,k⟩:=nk
      have:=an9 es
      subst this
      simp only [PyFlat.call,es,PyFlat.rows] at e
      split at e
      ·cases e
      ·rename_i hl
       cases e
       have:=ih _ _ e2
       have q:Dec (p::(r.take n++r.drop n)) ([p::r.take n]::cs'):=.cons this
       rwa [List.take_append_drop] at q
theorem aj4 (c:List (List Int)):PyRc42.whole c=c:=by
 rcases c with _ | ⟨_ | ⟨p,as⟩,l⟩
 ·rfl
 ·rfl
 rcases p with n | n
 ·rcases n with _ | _ | _ | _ | _ | _ | _ | _ | _ | _ | _ | _ | n<;>first | rfl | (rcases as with _ | ⟨a,_ | ⟨b,_ | ⟨c,_ | ⟨d,_ | ⟨e,_ | ⟨f,as⟩⟩⟩⟩⟩⟩<;>first | rfl | (cases l<;>rfl))
 ·rfl
theorem ajk {l:List Int} {cs:List (List (List Int))} (h:PyRc42.calls l=some cs):Dec l cs:=by
 unfold PyRc42.calls at h
 split at h
 ·cases h
 ·rename_i cs' e
  cases h
  rw [show PyRc42.whole=id from funext aj4,List.map_id]
  exact anU _ _ _ e
theorem akr {z:Int} (h:Rc42Neutral.whole32 z=true):w32 z:=by
 unfold Rc42Neutral.whole32 at h
 simp at h
 exact ⟨by omega,by omega⟩
theorem an5 {p:Int} {as:List Int} (h:Rc42Neutral.asked1 [p::as]=true):∃ q,Rc42Neutral.callOf [p::as]=some q/\Cal p as q:=by
 rcases p with n | n
 rcases n with _ | _ | _ | _ | _ | _ | _ | _ | _ | _ | _ | _ | n<;>first | (exact Bool.noConfusion (show false=true from h)) | (rcases as with _ | ⟨a,_ | ⟨b,_ | ⟨c,_ | ⟨d,_ | ⟨e,_ | ⟨f,as⟩⟩⟩⟩⟩⟩<;>first | (exact Bool.noConfusion (show false=true from h)) | skip)
 all_goals try exact Bool.noConfusion (show false=true from h)
 ·exact ⟨_,rfl,.init⟩
 ·exact ⟨_,rfl,.bld (.state _ _)⟩
 ·exact ⟨_,rfl,.bld (.begins _ _)⟩
 ·exact ⟨_,rfl,.bld (.way _ _ _)⟩
 ·exact ⟨_,rfl,.bld (.guard _ _ _ _)⟩
 ·have h:(_&&(_&&(_&&Rc42Neutral.whole32 d)))=true:=h
  simp only [Bool.and_eq_true] at h
  exact ⟨_,rfl,.bld (.act _ _ _ _ (akr h.2.2.2))⟩
 ·have h:(_&&(_&&(_&&(_&&Rc42Neutral.whole32 e))))=true:=h
  simp only [Bool.and_eq_true] at h
  exact ⟨_,rfl,.bld (.on _ _ _ _ _ (akr h.2.2.2.2))⟩
 ·exact ⟨_,rfl,.start⟩
 ·exact ⟨_,rfl,.ask (.send _)⟩
 ·exact ⟨_,rfl,.ask (.isIn _)⟩
 ·exact ⟨_,rfl,.ask (.number _)⟩
 ·exact ⟨_,rfl,.ask (.take _)⟩
theorem Cal.tab {p:Int} {as:List Int} {q:Rc42.Call} (h:Cal p as q):Ci.lookup p=some (as.length:Nat):=by
 cases h with
 | init=>rfl
 | start=>rfl
 | bld h=>cases h<;>rfl
 | ask h=>cases h<;>rfl
theorem Cal.size {p:Int} {as:List Int} {q:Rc42.Call} (h:Cal p as q) (s:Rc42.Abs):(Rc42.does s q).2.numbers.length<=if p=11 then 65536 else 1:=by
 obtain ⟨c,run⟩:=s
 cases h with
 | init=>exact Nat.zero_le _
 | start=>
  cases run with
  | none=>
   cases ns:mL c with
   | true=>rw [show (Rc42.does ⟨c,none⟩ .start)=_ from Gz ns];exact Nat.zero_le _
   | false=>rw [show (Rc42.does ⟨c,none⟩ .start)=_ from Ef ns];exact Nat.zero_le _
  | some r=>exact Nat.zero_le _
 | bld h=>
  cases run with
  | none=>rw [aeM h,aeD h];exact Nat.zero_le _
  | some r=>rw [aeC h];exact Nat.zero_le _
 | @ask p x q h=>
  cases run with
  | none=>rw [afN h];exact Nat.zero_le _
  | some r=>
   cases h with
   | send=>rw [XJ];exact Nat.zero_le _
   | isIn=>rw [XD];exact Nat.zero_le _
   | number=>
    have e:=(@Qu c r x).2
    have:=congrArg List.length e
    rw [List.length_cons] at this
    rw [if_neg (by decide)]
    split at this<;>simp only [List.length_cons,List.length_nil] at this<;>omega
   | take=>
    rw [if_pos rfl]
    show ((r.told.take (Rc42.room_ x)).map _).length<=_
    rw [List.length_map,List.length_take]
    have:Rc42.room_ x<=65536:=by unfold Rc42.room_;split<;>omega
    omega
def aib (K:W.Frag):L2.Sp:=λvs H Q _=>∃ (a:Addr) (ns:List Int),vs=[.ref a]/\L2.SqL K H a (ns.map L2.V.int)/\ns.length<=30000/\(∀ x∈ns,-2147483648<=x/\x<=2147483647)/\PyRc42.answers_asked ns=true /\
 ∀ (p:Addr) (H':L2.Hp),H' p=some (.lst ((PyRc42.answers ns).map L2.V.int))->Q (.ref p) H'
def am3 (K:W.Frag) (H:Hp) (a tl:Addr) (F:Addr->Prop) (xs:List V):Prop:=(∀ H',SqL K H' a xs)\/∃ o,H a=some o/\(∀ H',H' a=some o->SqL K H' a xs)/\¬F a/\a≠tl
theorem am3.sq {H:Hp} {a tl:Addr} {F:Addr->Prop} {xs:List V} (h:am3 K H a tl F xs):SqL K H a xs:=by
 rcases h with h | ⟨o,e,h,_⟩
 ·exact h H
 ·exact h H e
def aiP (c:List (List Int)):Bool:=(c.headD []).headD 0==11
theorem am8 {pre as r:List Int} {p:Int}:Ox ((pre++p::(as++r)).map V.int) (some ((pre.length:Int)+1)) (some ((pre.length:Int)+1+(as.length:Nat)))=as.map V.int:=by
 unfold Ox
 have e1:((pre.length:Int)+1)=((pre.length+1:Nat):Int):=by omega
 have e2:((pre.length:Int)+1+(as.length:Nat))=((pre.length+1+as.length:Nat):Int):=by omega
 rw [e2,e1,HT.ahT,HT.ahT]
 have l:((pre++p::(as++r)).map V.int).length=pre.length+1+as.length+r.length:=by simp;omega
 rw [l,Nat.min_eq_left (by omega),Nat.min_eq_left (by omega),<-List.map_drop,<-List.map_take]
 congr 1
 have:pre++p::(as++r)=(pre++[p])++(as++r):=by simp
 rw [this,List.drop_append_of_le_length (by simp),List.drop_of_length_le (by simp),List.nil_append]
 rw [show pre.length+1+as.length - (pre.length+1)=as.length by omega,List.take_append_of_le_length (Nat.le_refl _),List.take_length]
seal Rc42.does
theorem aiB (a:List Int) (l:List (List Int)):PyFlat.told (a::l)=((a.length:Nat):Int)::a++PyFlat.told l:=by unfold PyFlat.told;rw [List.flatMap_cons]
theorem agw {Sp:Sps} (T:Txt K mg t) (g1:Sp.m8=zO t) (g2:Sp.answer=Ii t) {vs H Q E} (h:aib K vs H Q E):OO K t Sp (fin Q) (L2.start ["calls","chart","told","at","call","behind","numbers"] vs) H:=by
 obtain ⟨a,ns,rfl,hq,hl,_,hask,q⟩:=h
 have slz:=sizeLine_eq
 unfold PyRc42.answers_asked at hask
 cases hcs:PyRc42.calls ns with
 | none=>rw [hcs] at hask;cases hask
 | some cs=>
  rw [hcs] at hask
  have dec:=ajk hcs
  have eans:PyRc42.answers ns=PyFlat.told (PyFlat.played Rc42Neutral.step Rc42Neutral.start cs):=by unfold PyRc42.answers;rw [hcs]
  obtain ⟨ANS,hANS⟩:∃ A,A=PyRc42.answers ns:=⟨_,rfl⟩
  rw [<-hANS] at q eans
  simp only [Bool.and_eq_true,Rc42Neutral.asked,decide_eq_true_eq] at hask
  obtain ⟨_,⟨⟨al,c400,c10⟩,_⟩⟩:=hask
  have c10':(cs.filter aiP).length<=10:=c10
  unfold OO
  refine eO ?_
  simp_arith [g1]
  intro ca dx hca hdx _
  refine ⟨ca,dx,rfl,ay,λF0 H1 hI own bt=>⟨rfl,?_⟩⟩
  have s01:aP H H1:=λb o e=>bt b o (ao e hca) (by rw [aq (ao e hca),aq (ao e hdx)];exact e)
  refine eO ?_
  simp_arith
  refine ⟨Nat.zero_le _,λtl htl=>?_⟩
  have s12:aP H1 (upd H1 tl (.lst [])):=aT htl
  refine eO ?_
  simp_arith
  refine eO ?_
  obtain ⟨W,hW⟩:∃ W:Nat->St->Hp->Prop,∀ m σ H,W m σ H↔∃ pre rest cs' s F tld v4 v5 v6,m=cs'.length/\σ=[some (.ref a),some (.ref ca),some (.ref tl),some (.int ((pre.length:Nat):Int)),v4,v5,v6]/\ns=pre++rest/\Dec rest cs'/\cs'.all Rc42Neutral.asked1=true/\Wd t F H ca tl s/\¬F tl /\
   am3 K H a tl F (ns.map V.int)/\H tl=some (.lst (tld.map V.int))/\tld++PyFlat.told (PyFlat.played Rc42Neutral.step s cs')=ANS/\tld.length+3 * cs'.length+65535 * (cs'.filter aiP).length<=1000000:=⟨_,λ_ _ _=>Iff.rfl⟩
  refine ⟨W,⟨cs.length,(hW _ _ _).mpr ⟨[],ns,cs,{},λb=>F0 b/\H1 b≠none,[],none,none,none,rfl,rfl,rfl,dec,al,.inl ⟨rfl,hI.trim.same s12⟩,λz=>z.2 htl,?_,ay,by rw [eans];rfl,by simp;omega⟩⟩,λm σ H2 hw=>?_⟩
  ·rcases hq with (hr | ⟨o,hr⟩) | hk
   ·refine .inr ⟨_,s12 _ _ (s01 _ _ hr),λH' e=>.inl (.inl e),λz=>?_,ao (s01 _ _ hr) htl⟩
    rcases own a z.1 with e | e
    ·rw [e,hca] at hr;cases hr
    ·rw [aq (ao hr hca),aq (ao hr hdx),hr] at e;cases e
   ·refine .inr ⟨_,s12 _ _ (s01 _ _ hr),λH' e=>.inl (.inr ⟨o,e⟩),λz=>?_,ao (s01 _ _ hr) htl⟩
    rcases own a z.1 with e | e
    ·rw [e,hca] at hr;cases hr
    ·rw [aq (ao hr hca),aq (ao hr hdx),hr] at e;cases e
   ·exact .inl λH'=>.inr hk
  obtain ⟨pre,rest,cs',s,F,tld,v4,v5,v6,rfl,rfl,hns,hdec,hall,hwd,hF,hcal,htl2,hans,hbd⟩:=(hW _ _ _).mp hw
  simp_arith
  refine ⟨a,_,rfl,.inl hcal.sq,?_⟩
  simp_arith [List.length_map]
  cases hdec with
  | nil=>
   rw [hns,List.append_nil,if_neg (by omega)]
   simp_arith
   have:tld=ANS:=by rw [<-hans];simp [PyFlat.told,PyFlat.played]
   rw [this] at htl2
   exact q tl H2 htl2
  | @cons p as r cs' hdec=>
   have ln:ns.length=pre.length+(1+(as.length+r.length)):=by rw [hns];simp;omega
   rw [if_pos (by omega)]
   rw [List.all_cons,Bool.and_eq_true] at hall
   obtain ⟨cq,hco,hcal2⟩:=an5 hall.1
   have hst:Rc42Neutral.step s [p::as]=((Rc42.does s cq).1,(Rc42.does s cq).2.value::(Rc42.does s cq).2.numbers):=by unfold Rc42Neutral.step;rw [hco]
   have hsz:=hcal2.size s
   have htab:=hcal2.tab
   refine ⟨λσ' H'=>W cs'.length σ' H',λσ' H' h=>⟨cs'.length,by rw [List.length_cons];omega,h⟩,?_⟩
   refine eO ?_
   simp_arith
   refine ⟨a,_,_,.int p,rfl,rfl,hcal.sq,at_of rfl (by rw [hns,List.getElem?_map,List.getElem?_append_right (Nat.le_refl _),Nat.sub_self];rfl),?_⟩
   refine eO ?_
   simp_arith [an6]
   refine ⟨(as.length:Nat),htab,?_⟩
   refine eO ?_
   simp_arith [g2]
   refine ⟨a,_,rfl,hcal.sq,λg hg=>?_⟩
   have ecut:Ox (ns.map V.int) (some ((pre.length:Int)+1)) (some ((pre.length:Int)+1+(as.length:Nat)))=as.map V.int:=by rw [hns];exact am8
   rw [ecut]
   have s3:aP H2 (upd H2 g (.lst (as.map V.int))):=aT hg
   refine akO ay hcal2 (hwd.same s3) hF (s3 _ _ htl2) λF' H3 l hw3 nx hl3 e3=>?_
   have tl3:H3 tl=some (.lst (tld.map V.int)):=nx.stay _ _ (s3 _ _ htl2) hF
   have hF':¬F' tl:=λz=>by
    rcases nx.own _ z with z | z
    ·exact hF z
    ·rw [s3 _ _ htl2] at z;cases z
   have lt:l≠tl:=λz=>by
    rcases hl3 with w | w
    ·exact hF (z▸w)
    ·rw [z,s3 _ _ htl2] at w;cases w
   have hcal3:am3 K H3 a tl F' (ns.map V.int):=by
    rcases hcal with h | ⟨o,e,h,f,n⟩
    ·exact .inl h
    ·refine .inr ⟨o,nx.stay _ _ (s3 _ _ e) f,h,λz=>?_,n⟩
     rcases nx.own _ z with z | z
     ·exact f z
     ·rw [s3 _ _ e] at z;cases z
   obtain ⟨an,han⟩:∃ an,an=(Rc42.does s cq).2.value::(Rc42.does s cq).2.numbers:=⟨_,rfl⟩
   rw [<-han] at e3 hst
   have hanl:an.length<=if p=11 then 65537 else 2:=by
    rw [han,List.length_cons]
    split at hsz
    ·rename_i z;rw [if_pos z];omega
    ·rename_i z;rw [if_neg z];omega
   have hcost:1+an.length+65535 * (cs'.filter aiP).length<=3+65535 * (([p::as]::cs').filter aiP).length:=by
    rw [List.filter_cons]
    have e11:aiP [p::as]=decide (p=11):=by unfold aiP;simp;rfl
    rw [e11]
    by_cases z:p=11
    ·rw [if_pos z] at hanl
     simp only [z,decide_true,if_true,List.length_cons]
     omega
    ·rw [if_neg z] at hanl
     simp only [z,decide_false,Bool.false_eq_true,if_false]
     omega
   rw [List.length_cons] at hbd
   refine eO ?_
   simp_arith
   refine ⟨tyL tl3,?_⟩
   refine len e3 ?_
   refine app tl3 (by rw [List.length_map,slz];omega) ?_
   refine eO ?_
   simp_arith
   refine ⟨tyL ay,?_⟩
   refine ⟨tl,l,_,_,rfl,rfl,ay,by rw [aq lt];exact e3,by simp only [List.length_append,List.length_map,List.length_cons,List.length_nil,slz];omega,?_⟩
   simp_arith
   have up:∀ {H:Hp} {p:Addr} {a b:HO},upd (upd H p a) p b=upd H p b:=λ{H p a b}=>by funext z;unfold upd;split<;>rfl
   rw [up]
   have epl:(pre.length:Int)+1+(as.length:Nat)=(((pre++p::as).length:Nat):Int):=by simp;omega
   rw [epl]
   refine (hW _ _ _).mpr ⟨pre++p::as,r,cs',(Rc42.does s cq).1,F',tld++((an.length:Nat):Int)::an,some (.int p),some (.int (((pre++p::as).length:Nat):Int)),some (.ref l),rfl,rfl,by rw [hns];simp,hdec,hall.2,hw3.put tl3 hF',hF',?_,?_,?_,?_⟩
   ·rcases hcal3 with h | ⟨o,e,h,f,n⟩
    ·exact .inl h
    ·exact .inr ⟨o,by rw [aq n];exact e,h,f,n⟩
   ·rw [ay];congr 2;simp
   ·rw [<-hans]
    show _=tld++PyFlat.told ((Rc42Neutral.step s [p::as]).2::PyFlat.played Rc42Neutral.step (Rc42Neutral.step s [p::as]).1 cs')
    rw [hst,aiB]
    simp
   ·simp only [List.length_append,List.length_cons]
    omega
end SC
namespace SC
open PySem L2
def SPS (K:W.Frag) (t:Adr):Sps where
 gz:=ia
 KR:=Iq
 rD:=u9
 i6:=rA t
 aL:=cV t
 wK:=GO t
 m8:=zO t
 gw:=GH t
 kE:=TM t
 jr:=OY t
 qP:=agC t
 kW:=S3 t
 qH:=agg t
 vF:=akR t
 bx:=jw t
 dP:=wV t
 cB:=vO t
 cU:=oY t
 fQ:=uq t
 fP:=tW t
 gB:=yP t
 gJ:=yU t
 eU:=mD t
 mark:=gP
 oX:=xX
 marked:=qQ
 jE:=mH t
 kO:=qc t
 j3:=oq t
 Gf:=Iv t
 jm:=pF t
 qK:=BF t
 jA:=B6 t
 gg:=Bj t
 jF:=Ce t
 gE:=uw t
 qp:=ux
 Vr:=Vc
 nJ:=ur t
 wc:=HQ t
 qD:=t9 t
 vv:=RS t
 qM:=NS t
 mT:=Ik t
 vL:=R0 t
 iY:=Bh t
 jk:=A8 t
 qE:=NU t
 jO:=sC t
 wg:=RV t
 ng:=HZ t
 l6:=C1 t
 jJ:=yL t
 qx:=Mj t
 kq:=Cb t
 lW:=LB t
 BS:=aak t
 qS:=Xm t
 tell:=aaR t
 start:=M1 t
 ask:=abY t
 answer:=Ii t
 answers:=aib K
local macro_rules
 | `(tactic| trivial)=>`(tactic| (intro vs H Q E h;repeat (first | (obtain ⟨e,_⟩:=h;subst e;rfl) | obtain ⟨_,h⟩:=h)))
theorem whole {P:Program} {w:World} {K:W.Frag} {mg:Str->Option Value} {base:Heap} {t:Adr} (T:Txt K mg t):aQ P w K mg base CX0 11 t.jh t.uC ["calls"] (aib K):=by
 have ic:=Zx (P:=P) (w:=w) (base:=base) (S:=SPS K t) T  (by trivial) (λvs H Q E h=>aaA (E:=E) h)
 have Sh:=ajD (P:=P) (w:=w) (base:=base) (S:=SPS K t) T ic (by trivial) (λvs H Q E h=>ajF (E:=E) rfl h)
 have uE:=agt (P:=P) (w:=w) (base:=base) (S:=SPS K t) T Sh (by trivial) (λvs H Q E h=>agR (E:=E) rfl h)
 have kY:=V2 (P:=P) (w:=w) (base:=base) (S:=SPS K t) T  (by trivial) (λvs H Q E h=>Wo (E:=E) T h)
 have aO:=IP (P:=P) (w:=w) (base:=base) (S:=SPS K t) T  (by trivial) (λvs H Q E h=>V4 (E:=E) T h)
 have KL:=afF (P:=P) (w:=w) (base:=base) (S:=SPS K t) T  (by trivial) (λvs H Q E h=>aeU (E:=E) T h)
 have jX:=Ui (P:=P) (w:=w) (base:=base) (S:=SPS K t) T kY (by trivial) (λvs H Q E h=>ajL (E:=E) T rfl h)
 have Cy:=WB (P:=P) (w:=w) (base:=base) (S:=SPS K t) T jX (by trivial) (λvs H Q E h=>Wv (E:=E) rfl h)
 have bI:=Lc (P:=P) (w:=w) (base:=base) (S:=SPS K t) T  (by trivial) (λvs H Q E h=>ZH (E:=E) T h)
 have J5:=aed (P:=P) (w:=w) (base:=base) (S:=SPS K t) T bI aO uE (by trivial) (λvs H Q E h=>apf (E:=E) T rfl rfl rfl h)
 have gW:=Og (P:=P) (w:=w) (base:=base) (S:=SPS K t) T  (by trivial) (λvs H Q E h=>ahw (E:=E) T h)
 have zW:=Tg (P:=P) (w:=w) (base:=base) (S:=SPS K t) T gW ic (by trivial) (λvs H Q E h=>akU (E:=E) T rfl rfl h)
 have Gy:=ZO (P:=P) (w:=w) (base:=base) (S:=SPS K t) T gW uE (by trivial) (λvs H Q E h=>anW (E:=E) T rfl rfl h)
 have cK:=UP (P:=P) (w:=w) (base:=base) (S:=SPS K t) T aO (by trivial) (λvs H Q E h=>aj7 (E:=E) T rfl h)
 have wZ:=Rn (P:=P) (w:=w) (base:=base) (S:=SPS K t) T bI cK (by trivial) (λvs H Q E h=>ai8 (E:=E) T rfl rfl h)
 have fM:=KS (P:=P) (w:=w) (base:=base) (S:=SPS K t) T cK (by trivial) (λvs H Q E h=>aas (E:=E) T rfl h)
 have o8:=KQ (P:=P) (w:=w) (base:=base) (S:=SPS K t) T  (by trivial) (λvs H Q E h=>YF (E:=E) T h)
 have pU:=K9 (P:=P) (w:=w) (base:=base) (S:=SPS K t) T cK aO (by trivial) (λvs H Q E h=>X8 (E:=E) T rfl rfl h)
 have qu:=NC (P:=P) (w:=w) (base:=base) (S:=SPS K t) T bI aO (by trivial) (λvs H Q E h=>afx (E:=E) T rfl rfl h)
 have Av:=T9 (P:=P) (w:=w) (base:=base) (S:=SPS K t) T qu kY (by trivial) (λvs H Q E h=>alR (E:=E) T rfl rfl h)
 have nB:=IM (P:=P) (w:=w) (base:=base) (S:=SPS K t) T o8 aO (by trivial) (λvs H Q E h=>Wu (E:=E) T rfl rfl h)
 have qR:=NL (P:=P) (w:=w) (base:=base) (S:=SPS K t) T bI nB aO (by trivial) (λvs H Q E h=>afl (E:=E) T rfl rfl rfl h)
 have FU:=X5 (P:=P) (w:=w) (base:=base) (S:=SPS K t) T qR KL (by trivial) (λvs H Q E h=>aoT (E:=E) T rfl rfl h)
 have bQ:=anx (P:=P) (w:=w) (base:=base) (S:=SPS K t) T  (by trivial) (λvs H Q E h=>amm (E:=E) h)
 have vA:=ad0 (P:=P) (w:=w) (base:=base) (S:=SPS K t) T bQ (by trivial) (λvs H Q E h=>aeB (E:=E) rfl h)
 have jS:=aiV (P:=P) (w:=w) (base:=base) (S:=SPS K t) T  (by trivial) (λvs H Q E h=>ajl (E:=E) h)
 have xH:=Q0 (P:=P) (w:=w) (base:=base) (S:=SPS K t) T bQ (by trivial) (λvs H Q E h=>Rk (E:=E) T rfl h)
 have zT:=UK (P:=P) (w:=w) (base:=base) (S:=SPS K t) T bQ (by trivial) (λvs H Q E h=>T6 (E:=E) T rfl h)
 have nO:=XY (P:=P) (w:=w) (base:=base) (S:=SPS K t) T  (by trivial) (λvs H Q E h=>Zr (E:=E) T h)
 have SW:=aiU (P:=P) (w:=w) (base:=base) (S:=SPS K t) T bQ nO (by trivial) (λvs H Q E h=>ajy (E:=E) T rfl rfl h)
 have zQ:=Sz (P:=P) (w:=w) (base:=base) (S:=SPS K t) T fM aO bQ nO (by trivial) (λvs H Q E h=>UU (E:=E) T rfl rfl rfl rfl h)
 have Hg:=YN (P:=P) (w:=w) (base:=base) (S:=SPS K t) T fM cK aO xH zQ zT jS vA SW (by trivial) (λvs H Q E h=>X7 (E:=E) T rfl rfl rfl rfl rfl rfl rfl rfl rfl h)
 have vM:=Rt (P:=P) (w:=w) (base:=base) (S:=SPS K t) T  (by trivial) (λvs H Q E h=>ahg (E:=E) T h)
 have vf:=QV (P:=P) (w:=w) (base:=base) (S:=SPS K t) T bQ (by trivial) (λvs H Q E h=>aha (E:=E) T rfl h)
 have jW:=Uj (P:=P) (w:=w) (base:=base) (S:=SPS K t) T vf (by trivial) (λvs H Q E h=>ajs (E':=E) T rfl h)
 have qF:=Mq (P:=P) (w:=w) (base:=base) (S:=SPS K t) T bQ (by trivial) (λvs H Q E h=>Zd (E':=E) T rfl h)
 have ES:=abr (P:=P) (w:=w) (base:=base) (S:=SPS K t) T  (by trivial) (λvs H Q E h=>aao (E:=E) h)
 have abN:=alm (P:=P) (w:=w) (base:=base) (S:=SPS K t) T  (by trivial) (λvs H Q E h=>akT (E:=E) h)
 have yK:=aaJ (P:=P) (w:=w) (base:=base) (S:=SPS K t) T  (by trivial) (λvs H Q E h=>abI (E:=E) T h)
 have JX:=afL (P:=P) (w:=w) (base:=base) (S:=SPS K t) T Hg (by trivial) (λvs H Q E h=>aey (E:=E) T rfl h)
 have FJ:=aaP (P:=P) (w:=w) (base:=base) (S:=SPS K t) T bQ (by trivial) (λvs H Q E h=>ajZ (E:=E) T rfl h)
 have Cp:=VH (P:=P) (w:=w) (base:=base) (S:=SPS K t) T ic (by trivial) (λvs H Q E h=>ajA (E:=E) T rfl h)
 have Kc:=afq (P:=P) (w:=w) (base:=base) (S:=SPS K t) T  (by trivial) (λvs H Q E h=>amQ (E:=E) T h)
 have vI:=QT (P:=P) (w:=w) (base:=base) (S:=SPS K t) T abN (by trivial) (λvs H Q E h=>aew (E:=E) T rfl h)
 have Hx:=abF (P:=P) (w:=w) (base:=base) (S:=SPS K t) T vI (by trivial) (λvs H Q E h=>alp (E:=E) T rfl h)
 have Lm:=afj (P:=P) (w:=w) (base:=base) (S:=SPS K t) T yK vM (by trivial) (λvs H Q E h=>amx (E:=E) T rfl rfl h)
 have BD:=Wy (P:=P) (w:=w) (base:=base) (S:=SPS K t) T bQ (by trivial) (λvs H Q E h=>ajm (E:=E) T rfl h)
 have kD:=Za (P:=P) (w:=w) (base:=base) (S:=SPS K t) T BD Lm Hx (by trivial) (λvs H Q E h=>aj8 (E:=E) T rfl rfl rfl h)
 have wU:=Rq (P:=P) (w:=w) (base:=base) (S:=SPS K t) T bQ (by trivial) (λvs H Q E h=>aeQ (E:=E) T rfl h)
 have Ad:=Vm (P:=P) (w:=w) (base:=base) (S:=SPS K t) T jW bQ jS (by trivial) (λvs H Q E h=>ahk (E:=E) T rfl rfl rfl h)
 have N5:=agE (P:=P) (w:=w) (base:=base) (S:=SPS K t) T qF (by trivial) (λvs H Q E h=>an3 (E:=E) T rfl h)
 have pM:=ai1 (P:=P) (w:=w) (base:=base) (S:=SPS K t) T ES (by trivial) (λvs H Q E h=>ao2 (E:=E) T rfl h)
 have Ew:=Zi (P:=P) (w:=w) (base:=base) (S:=SPS K t) T pM bQ jS (by trivial) (λvs H Q E h=>alE (E:=E) T rfl rfl rfl h)
 have qX:=aeF (P:=P) (w:=w) (base:=base) (S:=SPS K t) T pM N5 bQ jS (by trivial) (λvs H Q E h=>alU (E:=E) T rfl rfl rfl rfl h)
 have qC:=afK (P:=P) (w:=w) (base:=base) (S:=SPS K t) T qX Ad pM Ew wU (by trivial) (λvs H Q E h=>al8 (E:=E) T rfl rfl rfl rfl rfl h)
 have lH:=VP (P:=P) (w:=w) (base:=base) (S:=SPS K t) T kD qC (by trivial) (λvs H Q E h=>aiI (E:=E) T rfl rfl h)
 have Gi:=abW (P:=P) (w:=w) (base:=base) (S:=SPS K t) T jW qX lH bQ (by trivial) (λvs H Q E h=>Zy (E:=E) T rfl rfl rfl rfl h)
 have Kn:=aeh (P:=P) (w:=w) (base:=base) (S:=SPS K t) T kD lH qC (by trivial) (λvs H Q E h=>am5 (E:=E) T rfl rfl rfl h)
 have agG:=alW (P:=P) (w:=w) (base:=base) (S:=SPS K t) T Gy wZ zW J5 Av FU (by trivial) (λvs H Q E h=>amE (E:=E) T rfl rfl rfl rfl rfl rfl h)
 have Z1:=ake (P:=P) (w:=w) (base:=base) (S:=SPS K t) T pU JX Gi (by trivial) (λvs H Q E h=>ak4 (E:=E) T rfl rfl rfl h)
 have alz:=aof (P:=P) (w:=w) (base:=base) (S:=SPS K t) T FJ Cp Kn Kc (by trivial) (λvs H Q E h=>aoM (E:=E) T rfl rfl rfl rfl h)
 have S4:=ai5 (P:=P) (w:=w) (base:=base) (S:=SPS K t) T jX alz Z1 agG (by trivial) (λvs H Q E h=>aix (E:=E) T rfl rfl rfl rfl h)
 have ajc:=ahd (P:=P) (w:=w) (base:=base) (S:=SPS K t) T Cy S4 (by trivial) (λvs H Q E h=>agw (E:=E) T rfl rfl h)
 exact ajc
end SC
structure PySem.W.Fast:Prop where(tw11917792786937843813 tw9850761526784030659 tw14603313845817650098 tw13499346901686641812 tw15195184377158292612 tw11052722740106279576 tw13220165941978661281 tw4243727064263266447 tw12680908230133404699 tw2866204499655619687 tw5998970015752258541 tw18000690640259819578 tw7452999214331602534 tw1293691636451357978 tw5773028674980252637 tw11841292501932982611 tw11867975451000440016 tw15065847174774486194 tw2778668792872739114 tw11517178260064812301 tw18163871875192116092 tw5777612634496476413 tw18420555208890637664 tw2633151857818397765 tw3688664132782073984 tw17450651968585851356 tw7669150854950503824 tw7452482472265793881 tw6187367683998920536 tw2189300384754444607 tw11328766873967859167 tw2474500459581672230 tw680764924141680763 tw6601727239278683983 tw6882910947601845889 tw4550284062322627692 tw18138242062071878016 tw8711498111884021237 tw5746842877713389383 tw8622981525401229226 tw10133165016891434987 tw9139508990379335316 tw4467403976065079302 tw6535468519496115772 tw7151202888204401061 tw1340966462590116179 tw16840156034344592345 tw2173648677970110028 tw7118727253334937796 tw8702246447910559759 tw15181349359789628796 tw8107817823841909232 tw15902179640338253100 tw6274823093692737889 tw16322073233749034615 tw11345765708843814988 tw11378170509767909536 tw9919359507678823245 tw17930626269265308488 tw14623580045331711853 tw16490958875475461751 tw9378609264890452017 tw14529621749734212684 tw9154040578524807658 tw9957448451075168237 tw11557952716486866363 tw7032611816804211994 tw6825969345151241281 tw3529554781905820266 tw7999933407053073480 tw396837083721581077 tw2499620510565397745 tw824767303852848061 tw7366908592582782192 tw18165621791799585314 tw11821252447572893799 tw2377776096068593688 tw18226211695602728763 tw13984175668901115008 tw7312509801537245849 tw7980547266618297630 tw14224456277704689323 tw8121634115552812484 tw14568769069169238039 tw9252885204494063221 tw2518797035111621719 tw15222377494038525724 tw8235621452561625106 tw9305763895945658136 tw9043076111570203327 tw17800431644031454535 tw17624378259267233087 tw10794860265778309417 tw17288247620270622052 tw10841885064410198564 tw2471078401361910501 tw7815670313980798080 tw18278191788614173839 tw17012245746230122457 tw6417023944845938307 tw17179498988595909486 tw3498917677176489698 tw6803195474522343379 tw7346218883020586779 tw12563661451427240590 tw13972731668068451029 tw9403737962964050968 tw5428661918283636844 tw15631270843969097489 tw6964477810308666235 tw6104602194679510643 tw11258588407770254315 tw9945774064586254630 tw1235782446120387878 tw9506049256946109494 tw8381589955579633095 tw3322111464002852443 tw17738090289560794457 tw9456388263368801509 tw5493004677692434612 tw1200978348995950137 tw14857685659916499981 tw15595337847070198452 tw5003100686350946750 tw11452554026715755047 tw17024499929441866279 tw11494139298919214781 tw6646412994206850661 tw8620183448538196150 tw6927296641563123678 tw1325760485107625891 tw12673488049111502044 tw16141290867053839639 tw11579445629784746819 tw17675296589183196472 tw16405520019158779575 tw756334993708414480 tw6156946190354948756 tw17148773659910139413 tw2347710350850152842 tw9123762043406691448 tw17090633874012923898 tw2597366716076855675 tw5035961997623923713 tw9998119181987245384 tw2772018709469287843 tw14546204268589153058 tw4400326235121566050 tw7306424099967114948 tw11064820141233749009 tw17819639864150699140 tw6793665699228075536 tw12403791247921250146 tw12292024000919515480 tw22507975552128090 tw4673794890490770764 tw13808704144128481699 tw17865128854516797961 tw6727451828858132635 tw818158948395361800 tw15646833273861267798 tw15523695276007418088 tw11954607437875209282 tw3074177982484400963 tw10138574196669312885 tw15584719463647941957 tw10735710820603570723 tw18361317537485973604 tw8176118166382184261 tw17933091393182943362 tw357706208713547729 tw6265176492581919899 tw3089525513988502352 tw6805154717521519132 tw17757625536035183311 tw13423504567660258062 tw17844179009021452558 tw11459022079313783409 tw1884791723203394002 tw5848989523410422705 tw5509382148247915227 tw11359425330234866838 tw7482469662579415517 tw5682916986202901907 tw9005281399358485315 tw11671006670159052273 tw3047934357855658148 tw12181356815252549535 tw2602554310935374118 tw5659451705820973861:True)
open PySem PySem.W PyProof.Rows
set_option maxRecDepth 100000 in
set_option maxHeartbeats 0 in
theorem PySem.Challenge.cw_statecharts_s01_answers_holds : PySem.Challenge.rw_statecharts_s01_answers.Holds := by
 w_on;k_headS;(case hw=>exact ⟨[.list []],by decide +kernel,by decide +kernel⟩)
 k_fillS
 refine L2.aiW (prog:=PySem.Challenge.pw_statecharts_s01_answers) (k:=11) (x:="calls") (CX:=L2.CX0) (sp:=SC.aib) (by decide) rfl ⟨rfl,by decide,by decide⟩ (λw h Y=>W.kIn_of Y) ?F ?S ?C
 case F=>
  intro w mg fa h KX G hmg
  have T:∃ t,SC.Txt (L2.KOf KX) mg t/\t.jh=fa/\∀ (s:Shared) (u:Value),BindsTo s t.uC ⟨[u],[]⟩ [("calls",u)]:=by
   dsimp only [L2.KOf]
   refine' SC.aoc KX G hmg ?Uq ?US ?To ?UZ ?UA ?p9 ?SM ?sM ?zJ ?m7 ?ku ?j7 ?ag7 ?agK ?ag1 ?ag8 ?ahu ?Hj ?ahp ?z8 ?Bv ?z9 ?Kv ?Cj ?EC ?HN ?Sw ?Uc ?Sd ?T3 ?VC ?p8 ?Vp ?sY ?Ah ?CM ?abi ?aay ?aaO ?aaY ?Zt ?yG ?X4 ?uZ ?CQ ?xr ?Ay ?lP ?vC ?Cw ?AF ?o9 ?lO ?vG ?aaE ?Y9 ?ZJ ?abG ?Y0 ?Br ?Zl ?BV ?zS ?vS ?ag6 ?agZ ?agz ?agM ?agA ?B5 ?agj ?GR ?xG ?BY ?AB ?Ej ?zU ?CH ?Cq ?EI ?HH ?CN ?tY ?Uw ?Ue ?Ot ?Iw ?OB ?Oc ?J4 ?Bs ?BZ ?Ck ?BB ?Az ?zE ?mY ?nj ?mW ?lN ?i7 ?JQ ?JT ?JY ?EY ?Fc ?CL ?CV ?Ca ?Ao ?Ax ?Af ?Ab ?zy ?xj ?om ?zq ?AA ?zD ?uS ?qg ?xq ?xJ ?wD ?sO ?mK ?Hr ?GC ?G0 ?CS ?uf ?zP ?AE ?zG ?wA ?qe ?F7 ?GI ?Es ?CT ?uz ?Kw ?Lf ?JS ?Fw ?yh ?oJ ?pR ?pO ?nG ?jG ?tF ?sX ?sW ?qI ?lF ?zM ?Ac ?zz ?vq ?pG ?oR ?oh ?pQ ?m9 ?jM ?pY ?nX ?oF ?nv ?jv ?oE ?oO ?nU ?nI ?jC ?qO ?qB ?qk ?pq ?kc ?qJ ?qL ?qj ?pD ?kg ?ny ?mU ?nt ?lJ ?i8 ?agr ?agF ?Yv ?RT ?KA ?Kh ?GB ?ym ?TF ?UW ?Od ?HY ?vQ ?vY ?sL ?mQ ?zB ?Au ?vz ?pI ?HG ?FI ?CU ?uu ?Uu ?UX ?OT ?Io ?zK ?Ae ?vd ?o5 ?EO ?FO ?FF ?Df ?Cu ?wF ?uY ?uV ?sJ ?mF ?Am ?AH ?AG ?xy ?pN ?wC ?xF ?vN ?sU ?mJ ?qW ?ql ?qG ?oM ?ki ?EB ?Hz ?BC ?uo ?ZZ ?Z2 ?Ut ?MP ?Ht ?FD ?F8 ?BG ?Co ?KD ?Kl ?Ku ?GF ?Hh ?Ey ?GW ?Gj ?BN ?uy ?Lg ?JV ?J2 ?HJ ?yQ ?Ec ?E5 ?FY ?Cc ?t6 ?BK ?Cm ?C2 ?zZ ?qY ?JZ ?K4 ?K8 ?Ea ?yx ?BO ?B3 ?CI ?zN ?rN ?EL ?E3 ?Hl ?Bp ?um ?Hv ?EJ ?HB ?C0 ?tZ ?vE ?vK ?u6 ?sP ?mP ?K7 ?KZ ?Li ?Fe ?yc ?CO ?BU ?CY ?As ?rH ?Kd ?KW ?Ld ?GJ ?zf ?vB ?uW ?xw ?sG ?mG ?El ?F9 ?Gp ?CP ?t8 ?Aq ?zF ?zu ?vg ?o6 ?Lh ?Le ?JW ?Gv ?yp ?Oq ?OZ ?Oa ?Kp ?Ct ?UT ?TH ?Us ?N7 ?Ig ?agh ?ahb ?Ym ?Sa ?abw ?YI ?SO ?L6 ?akB ?aln ?agW ?Zo ?Ve ?Uz ?OM ?IA ?Ie ?OC ?KN ?BQ ?fB ?iz ?dF ?AI ?mS ?yq ?qN ?Kf ?A7 ?fF ?ug ?ji ?lA ?lG ?gH ?jY ?nK ?gK ?Ir ?qT ?Bm ?Il ?j4 ?fO ?C3 ?Ia ?A3 ?A6 ?uH ?N6 ?AK ?OR ?vR ?Ij ?WI ?uG ?qm ?Ic ?Oo ?ON ?OU ?OH ?iK ?iT ?yN ?O1 ?rS ?nQ
   (case Uq=>k_is)
   (case US=>k_is)
   (case To=>k_is)
   (case UZ=>k_is)
   (case UA=>k_is)
   (case p9=>k_is)
   (case SM=>k_is)
   (case sM=>k_is)
   (case zJ=>k_is)
   (case m7=>k_is)
   (case ku=>k_is)
   (case j7=>k_is)
   (case ag7=>k_is)
   (case agK=>k_is)
   (case ag1=>k_is)
   (case ag8=>k_is)
   (case ahu=>k_is)
   (case Hj=>k_is)
   (case ahp=>k_is)
   (case z8=>k_is)
   (case Bv=>k_is)
   (case z9=>k_is)
   (case Kv=>k_is)
   (case Cj=>k_is)
   (case EC=>k_is)
   (case HN=>k_is)
   (case Sw=>k_is)
   (case Uc=>k_is)
   (case Sd=>k_is)
   (case T3=>k_is)
   (case VC=>k_is)
   (case p8=>k_is)
   (case Vp=>k_is)
   (case sY=>k_is)
   (case Ah=>k_is)
   (case CM=>k_is)
   (case abi=>k_is)
   (case aay=>k_is)
   (case aaO=>k_is)
   (case aaY=>k_is)
   (case Zt=>k_is)
   (case yG=>k_is)
   (case X4=>k_is)
   (case uZ=>k_is)
   (case CQ=>k_is)
   (case xr=>k_is)
   (case Ay=>k_is)
   (case lP=>k_is)
   (case vC=>k_is)
   (case Cw=>k_is)
   (case AF=>k_is)
   (case o9=>k_is)
   (case lO=>k_is)
   (case vG=>k_is)
   (case aaE=>k_is)
   (case Y9=>k_is)
   (case ZJ=>k_is)
   (case abG=>k_is)
   (case Y0=>k_is)
   (case Br=>k_is)
   (case Zl=>k_is)
   (case BV=>k_is)
   (case zS=>k_is)
   (case vS=>k_is)
   (case ag6=>k_is)
   (case agZ=>k_is)
   (case agz=>k_is)
   (case agM=>k_is)
   (case agA=>k_is)
   (case B5=>k_is)
   (case agj=>k_is)
   (case GR=>k_is)
   (case xG=>k_is)
   (case BY=>k_is)
   (case AB=>k_is)
   (case Ej=>k_is)
   (case zU=>k_is)
   (case CH=>k_is)
   (case Cq=>k_is)
   (case EI=>k_is)
   (case HH=>k_is)
   (case CN=>k_is)
   (case tY=>k_is)
   (case Uw=>k_is)
   (case Ue=>k_is)
   (case Ot=>k_is)
   (case Iw=>k_is)
   (case OB=>k_is)
   (case Oc=>k_is)
   (case J4=>k_is)
   (case Bs=>k_is)
   (case BZ=>k_is)
   (case Ck=>k_is)
   (case BB=>k_is)
   (case Az=>k_is)
   (case zE=>k_is)
   (case mY=>k_is)
   (case nj=>k_is)
   (case mW=>k_is)
   (case lN=>k_is)
   (case i7=>k_is)
   (case JQ=>k_is)
   (case JT=>k_is)
   (case JY=>k_is)
   (case EY=>k_is)
   (case Fc=>k_is)
   (case CL=>k_is)
   (case CV=>k_is)
   (case Ca=>k_is)
   (case Ao=>k_is)
   (case Ax=>k_is)
   (case Af=>k_is)
   (case Ab=>k_is)
   (case zy=>k_is)
   (case xj=>k_is)
   (case om=>k_is)
   (case zq=>k_is)
   (case AA=>k_is)
   (case zD=>k_is)
   (case uS=>k_is)
   (case qg=>k_is)
   (case xq=>k_is)
   (case xJ=>k_is)
   (case wD=>k_is)
   (case sO=>k_is)
   (case mK=>k_is)
   (case Hr=>k_is)
   (case GC=>k_is)
   (case G0=>k_is)
   (case CS=>k_is)
   (case uf=>k_is)
   (case zP=>k_is)
   (case AE=>k_is)
   (case zG=>k_is)
   (case wA=>k_is)
   (case qe=>k_is)
   (case F7=>k_is)
   (case GI=>k_is)
   (case Es=>k_is)
   (case CT=>k_is)
   (case uz=>k_is)
   (case Kw=>k_is)
   (case Lf=>k_is)
   (case JS=>k_is)
   (case Fw=>k_is)
   (case yh=>k_is)
   (case oJ=>k_is)
   (case pR=>k_is)
   (case pO=>k_is)
   (case nG=>k_is)
   (case jG=>k_is)
   (case tF=>k_is)
   (case sX=>k_is)
   (case sW=>k_is)
   (case qI=>k_is)
   (case lF=>k_is)
   (case zM=>k_is)
   (case Ac=>k_is)
   (case zz=>k_is)
   (case vq=>k_is)
   (case pG=>k_is)
   (case oR=>k_is)
   (case oh=>k_is)
   (case pQ=>k_is)
   (case m9=>k_is)
   (case jM=>k_is)
   (case pY=>k_is)
   (case nX=>k_is)
   (case oF=>k_is)
   (case nv=>k_is)
   (case jv=>k_is)
   (case oE=>k_is)
   (case oO=>k_is)
   (case nU=>k_is)
   (case nI=>k_is)
   (case jC=>k_is)
   (case qO=>k_is)
   (case qB=>k_is)
   (case qk=>k_is)
   (case pq=>k_is)
   (case kc=>k_is)
   (case qJ=>k_is)
   (case qL=>k_is)
   (case qj=>k_is)
   (case pD=>k_is)
   (case kg=>k_is)
   (case ny=>k_is)
   (case mU=>k_is)
   (case nt=>k_is)
   (case lJ=>k_is)
   (case i8=>k_is)
   (case agr=>k_is)
   (case agF=>k_is)
   (case Yv=>k_is)
   (case RT=>k_is)
   (case KA=>k_is)
   (case Kh=>k_is)
   (case GB=>k_is)
   (case ym=>k_is)
   (case TF=>k_is)
   (case UW=>k_is)
   (case Od=>k_is)
   (case HY=>k_is)
   (case vQ=>k_is)
   (case vY=>k_is)
   (case sL=>k_is)
   (case mQ=>k_is)
   (case zB=>k_is)
   (case Au=>k_is)
   (case vz=>k_is)
   (case pI=>k_is)
   (case HG=>k_is)
   (case FI=>k_is)
   (case CU=>k_is)
   (case uu=>k_is)
   (case Uu=>k_is)
   (case UX=>k_is)
   (case OT=>k_is)
   (case Io=>k_is)
   (case zK=>k_is)
   (case Ae=>k_is)
   (case vd=>k_is)
   (case o5=>k_is)
   (case EO=>k_is)
   (case FO=>k_is)
   (case FF=>k_is)
   (case Df=>k_is)
   (case Cu=>k_is)
   (case wF=>k_is)
   (case uY=>k_is)
   (case uV=>k_is)
   (case sJ=>k_is)
   (case mF=>k_is)
   (case Am=>k_is)
   (case AH=>k_is)
   (case AG=>k_is)
   (case xy=>k_is)
   (case pN=>k_is)
   (case wC=>k_is)
   (case xF=>k_is)
   (case vN=>k_is)
   (case sU=>k_is)
   (case mJ=>k_is)
   (case qW=>k_is)
   (case ql=>k_is)
   (case qG=>k_is)
   (case oM=>k_is)
   (case ki=>k_is)
   (case EB=>k_is)
   (case Hz=>k_is)
   (case BC=>k_is)
   (case uo=>k_is)
   (case ZZ=>k_is)
   (case Z2=>k_is)
   (case Ut=>k_is)
   (case MP=>k_is)
   (case Ht=>k_is)
   (case FD=>k_is)
   (case F8=>k_is)
   (case BG=>k_is)
   (case Co=>k_is)
   (case KD=>k_is)
   (case Kl=>k_is)
   (case Ku=>k_is)
   (case GF=>k_is)
   (case Hh=>k_is)
   (case Ey=>k_is)
   (case GW=>k_is)
   (case Gj=>k_is)
   (case BN=>k_is)
   (case uy=>k_is)
   (case Lg=>k_is)
   (case JV=>k_is)
   (case J2=>k_is)
   (case HJ=>k_is)
   (case yQ=>k_is)
   (case Ec=>k_is)
   (case E5=>k_is)
   (case FY=>k_is)
   (case Cc=>k_is)
   (case t6=>k_is)
   (case BK=>k_is)
   (case Cm=>k_is)
   (case C2=>k_is)
   (case zZ=>k_is)
   (case qY=>k_is)
   (case JZ=>k_is)
   (case K4=>k_is)
   (case K8=>k_is)
   (case Ea=>k_is)
   (case yx=>k_is)
   (case BO=>k_is)
   (case B3=>k_is)
   (case CI=>k_is)
   (case zN=>k_is)
   (case rN=>k_is)
   (case EL=>k_is)
   (case E3=>k_is)
   (case Hl=>k_is)
   (case Bp=>k_is)
   (case um=>k_is)
   (case Hv=>k_is)
   (case EJ=>k_is)
   (case HB=>k_is)
   (case C0=>k_is)
   (case tZ=>k_is)
   (case vE=>k_is)
   (case vK=>k_is)
   (case u6=>k_is)
   (case sP=>k_is)
   (case mP=>k_is)
   (case K7=>k_is)
   (case KZ=>k_is)
   (case Li=>k_is)
   (case Fe=>k_is)
   (case yc=>k_is)
   (case CO=>k_is)
   (case BU=>k_is)
   (case CY=>k_is)
   (case As=>k_is)
   (case rH=>k_is)
   (case Kd=>k_is)
   (case KW=>k_is)
   (case Ld=>k_is)
   (case GJ=>k_is)
   (case zf=>k_is)
   (case vB=>k_is)
   (case uW=>k_is)
   (case xw=>k_is)
   (case sG=>k_is)
   (case mG=>k_is)
   (case El=>k_is)
   (case F9=>k_is)
   (case Gp=>k_is)
   (case CP=>k_is)
   (case t8=>k_is)
   (case Aq=>k_is)
   (case zF=>k_is)
   (case zu=>k_is)
   (case vg=>k_is)
   (case o6=>k_is)
   (case Lh=>k_is)
   (case Le=>k_is)
   (case JW=>k_is)
   (case Gv=>k_is)
   (case yp=>k_is)
   (case Oq=>k_is)
   (case OZ=>k_is)
   (case Oa=>k_is)
   (case Kp=>k_is)
   (case Ct=>k_is)
   (case UT=>k_is)
   (case TH=>k_is)
   (case Us=>k_is)
   (case N7=>k_is)
   (case Ig=>k_is)
   (case agh=>k_is)
   (case ahb=>k_is)
   (case Ym=>k_is)
   (case Sa=>k_is)
   (case abw=>k_is)
   (case YI=>k_is)
   (case SO=>k_is)
   (case L6=>k_is)
   (case akB=>k_is)
   (case aln=>k_is)
   (case agW=>k_is)
   (case Zo=>k_is)
   (case Ve=>k_is)
   (case Uz=>k_is)
   (case OM=>k_is)
   (case IA=>k_is)
   (case Ie=>k_is)
   (case OC=>k_is)
   (case KN=>k_is)
   (case BQ=>k_is)
   (case fB=>k_is)
   (case iz=>k_is)
   (case dF=>k_is)
   (case AI=>k_is)
   (case mS=>k_is)
   (case yq=>k_is)
   (case qN=>k_is)
   (case Kf=>k_is)
   (case A7=>k_is)
   (case fF=>k_is)
   (case ug=>k_is)
   (case ji=>k_is)
   (case lA=>k_is)
   (case lG=>k_is)
   (case gH=>k_is)
   (case jY=>k_is)
   (case nK=>k_is)
   (case gK=>k_is)
   (case Ir=>k_is)
   (case qT=>k_is)
   (case Bm=>k_is)
   (case Il=>k_is)
   (case j4=>k_is)
   (case fO=>k_is)
   (case C3=>k_is)
   (case Ia=>k_is)
   (case A3=>k_is)
   (case A6=>k_is)
   (case uH=>k_is)
   (case N6=>k_is)
   (case AK=>k_is)
   (case OR=>k_is)
   (case vR=>k_is)
   (case Ij=>k_is)
   (case WI=>k_is)
   (case uG=>k_is)
   (case qm=>k_is)
   (case Ic=>k_is)
   (case Oo=>k_is)
   (case ON=>k_is)
   (case OU=>rfl)
   (case OH=>rfl)
   (case iK=>k_is)
   (case iT=>k_is)
   (case yN=>k_is)
   (case O1=>k_is)
   (case rS=>k_is)
   (case nQ=>k_is)
  obtain ⟨t,T,e,hb⟩:=T
  subst e
  exact ⟨_,hb,λbase kb nb=>SC.whole T⟩
 case S=>exact λK H a ns h0 h1 h2 h3 hO hS=>⟨a,ns,rfl,hS,h1,h2,h3,λp H' e=>⟨p,rfl,e⟩⟩
 case C=>exact λ_ _ _ _ h=>h.elim
